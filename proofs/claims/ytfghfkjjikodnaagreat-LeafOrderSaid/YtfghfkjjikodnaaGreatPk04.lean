/- What the proof of this claim stands on, part 5: an evaluator of the model, proved right, and what it answers for functions of the program. -/
import Derived.Test.YtfghfkjjikodnaaGreatPk03
set_option linter.unusedSimpArgs false
namespace Go.Ev
open Go.Proofs Go.Sort
set_option maxRecDepth 100000
set_option linter.unusedSimpArgs false
attribute [local irreducible] Wp WpS
/-! ### the word of a place -/
/-! ### the places of a copy that are in doubt -/
def plsV : List P3 → AV
  | [] => .v (.slice none 0 0)
  | p :: l => .vs 3 ((p :: l).map p3V) none
theorem chunk_pls : ∀ f : List P3, chunk 3 f.length (clP f) = f.map p3V
  | [] => rfl
  | r :: f => by
    rw [clP_cons, List.length_cons, List.map_cons, ← chunk_pls f]; rfl
def In59 (id : Int) (x : AV) (n j : Nat) (f : List P3) (a : AAct) (H : Heap) : Prop :=
  (f = [] ∧ a = ⟨23, [(0, .agg [intA id, x]), (1, .ptr 0 0 0), (2, .v (.slice none 0 0)), (3, .v (.slice none 0 0)), (7, x), (8, intA n), (9, intA j)], []⟩ ∧ H = ⟨[some (.cells 0 0 53 1 false [intA id, x])], 0⟩) ∨
  ∃ c1 v, f ≠ [] ∧ a = ⟨23, [(0, .agg [intA id, x]), (1, .ptr 0 0 0), (2, .v (.slice none 0 0)), (3, .sl 2 v 0 f.length none), (7, x), (8, intA n), (9, intA j)], []⟩ ∧ H = ⟨[some (.cells 0 0 53 1 false [intA id, x]), some (.cells 0 0 65 1 false c1), some (.cells v 0 32 3 true (clP f))], 0⟩
theorem freeze_pls (H : Heap) (b v : Nat) (f : List P3) (hf : f ≠ []) (hk : H.lock = 0) (hr : H.row b v = some (0, 32, 3, true, clP f)) : freezeV H 1000000 (.sl b v 0 f.length none) = some (plsV f) := by
  have : plsV f = .vs 3 (f.map p3V) none := by cases f with | nil => exact absurd rfl hf | cons r f => rfl
  rw [this, ← chunk_pls f]
  unfold freezeV
  simp only [hr, hk]
  rw [if_neg (by omega), if_pos ⟨by rw [clP_len]; omega, by omega⟩, if_pos trivial, List.drop_zero, List.take_of_length_le (by rw [clP_len]; omega)]
theorem dbtL_step (l : List Rd) {j : Nat} {r : Rd} (hr : l[j]? = some r) : dbtL (l.take (j + 1)) = dbtL (l.take j) ++ if r.kind = 2 then [] else [atR r] := by
  unfold dbtL
  rw [List.take_add_one, hr, List.filter_append, List.map_append]
  by_cases h : r.kind = 2 <;> simp [h]
set_option maxHeartbeats 1000000 in
theorem ans59 {e : Exts} (_he : Quiet e) (id : Int) (l : List Rd) (x : AV) (hx : RdsA l x) (hn : l.length < 2 ^ 33) : Ans (Cx e) 59 [.agg [intA id, x]] (plsV (dbtL l)) := by
  have hx : SlOf 5 (l.map rdV) x := hx
  unfold Ans
  rw [fn_step (fn_59 e) (show Tryz.f59.body = some _ from rfl)]
  simp -implicitDefEqProofs only [Tryz.f59, go_sem, ↓reduceIte, Int.reduceEq, Int.reduceLT, Int.reduceLE, List.reduceReplicate, intA, setT_nil, setT_cons, hx.len, hx.cells, hx.flat, hx.bound, List.length_map]
  refine Lp_rule (P := fun μ a H => ∃ j, j + μ = l.length ∧ In59 id x l.length j (dbtL (l.take j)) a H) ?_ l.length _ _ ⟨0, by omega, Or.inl ⟨rfl, rfl, rfl⟩⟩
  rintro μ _ _ ⟨j, hj, ⟨hf, rfl, rfl⟩ | ⟨c1, v, hf, rfl, rfl⟩⟩
  · cases μ with
    | zero =>
      obtain rfl : j = l.length := by omega
      rw [List.take_of_length_le (Nat.le_refl _)] at hf
      rw [hf]
      simp -implicitDefEqProofs only [go_sem, ↓reduceIte, Int.reduceEq, Int.reduceLT, Int.reduceLE, List.reduceReplicate, intA, setT_nil, setT_cons, Int.lt_irrefl, plsV]
    | succ μ =>
      obtain ⟨r, hr⟩ := at_lt l j (by omega)
      have hlt : (j : Int) < (l.length : Int) := by omega
      have hw := wrap_succ j (by omega)
      have hir := hx.idx (rds_get hr)
      unfold rdV at hir
      have ht := dbtL_step l hr
      rw [hf] at ht
      cases h1 : decide (r.kind = 2)
      · have hf24 : fitsA 24 1 = true := by decide
        rw [if_neg (of_decide_eq_false h1)] at ht
        simp -implicitDefEqProofs only [go_sem, ↓reduceIte, Int.reduceEq, Int.reduceLT, Int.reduceLE, List.reduceReplicate, intA, setT_nil, setT_cons, hlt, hw, hir, bin_neq8, h1, trim_at, hx.bound, hf24, List.flatMap_cons, List.flatMap_nil, trim_not, bound_sl]
        exact ⟨μ, by omega, j + 1, by omega, Or.inr ⟨_, 0, by rw [ht]; simp, by rw [ht]; simp [intA], by rw [ht]; simp [clP, flatE, encP, atR]; exact ⟨rfl, rfl⟩⟩⟩
      · rw [if_pos (of_decide_eq_true h1)] at ht
        simp -implicitDefEqProofs only [go_sem, ↓reduceIte, Int.reduceEq, Int.reduceLT, Int.reduceLE, List.reduceReplicate, intA, setT_nil, setT_cons, hlt, hw, hir, bin_neq8, h1, trim_at, hx.bound]
        exact ⟨μ, by omega, j + 1, by omega, Or.inl ⟨by rw [ht]; rfl, rfl, rfl⟩⟩
  · cases μ with
    | zero =>
      obtain rfl : j = l.length := by omega
      rw [List.take_of_length_le (Nat.le_refl _)] at hf ⊢
      simp -implicitDefEqProofs only [go_sem, ↓reduceIte, Int.reduceEq, Int.reduceLT, Int.reduceLE, List.reduceReplicate, intA, setT_nil, setT_cons, Int.lt_irrefl]
      exact freeze_pls _ 2 v _ hf rfl (by simp [Heap.row, Heap.get])
    | succ μ =>
      obtain ⟨r, hr⟩ := at_lt l j (by omega)
      have hlt : (j : Int) < (l.length : Int) := by omega
      have hw := wrap_succ j (by omega)
      have hir := hx.idx (rds_get hr)
      unfold rdV at hir
      have ht := dbtL_step l hr
      have hfl : (dbtL (l.take j)).length ≤ l.length := Nat.le_trans (dbtL_len _) (by rw [List.length_take]; omega)
      generalize dbtL (l.take j) = f at *
      cases h1 : decide (r.kind = 2)
      · rw [if_neg (of_decide_eq_false h1)] at ht
        simp -implicitDefEqProofs only [go_sem, ↓reduceIte, Int.reduceEq, Int.reduceLT, Int.reduceLE, List.reduceReplicate, intA, setT_nil, setT_cons, hlt, hw, hir, bin_neq8, h1, trim_at, hx.bound, bound_sl, List.flatMap_cons, List.flatMap_nil]
        rw [appTo_own (m := 0) (e' := 32) (cs := clP f) (by simp [Heap.row, Heap.get]) (by rw [clP_len]) (Nat.zero_le _) (by unfold fitsA; exact decide_eq_true (by omega)) (by omega) (by omega)]
        simp -implicitDefEqProofs only [go_sem, ↓reduceIte, Int.reduceEq, Int.reduceLT, Int.reduceLE, List.reduceReplicate, intA, setT_nil, setT_cons, trim_at, hx.bound, bound_sl]
        exact ⟨μ, by omega, j + 1, by omega, Or.inr ⟨c1, v + 1, by rw [ht]; simp, by rw [ht]; simp [intA], by rw [ht]; simp [clP_append]; simp [clP, flatE, encP, atR]; rfl⟩⟩
      · rw [if_pos (of_decide_eq_true h1), List.append_nil] at ht
        simp -implicitDefEqProofs only [go_sem, ↓reduceIte, Int.reduceEq, Int.reduceLT, Int.reduceLE, List.reduceReplicate, intA, setT_nil, setT_cons, hlt, hw, hir, bin_neq8, h1, trim_at, hx.bound, bound_sl]
        exact ⟨μ, by omega, j + 1, by omega, Or.inr ⟨c1, v, by rw [ht]; exact hf, by rw [ht]; simp [intA], by rw [ht]; simp [intA]⟩⟩
theorem plsV_bound (l : List P3) : bound (plsV l) = 0 := by cases l <;> rfl
end Go.Ev
namespace Go.Ev
open Go.Proofs Go.Sort
set_option maxRecDepth 100000
set_option linter.unusedSimpArgs false
attribute [local irreducible] Wp WpS
variable {C : Cfg} {me : FuncId} {a : AAct} {H : Heap} {s : Nat} {K : PostO} {d : Option Tmp}
@[go_sem ↓] theorem wpO_clear (args : Array Operand) (ts : Array TypeId) : WpO C me d (.call ⟨.builtin .clear, args, ts⟩) a H s K = bindO (evals a args.toList) fun l => bindO (clearA C.P H ts.toList l) fun H' => AtO K (.tup []) H' := by
  unfold WpO; simp only [opA]
  rcases evals a args.toList with _ | l
  · rfl
  · simp only [bindO_some]; cases clearA C.P H ts.toList l <;> rfl
@[go_sem] theorem slLen_sl (b v o len : Nat) (c : Option Nat) : slLen (.sl b v o len c) = some (.v (.int .i64 len)) := rfl
theorem slIdx_at (sz b v o len : Nat) (c : Option Nat) (i : Nat) (h : i < len) : slIdx sz (.sl b v o len c) (.v (.int .i64 (i : Int))) = some (.ptr b v (o + i * sz)) := by
  unfold slIdx
  simp only [Int.toNat_natCast]
  rw [if_pos (by omega)]
theorem clP_at : ∀ {L : List P3} {k : Nat} {p : P3}, L[k]? = some p → ((clP L).drop (k * 3)).take 3 = [intA p.1, intA p.2.1, intA p.2.2]
  | q :: L, 0, p, h => by
    simp only [List.getElem?_cons_zero, Option.some.injEq] at h
    subst h
    rw [Nat.zero_mul, List.drop_zero, clP_cons]; rfl
  | q :: L, k + 1, p, h => by
    rw [clP_cons, Nat.succ_mul, ← List.drop_drop, show k * 3 = k * 3 from rfl]
    have h2 := clP_at (L := L) (k := k) (p := p) (by simpa using h)
    rw [List.drop_drop, Nat.add_comm, ← List.drop_drop]
    exact h2
theorem clP_set : ∀ {L : List P3} {k : Nat} (p : P3), k < L.length → splice (k * 3) [intA p.1, intA p.2.1, intA p.2.2] (clP L) = clP (L.set k p)
  | q :: L, 0, p, h => by
    unfold splice
    rw [List.set_cons_zero, clP_cons, clP_cons]; rfl
  | q :: L, k + 1, p, h => by
    have h2 := clP_set (L := L) (k := k) p (by simpa using h)
    have e : ∀ (r : P3) (M : List P3), clP (r :: M) = intA r.1 :: intA r.2.1 :: intA r.2.2 :: clP M := fun r M => clP_cons r M
    rw [List.set_cons_succ, e, e, ← h2]
    unfold splice
    rw [show (k + 1) * 3 = k * 3 + 1 + 1 + 1 by omega, List.take_succ_cons, List.take_succ_cons, List.take_succ_cons, show k * 3 + 1 + 1 + 1 + [intA p.1, intA p.2.1, intA p.2.2].length = (k * 3 + [intA p.1, intA p.2.1, intA p.2.2].length) + 1 + 1 + 1 by omega, List.drop_succ_cons, List.drop_succ_cons, List.drop_succ_cons]
    simp only [List.cons_append]
theorem eqP_iff (p q : P3) : eqP p.1 p.2.1 p.2.2 q.1 q.2.1 q.2.2 = decide (p = q) := by
  unfold eqP
  obtain ⟨a, b, c⟩ := p
  obtain ⟨x, y, z⟩ := q
  simp only [Prod.mk.injEq]
  by_cases h1 : a = x <;> by_cases h2 : b = y <;> by_cases h3 : c = z <;> simp [h1, h2, h3]
theorem slice_lo {H : Heap} {b v o len m e : Nat} {g : Bool} {cs : List AV} (hr : H.row b v = some (m, e, 3, g, cs)) {k : Nat} (hk : k < len) : sliceA Tryz.prog H 47 (.sl b v o len none) (some (.v (.int .i64 (k : Int)))) none none = some (.sl b v (o + k * 3) (len - k) none) := by
  unfold sliceA boundA
  have h1 : (0 : Int) ≤ (k : Int) ∧ (k : Int) ≤ (len : Int) := by omega
  simp [und_47, size32, hr, h1]
  omega
theorem slice_hi {H : Heap} {b v o len m e : Nat} {g : Bool} {cs : List AV} (hr : H.row b v = some (m, e, 3, g, cs)) {k : Nat} (hk : k ≤ len) (h0 : len ≠ 0) : sliceA Tryz.prog H 47 (.sl b v o len none) none (some (.v (.int .i64 (k : Int)))) none = some (.sl b v o k none) := by
  unfold sliceA boundA
  have h1 : (0 : Int) ≤ (k : Int) ∧ (k : Int) ≤ (len : Int) := by omega
  simp [und_47, size32, hr, h1]
  omega
theorem neq32 (x y : Operand) (a b c a' b' c' : Int) : binA Tryz.prog .neq 32 x y (.agg [.v (.int .i64 a), .v (.int .i64 b), .v (.int .i64 c)]) (.agg [.v (.int .i64 a'), .v (.int .i64 b'), .v (.int .i64 c')]) = some (.v (.bool (!eqP a b c a' b' c'))) := by
  have := (bin_struct (P := Tryz.prog) (t := 32) (us := [.int .i64 a, .int .i64 b, .int .i64 c]) (ws := [.int .i64 a', .int .i64 b', .int .i64 c']) (n := 3) (by kernel_rfl) (by decide) (by kernel_rfl) (by kernel_rfl) x y).2
  rw [eqP_cells] at this
  exact this
theorem clear_pl {H : Heap} {b v o len : Nat} {c : Option Nat} (h : 0 < len) : clearA Tryz.prog H [47] [.sl b v o len c] = storeCells H b v o (repeatCells [.v (.int .i64 0), .v (.int .i64 0), .v (.int .i64 0)] len) := by
  unfold clearA
  simp only [und_47, size32, zero_32, h, if_true]
  rfl
theorem clP_take : ∀ (L : List P3) (k : Nat), (clP L).take (k * 3) = clP (L.take k)
  | [], k => by simp [clP, flatE]
  | q :: L, 0 => by simp [clP, flatE]
  | q :: L, k + 1 => by
    rw [List.take_succ_cons, clP_cons, clP_cons, ← clP_take L k, show (k + 1) * 3 = 3 + k * 3 by omega, show (3 : Nat) + k * 3 = [intA q.1, intA q.2.1, intA q.2.2].length + k * 3 from rfl, List.take_length_add_append]
def rowO (cs : List AV) : List (Option AObj) := [some (.cells 0 0 32 3 true cs)]
/-- what is left of a row: these things in front -/
def CmpQ (X : Heap) (l : List P3) (Y : Heap) : Prop := ∃ cs, Y = X.plus (rowO cs) ∧ l.length * 3 ≤ cs.length ∧ cs.take (l.length * 3) = clP l ∧ cs.all AV.flat = true ∧ boundL cs = 0
set_option maxHeartbeats 4000000 in
theorem call83 {X : Heap} {N : Nat} (hN : X.size = N) (hlk : X.lock ≤ N) (L : List P3) (h0 : L ≠ []) (hn : L.length < 2 ^ 33) (me : FuncId) (d : Option Tmp) :
    ∃ Y, callA Cs (lim Cs) me 83 d [.sl N 0 0 L.length none] (X.plus (rowO (clP L))) = some (.sl N 0 0 (onceL L).length none, Y) ∧ CmpQ X (onceL L) Y := by
  refine callA_rawT extS_83 (pureS_83 _ _) ?_
  rw [fn_step fnS_83 (show Tryz.f83.body = some _ from rfl)]
  generalize hKK : rawT _ _ _ = KK
  have hpos : 0 < L.length := List.length_pos_iff.2 h0
  by_cases hlt2 : (L.length : Int) < 2
  · simp -implicitDefEqProofs only [Tryz.f83, go_sem, ↓reduceIte, Int.reduceEq, Int.reduceLT, Int.reduceLE, List.reduceReplicate, intA, setT_nil, setT_cons, ↓boolP_bool, ↓iteB_true, ↓iteB_false, hlt2]
    obtain ⟨p, rfl⟩ : ∃ p, L = [p] := by
      match L, hpos, hlt2 with
      | [p], _, _ => exact ⟨p, rfl⟩
      | p :: q :: r, _, h => simp at h; omega
    rw [← hKK]
    refine ⟨rfl, clP [p], trim_size _ _ _, by rw [clP_len]; exact Nat.le_refl _, by rw [List.take_of_length_le (by rw [clP_len]; exact Nat.le_refl _)]; rfl, clP_flat _, clP_bound _⟩
  · simp -implicitDefEqProofs only [Tryz.f83, go_sem, ↓reduceIte, Int.reduceEq, Int.reduceLT, Int.reduceLE, List.reduceReplicate, intA, setT_nil, setT_cons, ↓boolP_bool, ↓iteB_true, ↓iteB_false, hlt2]
    refine Lp_rule (P := fun μ a H => ∃ k : Nat, 1 ≤ k ∧ k + μ = L.length ∧ (∀ i a b, i + 1 < k → L[i]? = some a → L[i + 1]? = some b → a ≠ b) ∧ a = ⟨61, [(0, .sl N 0 0 L.length none), (2, .v (.slice none 0 0)), (8, .v (.bool false)), (3, intA k)], []⟩ ∧ H = X.plus (rowO (clP L))) ?_ (L.length - 1) _ _ ⟨1, Nat.le_refl _, by omega, fun i a b hi _ _ => by omega, rfl, rfl⟩
    rintro μ _ _ ⟨k, hk1, hk, hne, rfl, rfl⟩
    by_cases hlt : (k : Int) < (L.length : Int)
    · have hkl : k < L.length := by omega
      have hk0 : k - 1 < L.length := by omega
      obtain ⟨p, hp⟩ := at_lt L k hkl
      obtain ⟨q, hq⟩ := at_lt L (k - 1) hk0
      have hwm : IntKind.i64.wrap ((k : Int) - 1) = ((k - 1 : Nat) : Int) := by rw [wrap_in _ (by omega) (by omega)]; omega
      have hw := wrap_succ k (by omega)
      have hi1 := slIdx_at 3 N 0 0 L.length none k hkl
      have hi2 := slIdx_at 3 N 0 0 L.length none (k - 1) hk0
      have hc1 := clP_at hp
      have hc2 := clP_at hq
      have hl1 : k * 3 + 3 ≤ (clP L).length := by rw [clP_len]; omega
      have hl2 : (k - 1) * 3 + 3 ≤ (clP L).length := by rw [clP_len]; omega
      have hsl := fun (E : List (Option AObj)) => slice_lo (b := N) (v := 0) (o := 0) (len := L.length) (H := X.plus (some (.cells 0 0 32 3 true (clP L)) :: E)) (m := 0) (e := 32) (g := true) (cs := clP L) (rowP0 hN _ _) hkl
      have htr : ∀ (cs : List AV) (vs : List AV) (ms : List Nat), (X.plus [some (.cells 0 0 32 3 true cs)]).trim (N + 1) vs ms = X.plus [some (.cells 0 0 32 3 true cs)] := fun cs vs ms => by
        have h := trim_size (X.plus [some (.cells 0 0 32 3 true cs)]) vs ms
        rw [sizeP hN] at h
        exact h
      simp -implicitDefEqProofs only [go_sem, ↓reduceIte, Int.reduceEq, Int.reduceLT, Int.reduceLE, List.reduceReplicate, intA, setT_nil, setT_cons, ↓boolP_bool, ↓iteB_true, ↓iteB_false, hlt, rowO]
      refine wp_drawX [([], [], false), ([], [], false), ([], [], false), ([], [], false), ([], [], false), ([], [], false), ([], [], false), ([], [], false), ([3], [], false), ([], [], false)] (by kernel_rfl) (by kernel_rfl) ?_
      cases hpq : decide (p = q)
      · simp -implicitDefEqProofs only [go_sem, ↓reduceIte, Int.reduceEq, Int.reduceLT, Int.reduceLE, List.reduceReplicate, intA, setT_nil, setT_cons, ↓boolP_bool, ↓iteB_true, ↓iteB_false, hlt, hwm, hw, hi1, hi2, hl1, hl2, hc1, hc2, Nat.zero_add, rowP0 hN, rowP hN, sizeP hN, settleP0 hN, settleP hN, List.length_cons, List.length_nil, ltB_hi, eq32, eqP_iff, hpq, rowO]
        refine ⟨μ - 1, by omega, k + 1, by omega, by omega, fun i a b hi ha hb => ?_, rfl, htr _ _ _⟩
        by_cases h : i + 1 < k
        · exact hne i a b h ha hb
        · obtain rfl : i = k - 1 := by omega
          rw [show k - 1 + 1 = k by omega, hp] at hb
          rw [hq] at ha
          cases ha; cases hb
          exact fun e => of_decide_eq_false hpq e.symm
      · simp -implicitDefEqProofs only [go_sem, ↓reduceIte, Int.reduceEq, Int.reduceLT, Int.reduceLE, List.reduceReplicate, intA, setT_nil, setT_cons, ↓boolP_bool, ↓iteB_true, ↓iteB_false, hlt, hwm, hw, hi1, hi2, hl1, hl2, hc1, hc2, Nat.zero_add, rowP0 hN, rowP hN, sizeP hN, settleP0 hN, settleP hN, List.length_cons, List.length_nil, ltB_hi, eq32, eqP_iff, hpq, rowO, hsl]
        obtain rfl : p = q := of_decide_eq_true hpq
        have hbase : onceL (L.take (k + 1)) = L.take k := by
          rw [onceL_take hk1 hq hp, if_pos rfl]
          refine onceL_id fun i a b ha hb => ?_
          have h1 := (List.getElem?_eq_some_iff.1 hb).1
          rw [List.length_take] at h1
          rw [List.getElem?_take_of_lt (by omega)] at ha hb
          exact hne i a b (by omega) ha hb
        refine Lp_rule (P := fun μ a H => ∃ (k2 kk : Nat) (M : List P3), 1 ≤ k2 ∧ k2 + μ = L.length - k ∧ M.length = L.length ∧ kk = (onceL (L.take (k + k2))).length ∧ kk ≤ k + k2 - 1 ∧ M.take kk = onceL (L.take (k + k2)) ∧ M.drop (k + k2 - 1) = L.drop (k + k2 - 1) ∧ a = ⟨61, [(0, .sl N 0 0 L.length none), (2, .v (.slice none 0 0)), (8, .v (.bool false)), (3, intA kk), (13, .v (.bool true)), (25, .v (.bool true)), (4, .sl N 0 (k * 3) (L.length - k) none), (5, intA k2)], []⟩ ∧ H = X.plus [some (.cells 0 0 32 3 true (clP M))]) ?_ (L.length - k - 1) _ _ ⟨1, k, L, Nat.le_refl _, by omega, rfl, by rw [hbase, List.length_take]; omega, by omega, hbase.symm, rfl, rfl, rfl⟩
        rintro μ2 _ _ ⟨k2, kk, M, hk21, hk2, hML, hkk, hkkle, hMt, hMd, rfl, rfl⟩
        by_cases hlt3 : (k2 : Int) < ((L.length - k : Nat) : Int)
        · have hil : k + k2 < L.length := by omega
          obtain ⟨p2, hp2⟩ := at_lt L (k + k2) hil
          obtain ⟨q2, hq2⟩ := at_lt L (k + k2 - 1) (by omega)
          have hMp : M[k + k2]? = some p2 := by
            have := congrArg (fun l => l[1]?) hMd
            simp only [List.getElem?_drop] at this
            rw [show k + k2 - 1 + 1 = k + k2 by omega] at this
            rw [this, hp2]
          have hMq : M[k + k2 - 1]? = some q2 := by
            have := congrArg (fun l => l[0]?) hMd
            simp only [List.getElem?_drop, Nat.add_zero] at this
            rw [this, hq2]
          have hwm2 : IntKind.i64.wrap ((k2 : Int) - 1) = ((k2 - 1 : Nat) : Int) := by rw [wrap_in _ (by omega) (by omega)]; omega
          have hw2 := wrap_succ k2 (by omega)
          have hwk := wrap_succ kk (by omega)
          have hj1 := slIdx_at 3 N 0 (k * 3) (L.length - k) none k2 (by omega)
          have hj2 := slIdx_at 3 N 0 (k * 3) (L.length - k) none (k2 - 1) (by omega)
          have hj3 := slIdx_at 3 N 0 0 L.length none kk (by omega)
          have hd1 := clP_at hMp
          have hd2 := clP_at hMq
          rw [show (k + k2) * 3 = k * 3 + k2 * 3 by omega] at hd1
          rw [show (k + k2 - 1) * 3 = k * 3 + (k2 - 1) * 3 by omega] at hd2
          have hm1 : k * 3 + k2 * 3 + 3 ≤ (clP M).length := by rw [clP_len]; omega
          have hm2 : k * 3 + (k2 - 1) * 3 + 3 ≤ (clP M).length := by rw [clP_len]; omega
          have hm3 : kk * 3 + 3 ≤ (clP M).length := by rw [clP_len]; omega
          have hset : List.take (kk * 3) (clP M) ++ [.v (.int .i64 p2.1), .v (.int .i64 p2.2.1), .v (.int .i64 p2.2.2)] ++ List.drop (kk * 3 + 3) (clP M) = clP (M.set kk p2) := clP_set (L := M) (k := kk) p2 (by omega)
          have hMd2 : M.drop (k + (k2 + 1) - 1) = L.drop (k + (k2 + 1) - 1) := by
            rw [show k + (k2 + 1) - 1 = (k + k2 - 1) + 1 by omega, ← List.drop_drop, ← List.drop_drop, hMd]
          have hst := onceL_take (by omega) hq2 hp2
          simp -implicitDefEqProofs only [go_sem, ↓reduceIte, Int.reduceEq, Int.reduceLT, Int.reduceLE, List.reduceReplicate, intA, setT_nil, setT_cons, ↓boolP_bool, ↓iteB_true, ↓iteB_false, hlt3]
          refine wp_drawX [([], [], false), ([], [], false), ([], [], false), ([], [], false), ([], [], false), ([], [], false), ([], [], false), ([], [], false), ([3], [], false), ([], [], false)] (by kernel_rfl) (by kernel_rfl) ?_
          cases hpq2 : decide (p2 = q2)
          · have hne2 : ¬ q2 = p2 := fun e => of_decide_eq_false hpq2 e.symm
            rw [if_neg hne2] at hst
            simp -implicitDefEqProofs only [go_sem, ↓reduceIte, Int.reduceEq, Int.reduceLT, Int.reduceLE, List.reduceReplicate, intA, setT_nil, setT_cons, ↓boolP_bool, ↓iteB_true, ↓iteB_false, hwm2, hw2, hwk, hj1, hj2, hj3, hd1, hd2, hm1, hm2, hm3, hset, Nat.zero_add, rowP0 hN, rowP hN, sizeP hN, settleP0 hN, settleP hN, storeP0 hN hlk, List.length_cons, List.length_nil, ltB_hi, neq32, eqP_iff, hpq2, Bool.not_false]
            refine ⟨μ2 - 1, by omega, k2 + 1, kk + 1, M.set kk p2, by omega, by omega, by rw [List.length_set]; exact hML, ?_, by omega, ?_, ?_, rfl, htr _ _ _⟩
            · rw [← Nat.add_assoc, hst, List.length_append, ← hkk]; rfl
            · rw [← Nat.add_assoc, hst, ← hMt, List.take_add_one, List.getElem?_set_self (by omega), List.take_set_of_le (Nat.le_refl kk)]; rfl
            · rw [List.drop_set_of_lt (by omega)]; exact hMd2
          · have he2 : q2 = p2 := (of_decide_eq_true hpq2).symm
            rw [if_pos he2] at hst
            simp -implicitDefEqProofs only [go_sem, ↓reduceIte, Int.reduceEq, Int.reduceLT, Int.reduceLE, List.reduceReplicate, intA, setT_nil, setT_cons, ↓boolP_bool, ↓iteB_true, ↓iteB_false, hwm2, hw2, hwk, hj1, hj2, hj3, hd1, hd2, hm1, hm2, hm3, hset, Nat.zero_add, rowP0 hN, rowP hN, sizeP hN, settleP0 hN, settleP hN, storeP0 hN hlk, List.length_cons, List.length_nil, ltB_hi, neq32, eqP_iff, hpq2, Bool.not_true]
            exact ⟨μ2 - 1, by omega, k2 + 1, kk, M, by omega, by omega, hML, by rw [← Nat.add_assoc, hst]; exact hkk, by omega, by rw [← Nat.add_assoc, hst]; exact hMt, hMd2, rfl, htr _ _ _⟩
        · have hk2e : k + k2 = L.length := by omega
          rw [hk2e, List.take_length] at hkk hMt
          have hkl2 : kk < L.length := by omega
          have hsl2 := fun (E : List (Option AObj)) => slice_lo (b := N) (v := 0) (o := 0) (len := L.length) (H := X.plus (some (.cells 0 0 32 3 true (clP M)) :: E)) (m := 0) (e := 32) (g := true) (cs := clP M) (rowP0 hN _ _) hkl2
          rw [Nat.zero_add] at hsl2
          have hcl := fun (E : List (Option AObj)) => clear_pl (H := X.plus (some (.cells 0 0 32 3 true (clP M)) :: E)) (b := N) (v := 0) (o := kk * 3) (len := L.length - kk) (c := none) (by omega)
          have hrl : (repeatCells [.v (.int .i64 0), .v (.int .i64 0), .v (.int .i64 0)] (L.length - kk)).length = (L.length - kk) * 3 := repeat_len _ _
          have hrf : (repeatCells [.v (.int .i64 0), .v (.int .i64 0), .v (.int .i64 0)] (L.length - kk)).all AV.flat = true := repeat_flat rfl _
          have hrb : boundL (repeatCells [.v (.int .i64 0), .v (.int .i64 0), .v (.int .i64 0)] (L.length - kk)) = 0 := repeat_bound rfl _
          generalize repeatCells [.v (.int .i64 0), .v (.int .i64 0), .v (.int .i64 0)] (L.length - kk) = zs at hcl hrl hrf hrb
          have hle : kk * 3 + (L.length - kk) * 3 ≤ (clP M).length := by rw [clP_len]; omega
          have hsh := fun (cs : List AV) (E : List (Option AObj)) => slice_hi (b := N) (v := 0) (o := 0) (len := L.length) (H := X.plus (some (.cells 0 0 32 3 true cs) :: E)) (m := 0) (e := 32) (g := true) (cs := cs) (rowP0 hN _ _) (k := kk) (by omega) (by omega)
          simp -implicitDefEqProofs only [go_sem, ↓reduceIte, Int.reduceEq, Int.reduceLT, Int.reduceLE, List.reduceReplicate, intA, setT_nil, setT_cons, ↓boolP_bool, ↓iteB_true, ↓iteB_false, hlt3, htr, hsl2, hcl, hrl, hrf, hrb, hle, hsh, Nat.zero_add, rowP0 hN, rowP hN, sizeP hN, settleP0 hN, settleP hN, storeP0 hN hlk, List.length_cons, List.length_nil]
          rw [← hKK, hkk]
          have hlM : (List.take (kk * 3) (clP M)).length = kk * 3 := by rw [List.length_take, clP_len]; omega
          refine ⟨rfl, _, by rw [show (X.plus (rowO (clP L))).size = N + 1 from by rw [sizeP hN]; rfl]; exact htr _ _ _, ?_, ?_, ?_, ?_⟩
          · rw [← hkk, List.length_append, List.length_append, hlM]; omega
          · rw [← hkk, List.append_assoc, List.take_append_of_le_length (Nat.le_of_eq hlM.symm), List.take_of_length_le (Nat.le_of_eq hlM), clP_take, hMt]
          · have h1 := clP_flat M
            rw [List.all_eq_true] at h1 hrf ⊢
            intro x hx
            rcases List.mem_append.1 hx with hx | hx
            · rcases List.mem_append.1 hx with hx | hx
              · exact h1 x (List.mem_of_mem_take hx)
              · exact hrf x hx
            · exact h1 x (List.mem_of_mem_drop hx)
          · refine Nat.le_zero.1 (boundL_le.2 fun x hx => ?_)
            have h1 := boundL_le.1 (Nat.le_of_eq (clP_bound M))
            have h2 := boundL_le.1 (Nat.le_of_eq hrb)
            rcases List.mem_append.1 hx with hx | hx
            · rcases List.mem_append.1 hx with hx | hx
              · exact h1 x (List.mem_of_mem_take hx)
              · exact h2 x hx
            · exact h1 x (List.mem_of_mem_drop hx)
    · simp -implicitDefEqProofs only [go_sem, ↓reduceIte, Int.reduceEq, Int.reduceLT, Int.reduceLE, List.reduceReplicate, intA, setT_nil, setT_cons, ↓boolP_bool, ↓iteB_true, ↓iteB_false, hlt]
      obtain rfl : k = L.length := by omega
      have hid : onceL L = L := onceL_id fun i a b ha hb => hne i a b (List.getElem?_eq_some_iff.1 hb).1 ha hb
      rw [← hKK, hid]
      exact ⟨rfl, clP L, trim_size _ _ _, by rw [clP_len]; exact Nat.le_refl _, by rw [List.take_of_length_le (by rw [clP_len]; exact Nat.le_refl _)], clP_flat _, clP_bound _⟩
end Go.Ev
namespace Go.Ev
open Go.Proofs Go.Sort
set_option maxRecDepth 100000
set_option linter.unusedSimpArgs false
attribute [local irreducible] Wp WpS
/-- a call on live memory, whose answer is frozen -/
theorem callA_fz {C : Cfg} {me f : FuncId} {d : Option Tmp} {args : List AV} {X : Heap} {w : AV} (hx : C.ext f = none) (hp : C.pure me f d = true) (hy : args.any isYld = false) (hb : boundL args ≠ 0)
    (h2 : Fn' C f args { X with lock := X.size } (fun v H' => freezeV { H' with lock := X.size } 1000000 v = some w)) : callA C (lim C) me f d args X = some (w, X) := by
  unfold callA callB callKind
  rw [hx]
  simp only [hp, if_true]
  unfold Fn' at h2
  rw [bindO_iff] at h2
  obtain ⟨o, h3, h4⟩ := h2
  rw [if_neg (fun h => hb (Nat.eq_of_beq_eq_true h)), hy]
  simp only [Bool.false_eq_true, if_false]
  cases o with
  | ret v H => 
    have h5 : freezeV { H with lock := X.size } 1000000 v = some w := h4
    simp only [h3, h5]; rfl
  | _ => exact h4.elim
theorem fn_mono {C : Cfg} {f : FuncId} {args : List AV} {H : Heap} {K K' : PostO} (h : Fn' C f args H K) (hk : ∀ v H', K v H' → K' v H') : Fn' C f args H K' := by
  unfold Fn' at h ⊢
  rw [bindO_iff] at h ⊢
  obtain ⟨o, h1, h2⟩ := h
  refine ⟨o, h1, ?_⟩
  cases o with
  | ret v H' => exact hk v H' h2
  | _ => exact h2.elim
theorem onceL_ne {l : List P3} (h : l ≠ []) : onceL l ≠ [] := fun e => by
  cases l with
  | nil => exact h rfl
  | cons p r =>
    have := (onceL_mem (p :: r) p).2 List.mem_cons_self
    rw [e] at this; cases this
theorem srtP_ne {l : List P3} (h : l ≠ []) : srtP l ≠ [] := fun e => h (List.length_eq_zero_iff.1 (by rw [← srtP_len, e]; rfl))
/-- each once, in order -/
theorem ans60_nil : Ans Cs 60 [.v (.slice none 0 0)] (.v (.slice none 0 0)) := by
  have h83 : ∀ (X : Heap) (me : FuncId) (d : Option Tmp), callA Cs (lim Cs) me 83 d [.v (.slice none 0 0)] X = some (.v (.slice none 0 0), X) := fun X me d => by
    refine callA_rawX extS_83 (pureS_83 _ _) ?_
    rw [fn_step fnS_83 (show Tryz.f83.body = some _ from rfl)]
    generalize hKK : rawX X _ _ = KK
    simp -implicitDefEqProofs only [Tryz.f83, go_sem, ↓reduceIte, Int.reduceEq, Int.reduceLT, Int.reduceLE, List.reduceReplicate, intA, setT_nil, setT_cons, ↓boolP_bool, ↓iteB_true, ↓iteB_false]
    rw [← hKK]
    exact rawX_same _ _ rfl
  unfold Ans
  rw [fn_step fnS_60 (show Tryz.f60.body = some _ from rfl)]
  simp -implicitDefEqProofs only [Tryz.f60, go_sem, ↓reduceIte, Int.reduceEq, Int.reduceLT, Int.reduceLE, List.reduceReplicate, intA, setT_nil, setT_cons, ↓boolP_bool, ↓iteB_true, ↓iteB_false, call84_nil, h83]
theorem call60_nil (me : FuncId) (d : Option Tmp) (H : Heap) : callA Cs (lim Cs) me 60 d [.v (.slice none 0 0)] H = some (.v (.slice none 0 0), H) :=
  ans60_nil.call extS_60 (pureS_60 _ _) rfl H
set_option maxHeartbeats 1000000 in
theorem call60 {X : Heap} (ps : List P3) (h0 : ps ≠ []) (hn : ps.length < 2 ^ 33) (b v : Nat) (hb : b < X.size) (hr : X.row b v = some (0, 32, 3, true, clP ps)) (me : FuncId) (d : Option Tmp) :
    callA Cs (lim Cs) me 60 d [.sl b v 0 ps.length none] X = some (plsV (onceL (srtP ps)), X) := by
  refine callA_fz extS_60 (pureS_60 _ _) rfl (fun h => ?_) ?_
  · have : Nat.max (b + 1) 0 = 0 := h
    have h1 := Nat.le_max_left (b + 1) 0
    have h2 : b + 1 ≤ 0 := this ▸ h1
    omega
  rw [fn_step fnS_60 (show Tryz.f60.body = some _ from rfl)]
  generalize hX : ({ X with lock := X.size } : Heap) = X'
  have hN : X'.size = X.size := by rw [← hX]; rfl
  have hlk : X'.lock ≤ X.size := by rw [← hX]; exact Nat.le_refl _
  have hr' : X'.row b v = some (0, 32, 3, true, clP ps) := by rw [← hX]; exact hr
  have h84 := call84 hN hlk ps h0 hn b v hb hr'
  obtain ⟨Y, h83, cs, rfl, hc1, hc2, hc3, hc4⟩ := call83 hN hlk (srtP ps) (srtP_ne h0) (by rw [srtP_len]; exact hn) 60 (some 5)
  rw [srtP_len] at h83
  have hb1 : ltB b X.size = true := by unfold ltB; simp; omega
  unfold rowO at h83
  generalize hKK : (fun (v : AV) (H' : Heap) => freezeV { H' with lock := X.size } 1000000 v = some (plsV (onceL (srtP ps)))) = KK
  simp -implicitDefEqProofs only [Tryz.f60, go_sem, ↓reduceIte, Int.reduceEq, Int.reduceLT, Int.reduceLE, List.reduceReplicate, intA, setT_nil, setT_cons, ↓boolP_bool, ↓iteB_true, ↓iteB_false, h84, h83, rowO, sizeP hN, putP0 hN, putP hN, settleP0 hN, settleP hN, List.length_nil, Nat.add_zero]
  rw [← hKK]
  have hne := onceL_ne (srtP_ne h0)
  have e1 : plsV (onceL (srtP ps)) = .vs 3 ((onceL (srtP ps)).map p3V) none := by
    generalize onceL (srtP ps) = f at hne
    cases f with | nil => exact absurd rfl hne | cons r f => rfl
  show freezeV _ 1000000 (.sl X.size 0 0 (onceL (srtP ps)).length none) = _
  rw [e1, ← chunk_pls]
  unfold freezeV
  have hrow : ∀ k, Heap.row { X'.plus [some (.cells 0 0 32 3 true cs)] with lock := k } X.size 0 = some (0, 32, 3, true, cs) := fun k => rowP0 hN [some (.cells 0 0 32 3 true cs)] 0
  have hse : settleH X'.size (X'.plus [some (.cells 0 0 32 3 true cs)]) = X'.plus [some (.cells 0 0 32 3 true cs)] := by rw [hN, settleP0 hN]; rfl
  simp only [hse, hrow]
  rw [if_neg (Nat.lt_irrefl _), if_pos ⟨by omega, by omega⟩, if_pos trivial, List.drop_zero, hc2]
end Go.Ev
namespace Go.Ev
open Go.Proofs Go.Sort
set_option maxRecDepth 100000
set_option linter.unusedSimpArgs false
attribute [local irreducible] Wp WpS
/-! ### lists of copies: closed, or in memory -/
/-- a list that can be gone through wherever this memory is -/
structure Rdb (X : Heap) (zs : List AV) (lx : AV) : Prop where
  len : slLen lx = some (.v (.int .i64 zs.length))
  yld : isYld lx = false
  get : ∀ (i : Nat) (z : AV), zs[i]? = some z → ∃ p, slIdx 2 lx (.v (.int .i64 (i : Int))) = some p ∧ ∀ H : Heap, (∀ b, b < X.size → H.get b = X.get b) → loadA Tryz.prog H 53 p = some z
theorem rdb_closed {zs : List AV} {lx : AV} (h : SlOf 2 zs lx) (hz : ∀ z ∈ zs, ∃ a b, z = .agg [a, b]) (X : Heap) : Rdb X zs lx := by
  refine ⟨h.len, ?_, fun i z hi => ⟨.ro z 0, h.idx hi .i64, fun H _ => ?_⟩⟩
  · rcases h with ⟨rfl, -⟩ | ⟨c, rfl⟩ <;> rfl
  · obtain ⟨a, b, rfl⟩ := hz z (List.mem_of_getElem? hi)
    have e1 : isAggT Tryz.prog 53 = some true := isagg_53
    have e2 : sizeT Tryz.prog 53 = some 2 := size_53
    unfold loadA partOf
    rw [e1, e2]
    rfl
/-- what is told of the copies of a list -/
structure CpsOk (ch : AV) (cs : List (Int × List Rd)) (zs : List AV) : Prop where
  len : cs.length = zs.length
  get : ∀ (i : Nat) (c : Int × List Rd), cs[i]? = some c → ∃ y, zs[i]? = some (.agg [intA c.1, y]) ∧ RdsA c.2 y ∧ c.2.length ≤ 20 ∧
    (∀ (me : FuncId) (d : Option Tmp) (H : Heap), callA Cs (lim Cs) me 58 d [.agg [ch], .agg [intA c.1, y]] H = some (.v (.bool true), H)) ∧
    ∀ (me : FuncId) (d : Option Tmp) (H : Heap), callA Cs (lim Cs) me 59 d [.agg [intA c.1, y]] H = some (plsV (dbtL c.2), H)
/-! ### memory behind which places are laid -/
structure MP (X : Heap) (ch : AV) (H : Heap) (ps : List P3) (out : AV) : Prop where
  lock : H.lock = X.lock
  size : X.size + 2 ≤ H.size
  low : ∀ b, b < X.size → H.get b = X.get b
  b1 : H.get X.size = some (.cells 0 0 24 1 false [ch])
  b2 : H.get (X.size + 1) = some (.cells 0 0 79 1 false [ch])
  done : (ps = [] ∧ out = .v (.slice none 0 0)) ∨ (ps ≠ [] ∧ ∃ b v, X.size + 2 ≤ b ∧ b < H.size ∧ out = .sl b v 0 ps.length none ∧ H.row b v = some (0, 32, 3, true, clP ps))
theorem MP.plus {X : Heap} {ch : AV} {H : Heap} {ps : List P3} {out : AV} (h : MP X ch H ps out) (E : List (Option AObj)) : MP X ch (H.plus E) ps out := by
  have hs := h.size
  refine ⟨h.lock, by rw [plus_size]; omega, fun b hb => (plus_get E (by omega)).trans (h.low b hb), (plus_get E (by omega)).trans h.b1, (plus_get E (by omega)).trans h.b2, ?_⟩
  rcases h.done with hd | ⟨h0, b, v, h1, h2, h3, h4⟩
  · exact Or.inl hd
  · exact Or.inr ⟨h0, b, v, h1, by rw [plus_size]; omega, h3, by rw [rowLo h2]; exact h4⟩
theorem MP.trim {X : Heap} {ch : AV} {H : Heap} {ps : List P3} {out : AV} (h : MP X ch H ps out) {n : Nat} (hn : X.size + 2 ≤ n) (hn2 : n ≤ H.size) (vs : List AV) (ms : List Nat) (hv : bound out ≤ boundL vs) : MP X ch (H.trim n vs ms) ps out := by
  refine ⟨trim_lock.trans h.lock, Nat.le_trans hn (trim_size' hn2), fun b hb => (trim_lo (by omega)).trans (h.low b hb), (trim_lo (by omega)).trans h.b1, (trim_lo (by omega)).trans h.b2, ?_⟩
  rcases h.done with hd | ⟨h0, b, v, h1, h2, rfl, h4⟩
  · exact Or.inl hd
  · unfold Heap.trim
    split
    · rename_i hq
      rw [Bool.and_eq_true, Bool.and_eq_true, Bool.and_eq_true, Nat.ble_eq] at hq
      have h5 := hq.1.1.1
      have hb : b < n := by simp only [bound] at hv; omega
      have hg := (takeH_get (H := H) hb).trans (row_of_get h4)
      exact Or.inr ⟨h0, b, v, h1, get_size hg, rfl, get_row hg⟩
    · exact Or.inr ⟨h0, b, v, h1, h2, rfl, h4⟩
theorem MP.more {X : Heap} {ch : AV} {H : Heap} {ps : List P3} {b v : Nat} (h : MP X ch H ps (.sl b v 0 ps.length none)) (h0 : ps ≠ []) (h1 : X.size + 2 ≤ b) (hb : b < H.size) (s : List P3) (n : Nat) (hn : n = ps.length + s.length) : MP X ch (H.put b (.cells (v + 1) 0 32 3 true (clP (ps ++ s)))) (ps ++ s) (.sl b (v + 1) 0 n none) := by
  have hs := h.size
  refine ⟨h.lock, by rw [put_sizeI _ hb]; omega, fun c hc => (put_get_ne _ (by omega) (by omega)).trans (h.low c hc), (put_get_ne _ (by omega) (by omega)).trans h.b1, (put_get_ne _ (by omega) (by omega)).trans h.b2, Or.inr ⟨fun e => h0 (List.append_eq_nil_iff.1 e).1, b, v + 1, h1, by rw [put_sizeI _ hb]; exact hb, by rw [hn, List.length_append], row_put_same hb⟩⟩
theorem MP.new {X : Heap} {ch : AV} {H : Heap} {ps : List P3} {out : AV} (h : MP X ch H ps out) {N : Nat} (hN : H.size = N) (E : List (Option AObj)) (k : Nat) (qs : List P3) (h0 : qs ≠ []) (hE : E[k]? = some (some (.cells 0 0 32 3 true (clP qs)))) : MP X ch (H.plus E) qs (.sl (N + k) 0 0 qs.length none) := by
  have hk := (List.getElem?_eq_some_iff.1 hE).1
  have hs := h.size
  refine ⟨h.lock, by rw [plus_size]; omega, fun b hb => (plus_get E (by omega)).trans (h.low b hb), (plus_get E (by omega)).trans h.b1, (plus_get E (by omega)).trans h.b2, Or.inr ⟨h0, N + k, 0, by omega, by rw [plus_size]; omega, rfl, ?_⟩⟩
  rw [rowP hN, hE]; rfl
theorem call40S {t : Txt} (ht : Fits t) (htx : textB t = true) {ch : AV} {xs : List AV} (hch : SlOf 2 xs ch) (hall : All2 ChapA t xs) (me : FuncId) (d : Option Tmp) (H : Heap) : callA Cs (lim Cs) me 40 d [.agg [ch]] H = some (.tup [.agg [ch], .v (.int .i64 0)], H) := by
  have h := ans40 quietA t ht ch ⟨xs, hch, hall⟩
  rw [htx, if_pos rfl] at h
  exact told rfl h (by simp only [boundL_cons, bound_agg, hch.bound, boundL_nil]; rfl) me d H
theorem plsV_cells (H : Heap) (l : List P3) : cellsFrom H 3 (plsV l) = some (l.length, clP l) := by
  cases l with
  | nil => rfl
  | cons p r =>
    show cellsFrom H 3 (.vs 3 ((p :: r).map p3V) none) = _
    rw [cells_vs', if_pos rfl, List.length_map]
    congr 2
    unfold clP flatE
    rw [List.flatMap_map, List.map_flatMap]
    rfl
set_option maxHeartbeats 4000000 in
theorem fn32 {X : Heap} (hlk : X.lock ≤ X.size) {t : Txt} (ht : Fits t) (htx : textB t = true) {ch : AV} {xs : List AV} (hch : SlOf 2 xs ch) (hall : All2 ChapA t xs) {cs : List (Int × List Rd)} {zs : List AV} (hcs : CpsOk ch cs zs) (hc5 : cs.length ≤ 5) {lx : AV} (hr : Rdb X zs lx) :
    Fn' Cs 32 [.agg [ch], lx] X (fun v _ => v = .tup [plsV (doubtL cs), .v (.int .i64 0)]) := by
  obtain ⟨N, hN⟩ : ∃ N, X.size = N := ⟨_, rfl⟩
  have h40 := call40S ht htx hch hall
  have hl := hr.len
  rw [← hcs.len] at hl
  rw [hN] at hlk
  generalize hKK : (fun (v : AV) (_ : Heap) => v = .tup [plsV (doubtL cs), .v (.int .i64 0)]) = KK
  rw [fn_step fnS_32 (show Tryz.f32.body = some _ from rfl), ← plus_nil X]
  have hnot : ¬ 5 < (cs.length : Int) := by omega
  simp -implicitDefEqProofs only [Tryz.f32, go_sem, ↓reduceIte, Int.reduceEq, Int.reduceLT, Int.reduceLE, List.reduceReplicate, intA, setT_nil, setT_cons, ↓boolP_bool, ↓iteB_true, ↓iteB_false, hch.cells, hch.flat, hch.bound, h40, hl, hnot, sizeP hN, putP0 hN, putP hN, settleP0 hN, settleP hN, rowP0 hN, rowP hN, storeP0 hN hlk, storeP hN hlk, List.length_nil, List.length_cons, Nat.add_zero, Nat.zero_add]
  refine Lp_rule (P := fun μ a H => ∃ (i : Nat) (ps : List P3) (out : AV), i + μ = cs.length ∧ ps = allD (cs.take i) ∧ ps.length ≤ i * 20 ∧ a = ⟨39, [(0, .agg [ch]), (1, lx), (2, .ptr N 0 0), (4, .v (.slice none 0 0)), (5, intA 0), (6, .ptr (N + 1) 0 0), (7, intA 0), (17, .v (.bool false)), (21, .v (.bool false)), (8, out), (22, lx), (23, intA cs.length), (24, intA i)], []⟩ ∧ MP X ch H ps out) ?_ cs.length _ _ ⟨0, [], _, by omega, rfl, Nat.le_refl _, rfl, ?_⟩
  · rintro μ _ H ⟨i, ps, out, hi, hps, hpl, rfl, hM⟩
    obtain ⟨M, hMs⟩ : ∃ M, H.size = M := ⟨_, rfl⟩
    have hsz := hM.size
    have hlkM : H.lock ≤ M := by rw [hM.lock]; omega
    by_cases hlt : (i : Int) < (cs.length : Int)
    · obtain ⟨c, hc⟩ := at_lt cs i (by omega)
      obtain ⟨y, hz, hRd, hrl, h58, h59⟩ := hcs.get i c hc
      obtain ⟨p, hp1, hp2⟩ := hr.get i _ hz
      have hw := wrap_succ i (by omega)
      have hld : ∀ E, loadA Tryz.prog (H.plus E) 53 p = some (.agg [intA c.1, y]) := fun E => hp2 _ fun b hb => ((hM.plus E).low b hb)
      have hb2 : ∀ E, (H.plus E).row (N + 1) 0 = some (0, 79, 1, false, [ch]) := fun E => get_row (by rw [← hN]; exact (hM.plus E).b2)
      have hyf : SlOf 5 (c.2.map rdV) y := hRd
      have hdl := dbtL_len c.2
      have hall2 : allD (cs.take (i + 1)) = ps ++ dbtL c.2 := by
        rw [hps]; unfold allD; rw [List.take_add_one, hc, List.flatMap_append]; simp
      unfold intA at hld h58 h59
      have hpc := plsV_cells
      have hcf := clP_flat
      rw [← plus_nil H]
      rcases hM.done with ⟨rfl, rfl⟩ | ⟨h0, b, v, hb1, hb3, rfl, hrow⟩
      · cases hd : dbtL c.2 with
        | nil =>
          rw [hd] at h59 hall2
          simp -implicitDefEqProofs only [go_sem, ↓reduceIte, Int.reduceEq, Int.reduceLT, Int.reduceLE, List.reduceReplicate, intA, setT_nil, setT_cons, ↓boolP_bool, ↓iteB_true, ↓iteB_false, hlt, hw, hp1, hld, hb2, h58, h59, hpc, hcf, app47, hch.cells, hch.flat, hch.bound, hyf.cells, hyf.flat, hyf.bound, sizeP hMs, putP0 hMs, putP hMs, settleP0 hMs, settleP hMs, rowP0 hMs, rowP hMs, storeP0 hMs hlkM, storeP hMs hlkM, List.length_nil, List.length_cons, Nat.add_zero, Nat.zero_add]
          exact ⟨μ - 1, by omega, i + 1, [], _, by omega, hall2.symm, Nat.zero_le _, rfl, (hM.plus _).trim (by omega) (by rw [plus_size]; omega) _ _ (Nat.zero_le _)⟩
        | cons q r =>
          rw [hd] at h59 hall2 hdl
          have hf : fitsA 24 (r.length + 1) = true := by unfold fitsA; simp only [List.length_cons] at hdl; exact decide_eq_true (by omega)
          simp -implicitDefEqProofs only [go_sem, ↓reduceIte, Int.reduceEq, Int.reduceLT, Int.reduceLE, List.reduceReplicate, intA, setT_nil, setT_cons, ↓boolP_bool, ↓iteB_true, ↓iteB_false, hlt, hw, hp1, hld, hb2, h58, h59, hpc, hcf, hf, clP_bound, app47, hch.cells, hch.flat, hch.bound, hyf.cells, hyf.flat, hyf.bound, sizeP hMs, putP0 hMs, putP hMs, settleP0 hMs, settleP hMs, rowP0 hMs, rowP hMs, storeP0 hMs hlkM, storeP hMs hlkM, List.length_nil, Nat.add_zero, Nat.zero_add]
          exact ⟨μ - 1, by omega, i + 1, q :: r, _, by omega, hall2.symm, by simp only [List.length_cons] at hdl ⊢; omega, rfl, (hM.new hMs [some (.cells 0 0 53 1 false [.v (.int .i64 c.1), y]), some (.cells 0 0 32 3 true (clP (q :: r)))] 1 (q :: r) (by simp) rfl).trim (by omega) (by rw [plus_size]; omega) _ _ (le_boundL (by simp))⟩
      · cases hd : dbtL c.2 with
        | nil =>
          rw [hd, List.append_nil] at hall2
          rw [hd] at h59
          simp -implicitDefEqProofs only [go_sem, ↓reduceIte, Int.reduceEq, Int.reduceLT, Int.reduceLE, List.reduceReplicate, intA, setT_nil, setT_cons, ↓boolP_bool, ↓iteB_true, ↓iteB_false, hlt, hw, hp1, hld, hb2, h58, h59, hpc, hcf, app47, appTo_none, hch.cells, hch.flat, hch.bound, hyf.cells, hyf.flat, hyf.bound, sizeP hMs, putP0 hMs, putP hMs, settleP0 hMs, settleP hMs, rowP0 hMs, rowP hMs, storeP0 hMs hlkM, storeP hMs hlkM, List.length_nil, List.length_cons, Nat.add_zero, Nat.zero_add]
          exact ⟨μ - 1, by omega, i + 1, ps, _, by omega, hall2.symm, by omega, rfl, (hM.plus _).trim (by omega) (by rw [plus_size]; omega) _ _ (le_boundL (by simp))⟩
        | cons q r =>
          rw [hd] at h59 hall2 hdl
          have hlen : (q :: r).length = r.length + 1 := rfl
          have hf : fitsA 24 (ps.length + (r.length + 1)) = true := by unfold fitsA; exact decide_eq_true (by omega)
          have hrp : ∀ E, (H.plus E).row b v = some (0, 32, 3, true, clP ps) := fun E => by rw [rowLo hb3]; exact hrow
          have hmore := hM.more h0 hb1 hb3 (q :: r) (ps.length + (r.length + 1)) rfl
          simp -implicitDefEqProofs only [go_sem, ↓reduceIte, Int.reduceEq, Int.reduceLT, Int.reduceLE, List.reduceReplicate, intA, setT_nil, setT_cons, ↓boolP_bool, ↓iteB_true, ↓iteB_false, hlt, hw, hp1, hld, hb2, h58, h59, hpc, hcf, app47, hch.cells, hch.flat, hch.bound, hyf.cells, hyf.flat, hyf.bound, sizeP hMs, putP0 hMs, putP hMs, settleP0 hMs, settleP hMs, rowP0 hMs, rowP hMs, storeP0 hMs hlkM, storeP hMs hlkM, List.length_nil, List.length_cons, Nat.add_zero, Nat.zero_add]
          rw [appTo_own (m := 0) (e' := 32) (cs := clP ps) (hrp _) (by rw [clP_len]) (by show H.lock ≤ b; rw [hM.lock]; omega) hf (by omega) (by omega)]
          rw [putLo hb3, clP_bound, ← clP_append]
          change bindO (some (AV.sl b (v + 1) 0 (ps.length + (r.length + 1)) none, (H.put b (.cells (v + 1) 0 32 3 true (clP (ps ++ q :: r)))).plus _)) _
          have hNZ : (H.put b (.cells (v + 1) 0 32 3 true (clP (ps ++ q :: r)))).size = M := by rw [put_sizeI _ hb3]; exact hMs
          generalize H.put b (.cells (v + 1) 0 32 3 true (clP (ps ++ q :: r))) = Z at hmore hNZ ⊢
          simp -implicitDefEqProofs only [go_sem, ↓reduceIte, Int.reduceEq, Int.reduceLT, Int.reduceLE, List.reduceReplicate, intA, setT_nil, setT_cons, ↓boolP_bool, ↓iteB_true, ↓iteB_false, hw, sizeP hNZ, settleP0 hNZ, settleP hNZ]
          exact ⟨μ - 1, by omega, i + 1, ps ++ q :: r, _, by omega, hall2.symm, by rw [List.length_append, hlen]; simp only [hlen] at hdl; omega, rfl, (hmore.plus _).trim (by omega) (by rw [plus_size]; omega) _ _ (le_boundL (by simp))⟩
    · obtain rfl : i = cs.length := by omega
      rw [List.take_length] at hps
      rcases hM.done with ⟨h0, rfl⟩ | ⟨h0, b, v, hb1, hb3, rfl, hrow⟩
      · have hd : doubtL cs = [] := by unfold doubtL; rw [← hps, h0]; rfl
        have h60 := call60_nil
        simp -implicitDefEqProofs only [go_sem, ↓reduceIte, Int.reduceEq, Int.reduceLT, Int.reduceLE, List.reduceReplicate, intA, setT_nil, setT_cons, ↓boolP_bool, ↓iteB_true, ↓iteB_false, hlt, h60]
        rw [← hKK]
        show AV.tup [.v (.slice none 0 0), .v (.int .i64 0)] = AV.tup [plsV (doubtL cs), .v (.int .i64 0)]
        rw [hd]; rfl
      · have h60 := fun me d E => call60 (X := H.plus E) ps h0 (by omega) b v (by rw [plus_size]; omega) (by rw [rowLo hb3]; exact hrow) me d
        rw [← plus_nil H]
        simp -implicitDefEqProofs only [go_sem, ↓reduceIte, Int.reduceEq, Int.reduceLT, Int.reduceLE, List.reduceReplicate, intA, setT_nil, setT_cons, ↓boolP_bool, ↓iteB_true, ↓iteB_false, hlt, h60]
        rw [← hKK]
        show AV.tup [plsV (onceL (srtP ps)), .v (.int .i64 0)] = AV.tup [plsV (doubtL cs), .v (.int .i64 0)]
        unfold doubtL; rw [hps]
  · have hq : (X.plus [some (.cells 0 0 24 1 false [ch]), some (.cells 0 0 79 1 false [ch])]).size = N + 2 := by rw [sizeP hN]; rfl
    refine ⟨rfl, by rw [hq, hN]; exact Nat.le_refl _, fun b hb => plus_get _ hb, ?_, ?_, Or.inl ⟨rfl, rfl⟩⟩
    · rw [plus_get_hi _ (Nat.le_refl _), Nat.sub_self]; rfl
    · rw [plus_get_hi _ (by omega), show X.size + 1 - X.size = 1 by omega]; rfl
end Go.Ev
namespace Go.Ev
open Go.Proofs
set_option maxRecDepth 100000
set_option linter.unusedSimpArgs false
attribute [local irreducible] Wp WpS
set_option maxHeartbeats 2000000 in
/-- what read answers, Read answers of a copy that is one of the text -/
theorem ans25 {e : Exts} (he : Quiet e) (t : Txt) (ht : Fits t) (htx : textB t = true) (ch : AV) (xs : List AV) (hch : SlOf 2 xs ch) (hall : All2 ChapA t xs) (id : Int) (rs : List Rd) (x : AV) (hx : RdsA rs x) (h58 : Has58 e ch id x true) (ys : List AV) (o : AV) (ho : SlOf 2 ys o) (h55 : Ans (Cx e) 55 [.agg [ch], .agg [intA id, x]] (.agg [o])) : Ans (Cx e) 25 [.agg [ch], .agg [intA id, x]] (.tup [.agg [o], intA 0]) := by
  have h54 := call54 he t ht htx ch xs hch hall id rs x hx h58
  have hx : SlOf 5 (rs.map rdV) x := hx
  have hc55 : ∀ (me : FuncId) (d : Option Tmp) (H : Heap), callA (Cx e) (lim (Cx e)) me 55 d [.agg [ch], .agg [.v (.int .i64 id), x]] H = some (.agg [o], H) := fun me d H =>
    h55.call (ext_55 he) (pure_55 _ _ _) (by simp only [boundL_cons, bound_agg, hch.bound, intA, bound_v, hx.bound, boundL_nil]; rfl) H
  unfold Ans
  rw [fn_step (fn_25 e) (show Tryz.f25.body = some _ from rfl)]
  simp -implicitDefEqProofs only [Tryz.f25, go_sem, ↓reduceIte, Int.reduceEq, Int.reduceLT, Int.reduceLE, List.reduceReplicate, intA, setT_nil, setT_cons, ↓boolP_bool, ↓iteB_true, ↓iteB_false, hch.cells, hch.flat, hch.bound, hx.cells, hx.flat, hx.bound, h54, hc55, ho.cells, ho.flat, ho.bound]
  rcases ho with ⟨rfl, -⟩ | ⟨cap, rfl⟩ <;> rfl
end Go.Ev
namespace Go.Ev
open Go.Proofs
set_option maxRecDepth 100000
set_option linter.unusedSimpArgs false
attribute [local irreducible] Wp WpS
theorem trimP1 {X : Heap} {N : Nat} (hN : X.size = N) (o : Option AObj) (vs : List AV) (ms : List Nat) : (X.plus [o]).trim (N + 1) vs ms = X.plus [o] := by
  have : N + 1 = (X.plus [o]).size := by rw [sizeP hN]; rfl
  rw [this, trim_size]
theorem isAgg3 : isAggT Tryz.prog 3 = some false := by kernel_rfl
theorem size3 : sizeT Tryz.prog 3 = some 1 := by kernel_rfl
set_option maxHeartbeats 4000000 in
theorem fn69 {e : Exts} {X : Heap} {N : Nat} (hN : X.size = N) (lo hi : Int) (ns : List Int) (a : AV) (ha : SlH X (ns.map intA) a) (hn : ns.length < 2 ^ 63) : Fn' (Cx e) 69 [.agg [.v (.int .i64 lo), .v (.int .i64 hi)], a] X (fun v _ => v = .v (.bool (withinB lo hi ns))) := by
  rw [fn_step (fn_69 e) (show Tryz.f69.body = some _ from rfl)]
  rw [← plus_nil X]
  simp -implicitDefEqProofs only [Tryz.f69, go_sem, ↓reduceIte, Int.reduceEq, Int.reduceLT, Int.reduceLE, List.reduceReplicate, intA, setT_nil, setT_cons, ↓boolP_bool, ↓iteB_true, ↓iteB_false, ha.len, List.length_map, sizeP hN, putP0 hN, putP hN, settleP0 hN, settleP hN, List.length_nil, Nat.add_zero]
  refine Lp_rule (P := fun μ a' H => ∃ j, j + μ = ns.length ∧ a' = ⟨24, [(0, .agg [intA lo, intA hi]), (1, a), (2, .ptr N 0 0), (4, .v (.bool false)), (7, a), (8, intA ns.length), (9, intA j)], []⟩ ∧ X.plus [some (.cells 0 0 120 1 false [intA lo, intA hi])] = H ∧ withinB lo hi ns = withinB lo hi (ns.drop j)) ?_ ns.length _ _ ⟨0, by omega, rfl, rfl, rfl⟩
  rintro μ _ _ ⟨j, hj, rfl, rfl, ho⟩
  by_cases hlt : (j : Int) < (ns.length : Int)
  · obtain ⟨n, hr⟩ := at_lt ns j (by omega)
    have hw := wrap_succ j (by omega)
    obtain ⟨p, hp1, hp2, hp3⟩ := ha.get hN (show (ns.map intA)[j]? = some (intA n) by rw [List.getElem?_map, hr]; rfl) rfl .i64
    unfold intA at hp2
    rw [drop_eq_cons hr] at ho
    have hgo : withinB lo hi [n] = true → withinB lo hi ns = withinB lo hi (ns.drop (j + 1)) := fun h => by
      rw [ho]; unfold withinB at h ⊢; simp only [List.all_cons, List.all_nil, Bool.and_true] at h ⊢; rw [h, Bool.true_and]
    have hno : withinB lo hi [n] = false → withinB lo hi ns = false := fun h => by
      rw [ho]; unfold withinB at h ⊢; simp only [List.all_cons, List.all_nil, Bool.and_true] at h ⊢; rw [h, Bool.false_and]
    by_cases k1 : n < lo
    · have hf := hno (by unfold withinB; simp; omega)
      rw [hf]
      simp -implicitDefEqProofs only [go_sem, ↓reduceIte, Int.reduceEq, Int.reduceLT, Int.reduceLE, List.reduceReplicate, intA, setT_nil, setT_cons, ↓boolP_bool, ↓iteB_true, ↓iteB_false, hlt, hw, hp1, hp2 _ _ isAgg3 size3, k1, sizeP hN, rowP0 hN, rowP hN, settleP0 hN, settleP hN, List.length_nil, Nat.add_zero]
      rfl
    · by_cases k2 : hi < n
      · have hf := hno (by unfold withinB; simp; omega)
        rw [hf]
        simp -implicitDefEqProofs only [go_sem, ↓reduceIte, Int.reduceEq, Int.reduceLT, Int.reduceLE, List.reduceReplicate, intA, setT_nil, setT_cons, ↓boolP_bool, ↓iteB_true, ↓iteB_false, hlt, hw, hp1, hp2 _ _ isAgg3 size3, k1, k2, sizeP hN, rowP0 hN, rowP hN, settleP0 hN, settleP hN, List.length_nil, Nat.add_zero]
        rfl
      · have hf := hgo (by unfold withinB; simp; omega)
        simp -implicitDefEqProofs only [go_sem, ↓reduceIte, Int.reduceEq, Int.reduceLT, Int.reduceLE, List.reduceReplicate, intA, setT_nil, setT_cons, ↓boolP_bool, ↓iteB_true, ↓iteB_false, hlt, hw, hp1, hp2 _ _ isAgg3 size3, k1, k2, sizeP hN, rowP0 hN, rowP hN, settleP0 hN, settleP hN, List.length_nil, Nat.add_zero, trimP1 hN]
        exact ⟨μ - 1, by omega, j + 1, by omega, rfl, rfl, hf⟩
  · have hf : withinB lo hi ns = true := by rw [ho, show ns.drop j = [] from List.drop_eq_nil_of_le (by omega)]; rfl
    rw [hf]
    simp -implicitDefEqProofs only [go_sem, ↓reduceIte, Int.reduceEq, Int.reduceLT, Int.reduceLE, List.reduceReplicate, intA, setT_nil, setT_cons, ↓boolP_bool, ↓iteB_true, ↓iteB_false, hlt, sizeP hN, settleP0 hN, settleP hN, List.length_nil, Nat.add_zero, trimP1 hN]
    rfl
theorem callP69 {e : Exts} (he : Quiet e) {X : Heap} (lo hi : Int) (ns : List Int) (a : AV) (ha : SlH X (ns.map intA) a) (hn : ns.length < 2 ^ 63) (me : FuncId) (d : Option Tmp) : callA (Cx e) (lim (Cx e)) me 69 d [.agg [.v (.int .i64 lo), .v (.int .i64 hi)], a] X = some (.v (.bool (withinB lo hi ns)), X) := by
  refine callA_still (ext_69 he) (pure_69 _ _ _) ?_ (fun h0 => fn69 rfl lo hi ns a (ha.closed ?_ _) hn) (fn69 rfl lo hi ns a (ha.lock _) hn)
  · have : isYld (.agg [.v (.int .i64 lo), .v (.int .i64 hi)]) = false := rfl
    simp [ha.yld, this]
  · rw [boundL_cons, boundL_cons] at h0
    exact Nat.le_zero.1 (h0 ▸ Nat.le_trans (Nat.le_max_left _ _) (Nat.le_max_right _ _))
theorem fn82 {e : Exts} (he : Quiet e) {X : Heap} (ns : List Int) (a : AV) (ha : SlH X (ns.map intA) a) (hn : ns.length < 2 ^ 63) : Fn' (Cx e) 82 [a] X (fun v _ => v = .v (.bool (withinB 1 10 ns))) := by
  rw [fn_step (fn_82 e) (show Tryz.f82.body = some _ from rfl)]
  have hc := callP69 he 1 10 ns a ha hn
  simp -implicitDefEqProofs only [Tryz.f82, go_sem, ↓reduceIte, Int.reduceEq, Int.reduceLT, Int.reduceLE, List.reduceReplicate, intA, setT_nil, setT_cons, ↓boolP_bool, ↓iteB_true, ↓iteB_false, hc]
  rfl
theorem callP82 {e : Exts} (he : Quiet e) {X : Heap} (ns : List Int) (a : AV) (ha : SlH X (ns.map intA) a) (hn : ns.length < 2 ^ 63) (me : FuncId) (d : Option Tmp) : callA (Cx e) (lim (Cx e)) me 82 d [a] X = some (.v (.bool (withinB 1 10 ns)), X) := by
  refine callA_still (ext_82 he) (pure_82 _ _ _) ?_ (fun h0 => fn82 he ns a (ha.closed ?_ _) hn) (fn82 he ns a (ha.lock _) hn)
  · simp [ha.yld]
  · rw [boundL_cons] at h0
    exact Nat.le_zero.1 (h0 ▸ Nat.le_max_left _ _)
end Go.Ev
namespace Go.Ev
open Go.Proofs
set_option maxRecDepth 100000
set_option linter.unusedSimpArgs false
attribute [local irreducible] Wp WpS
/-! ### the lengths of the lines of a copy -/
def lenIt (x : List AV) : Int := match x with | [_, z] => ((slElems z).length : Int) | _ => 0
def lensOf (ys : List AV) : List Int := ys.flatMap fun y => (linesOf y).map fun z => ((slElems z).length : Int)
theorem lineIts_lens (i : Nat) : ∀ (k : Nat) (zs : List AV), (lineIts i k zs).map lenIt = zs.map fun z => ((slElems z).length : Int)
  | _, [] => rfl
  | k, z :: r => by
    show lenIt _ :: (lineIts i (k + 1) r).map lenIt = _
    rw [lineIts_lens i (k + 1) r]; rfl
theorem chapIts_lens : ∀ (i : Nat) (ys : List AV), (chapIts i ys).map lenIt = lensOf ys
  | _, [] => rfl
  | i, y :: r => by
    show (lineIts i 0 (linesOf y) ++ chapIts (i + 1) r).map lenIt = _
    rw [List.map_append, lineIts_lens, chapIts_lens (i + 1) r]; rfl
def stp58 (s : List Int) (x : List AV) : AExit × List Int := (.normal, s ++ [lenIt x])
/-- an item that is a place and a line -/
def Item58 (x : List AV) : Prop := ∃ p z els, x = [p, z] ∧ SlOf 1 els z
def ok58 (s : List Int) (x : List AV) : Prop := Item58 x ∧ s.length < 2 ^ 32
theorem run58 : ∀ (T : List (List AV)) (s : List Int), (∀ x ∈ T, Item58 x) → s.length + T.length ≤ 2 ^ 32 →
    okRun (fun s x => (isGo (stp58 s x).1, (stp58 s x).2)) ok58 T s ∧ foldE stp58 T s = (.normal, s ++ T.map lenIt)
  | [], s, _, _ => ⟨trivial, by simp [foldE]⟩
  | x :: r, s, h, hl => by
    have ih := run58 r (s ++ [lenIt x]) (fun z hz => h z (List.mem_cons_of_mem _ hz)) (by simp only [List.length_append, List.length_cons, List.length_nil] at hl ⊢; omega)
    refine ⟨⟨⟨h x (List.mem_cons_self ..), by simp only [List.length_cons] at hl; omega⟩, fun _ => ih.1⟩, ?_⟩
    rw [foldE_go rfl]
    show foldE stp58 r (s ++ [lenIt x]) = _
    rw [ih.2, List.map_cons, List.append_assoc]; rfl
/-- where the lengths lie -/
def L58 (s : List Int) (lv : AV) (m2 : Nat) (rows : Fm) : Prop := (s = [] ∧ lv = .v (.slice none 0 0) ∧ rows = []) ∨ ∃ b v, lv = .sl b v 0 s.length none ∧ 5 ≤ b ∧ b < m2 ∧ rows = [(b, .cells v 0 3 1 true (s.map intA))]
def base58 (ch : AV) (id : Int) (x lv : AV) (m2 : Nat) : Fm := [(0, .cells 0 0 79 1 false [ch]), (1, .cells 0 0 53 1 false [intA id, x]), (2, .cells 0 m2 133 1 false [lv])]
def R58 (ch : AV) (id : Int) (x : AV) (s : List Int) (m : Fm) : Prop := ∃ lv m2 rows, L58 s lv m2 rows ∧ m = base58 ch id x lv m2 ++ rows
theorem R58_anch {ch : AV} {id : Int} {x : AV} (s : List Int) (m : Fm) (h : R58 ch id x s m) : Anch 3 m := by
  obtain ⟨lv, m2, rows, hl, rfl⟩ := h
  rintro n hn ⟨p, hp, hnp⟩
  refine ⟨(2, .cells 0 m2 133 1 false [lv]), List.mem_append_left _ (by unfold base58; simp), by show 2 < n; omega, ?_⟩
  show n < m2
  rcases List.mem_append.1 hp with hp | hp
  · unfold base58 at hp
    simp only [List.mem_cons, List.not_mem_nil, or_false] at hp
    rcases hp with rfl | rfl | rfl <;> simp only at hnp <;> omega
  · rcases hl with ⟨-, -, rfl⟩ | ⟨b, v, -, h5, hb, rfl⟩
    · exact nomatch hp
    · rw [List.mem_singleton.1 hp] at hnp
      simp only at hnp; omega
theorem R58_free {ch : AV} {id : Int} {x : AV} (s : List Int) (m : Fm) (h : R58 ch id x s m) : ¬ keyIn 3 m ∧ ¬ keyIn 4 m := by
  obtain ⟨lv, m2, rows, hl, rfl⟩ := h
  have key : ∀ p ∈ base58 ch id x lv m2 ++ rows, p.1 ≠ 3 ∧ p.1 ≠ 4 := by
    intro p hp
    rcases List.mem_append.1 hp with hp | hp
    · unfold base58 at hp
      simp only [List.mem_cons, List.not_mem_nil, or_false] at hp
      rcases hp with rfl | rfl | rfl <;> exact ⟨by simp, by simp⟩
    · rcases hl with ⟨-, -, rfl⟩ | ⟨b, v, -, h5, hb, rfl⟩
      · exact nomatch hp
      · rw [List.mem_singleton.1 hp]
        exact ⟨by show b ≠ 3; omega, by show b ≠ 4; omega⟩
  exact ⟨fun ⟨p, hp, h⟩ => (key p hp).1 h, fun ⟨p, hp, h⟩ => (key p hp).2 h⟩
theorem fin58 {ch : AV} {id : Int} {x : AV} {s : List Int} {lv : AV} {m2 : Nat} {rows : Fm} {X Y W : Heap} {N : Nat} {L' : ALoop} (hXY : ∀ b, b ≠ 4 → Y.get b = X.get b) (hl4 : Y.get 4 = some (.loop L')) (hXN : X.size = N) (hlk : X.lock = 0) (hsz : 5 ≤ N)
    (hH : Has (base58 ch id x lv m2 ++ rows) Y) (n : Int) (b' v' m2' : Nat) (hW2 : W.get 2 = some (.cells 0 m2' 133 1 false [.sl b' v' 0 (s.length + 1) none])) (hWb : W.get b' = some (.cells v' 0 3 1 true ((s ++ [n]).map intA)))
    (hWo : ∀ b, b < N → b ≠ 2 → b ≠ b' → W.get b = Y.get b) (hWl : W.lock = 0) (hWs : N ≤ W.size) (h5 : 5 ≤ b') (hb : N ≤ b' ∨ keyIn b' rows) (hbm : b' < m2') :
    ∃ m', R58 ch id x (s ++ [n]) m' ∧ Has m' W ∧ loopObj W 4 = some L' ∧ Moves ((4, .loop L') :: (base58 ch id x lv m2 ++ rows)) X ((4, .loop L') :: m') W := by
  have hb0 : W.get 0 = some (.cells 0 0 79 1 false [ch]) := (hWo 0 (by omega) (by omega) (by omega)).trans (hH (0, _) (List.mem_append_left _ (by unfold base58; simp)))
  have hb1 : W.get 1 = some (.cells 0 0 53 1 false [intA id, x]) := (hWo 1 (by omega) (by omega) (by omega)).trans (hH (1, _) (List.mem_append_left _ (by unfold base58; simp)))
  have hb4 : W.get 4 = some (.loop L') := (hWo 4 (by omega) (by omega) (by omega)).trans hl4
  refine ⟨base58 ch id x (.sl b' v' 0 (s.length + 1) none) m2' ++ [(b', .cells v' 0 3 1 true ((s ++ [n]).map intA))], ⟨_, m2', _, Or.inr ⟨b', v', by rw [List.length_append]; rfl, h5, hbm, rfl⟩, rfl⟩, ?_, get_loopObj hb4, ⟨hWl.trans hlk.symm, by omega, ?_, ?_⟩⟩
  · intro p hp
    rcases List.mem_append.1 hp with hp | hp
    · unfold base58 at hp
      simp only [List.mem_cons, List.not_mem_nil, or_false] at hp
      rcases hp with rfl | rfl | rfl
      · exact hb0
      · exact hb1
      · exact hW2
    · rw [List.mem_singleton.1 hp]; exact hWb
  · intro b hbn hk
    have h4 : b ≠ 4 := fun h => hk ⟨_, List.mem_cons_self .., h.symm⟩
    have h2 : b ≠ 2 := fun h => hk ⟨(2, .cells 0 m2 133 1 false [lv]), List.mem_cons_of_mem _ (List.mem_append_left _ (by unfold base58; simp)), h.symm⟩
    have hbb : b ≠ b' := fun h => by
      rcases hb with hb | ⟨p, hp, he⟩
      · omega
      · exact hk ⟨p, List.mem_cons_of_mem _ (List.mem_append_right _ hp), by omega⟩
    rw [hWo b (by omega) h2 hbb, hXY b h4]
  · intro p hp
    rcases List.mem_cons.1 hp with rfl | hp
    · exact Or.inl ⟨_, List.mem_cons_self .., rfl⟩
    · rcases List.mem_append.1 hp with hp | hp
      · unfold base58 at hp
        simp only [List.mem_cons, List.not_mem_nil, or_false] at hp
        have hm : ∀ q ∈ base58 ch id x lv m2, keyIn q.1 ((4, AObj.loop L') :: (base58 ch id x lv m2 ++ rows)) := fun q hq => ⟨q, List.mem_cons_of_mem _ (List.mem_append_left _ hq), rfl⟩
        rcases hp with rfl | rfl | rfl
        · exact Or.inl (hm (0, .cells 0 0 79 1 false [ch]) (by unfold base58; simp))
        · exact Or.inl (hm (1, .cells 0 0 53 1 false [intA id, x]) (by unfold base58; simp))
        · exact Or.inl (hm (2, .cells 0 m2 133 1 false [lv]) (by unfold base58; simp))
      · rw [List.mem_singleton.1 hp]
        rcases hb with hb | ⟨q, hq, he⟩
        · exact Or.inr (by rw [hXN]; exact hb)
        · exact Or.inl ⟨q, List.mem_cons_of_mem _ (List.mem_append_right _ hq), he⟩
end Go.Ev
namespace Go.Ev
open Go.Proofs
set_option maxRecDepth 100000
set_option linter.unusedSimpArgs false
attribute [local irreducible] Wp WpS
theorem call80 {e : Exts} (he : Quiet e) (t : Txt) (ht : Fits t) (ch : AV) (xs : List AV) (hch : SlOf 2 xs ch) (hall : All2 ChapA t xs) (l : List Rd) (x : AV) (hx : RdsA l x) (hn : l.length < 2 ^ 63) (hrd : ∀ r ∈ l, RdF r) (me : FuncId) (d : Option Tmp) (H : Heap) : callA (Cx e) (lim (Cx e)) me 80 d [.agg [ch], x] H = some (.v (.bool (l.all (fitOne t))), H) :=
  (ans80 he t ht ch xs hch hall l x hx hn hrd).call (ext_80 he) (pure_80 _ _ _) (by simp only [boundL_cons, bound_agg, hch.bound, SlOf.bound hx, boundL_nil]; rfl) H
theorem fitsA8 : fitsA 8 1 = true := by decide
set_option maxHeartbeats 4000000 in
theorem ans58 {e : Exts} (he : Quiet e) (t : Txt) (ht : Fits t) (ch : AV) (xs : List AV) (hch : SlOf 2 xs ch) (hall : All2 ChapA t xs) (id : Int) (hid : withinB 0 9999 [id] = true) (rs : List Rd) (x : AV) (hx : RdsA rs x) (hrs : ¬ 20 < (rs.length : Int)) (hrd : ∀ r ∈ rs, RdF r) (hfit : rs.all (fitOne t) = true) (hord : ordB rs = true) (ys : List AV) (o : AV) (ho : SlOf 2 ys o) (hys : ∀ y ∈ ys, OkCh y) (hyl : ys.length < 2 ^ 63) (hit : ∀ z ∈ chapIts 0 ys, Item58 z) (hcnt : (chapIts 0 ys).length < 2 ^ 32) (h55 : Ans (Cx e) 55 [.agg [ch], .agg [intA id, x]] (.agg [o])) : Ans (Cx e) 58 [.agg [ch], .agg [intA id, x]] (.v (.bool (withinB 1 10 (lensOf ys)))) := by
  have hxr := hx
  have hx : SlOf 5 (rs.map rdV) x := hx
  have hc55 : ∀ (me : FuncId) (d : Option Tmp) (H : Heap), callA (Cx e) (lim (Cx e)) me 55 d [.agg [ch], .agg [.v (.int .i64 id), x]] H = some (.agg [o], H) := fun me d H =>
    h55.call (ext_55 he) (pure_55 _ _ _) (by simp only [boundL_cons, bound_agg, hch.bound, intA, bound_v, hx.bound, boundL_nil]; rfl) H
  have h51 := call51 he id
  rw [hid] at h51
  have h80 := call80 he t ht ch xs hch hall rs x hxr (by omega) hrd
  rw [hfit] at h80
  have h81 := call81 he rs x hxr (by omega)
  rw [hord] at h81
  unfold Ans
  rw [fn_step (fn_58 e) (show Tryz.f58.body = some _ from rfl)]
  simp -implicitDefEqProofs only [Tryz.f58, go_sem, ↓reduceIte, Int.reduceEq, Int.reduceLT, Int.reduceLE, List.reduceReplicate, intA, setT_nil, setT_cons, ↓boolP_bool, ↓iteB_true, ↓iteB_false, hch.cells, hch.flat, hch.bound, hx.cells, hx.flat, hx.bound, hx.len, List.length_map, h51, h80, h81, hrs, hc55, ho.cells, ho.flat, ho.bound, call64 he o ys ho]
  refine wp_range2 (yields2_88 o ys ho hys hyl) rfl (R58 ch id x) stp58 (fun _ => True) ok58 (n0 := 3) (k := 0) (Nat.le_refl _) (Nat.zero_le _) ?_ (fun s m h => R58_anch s m h) (fun s m h => R58_free s m h) ?_ ?_ [] (base58 ch id x (.v (.slice none 0 0)) 0) ?_ ?_ ?_ ?_ ?_ ?_
  · intro z hz
    obtain ⟨p, z, els, rfl, -⟩ := hit z hz
    rfl
  · intro _ _ _ _ _; trivial
  · intro L L' s m z X hL hs hok hxl hR hH hd0 hl1 hlk hsz
    obtain ⟨⟨p, z, els, rfl, hz⟩, hsl⟩ := hok
    obtain ⟨lv, m2, rows, hl, rfl⟩ := hR
    have hsz : 5 ≤ X.size := hsz
    have hl1 : loopObj X 4 = some L := hl1
    have hd0 : X.get 3 = some .dfr := hd0
    generalize hN : X.size = N at *
    have hlkN : X.lock ≤ N := by rw [hlk]; exact Nat.zero_le _
    rw [← plus_nil X]
    simp -implicitDefEqProofs only [go_sem, ↓reduceIte, Int.reduceEq, Int.reduceLT, Int.reduceLE, List.reduceReplicate, intA, setT_nil, setT_cons, sizeP hN, putP0 hN, putP hN, settleP0 hN, settleP hN, rowP0 hN, rowP hN, storeP0 hN hlkN, storeP hN hlkN]
    refine ⟨rfl, ?_, ?_⟩
    · refine get_loopObj ?_
      rw [plus_get _ (by omega)]; exact loopObj_getI hl1
    · rw [putLo (by omega)]
      have hf := R58_free (ch := ch) (id := id) (x := x) s _ ⟨lv, m2, rows, hl, rfl⟩
      have hH4 := hH.put (.loop L') (b := 4) (by omega) hf.2
      have hN4 : (X.put 4 (.loop L')).size = N := by rw [put_sizeI _ (by omega)]; exact hN
      have hlk4 : (X.put 4 (.loop L')).lock = 0 := hlk
      have hl4 : (X.put 4 (.loop L')).get 4 = some (.loop L') := put_get_eq _ (by omega)
      have hsm4 : ∀ b, b ≠ 4 → (X.put 4 (.loop L')).get b = X.get b := fun b hb => put_get_ne _ (by omega) hb
      generalize X.put 4 (.loop L') = Y at *
      have hlkY : Y.lock ≤ N := by rw [hlk4]; exact Nat.zero_le _
      have h2' : Y.row 2 0 = some (m2, 133, 1, false, [lv]) := get_row (hH4 (2, _) (List.mem_append_left _ (by unfold base58; simp)))
      have hr2 : ∀ E, (Y.plus E).row 2 0 = some (m2, 133, 1, false, [lv]) := fun E => by rw [rowLo (by omega)]; exact h2'
      have hst := fun (w : AV) (hw : w.flat = true) E => storeLoK (X := Y) (b := 2) (v := 0) (k := 0) (x := w) (by omega) (by omega) h2' (Nat.le_refl _) hw E
      have hst := fun b' v' l' c' E => hst (.sl b' v' 0 l' c') rfl E
      have hn : lenIt [p, z] = (els.length : Int) := by show ((slElems z).length : Int) = _; rw [hz.elems]
      rcases hl with ⟨rfl, rfl, rfl⟩ | ⟨b, v, rfl, hb5, hbm, rfl⟩
      · simp -implicitDefEqProofs only [go_sem, ↓reduceIte, Int.reduceEq, Int.reduceLT, Int.reduceLE, List.reduceReplicate, intA, setT_nil, setT_cons, sizeP hN4, putP0 hN4, putP hN4, settleP0 hN4, settleP hN4, rowP0 hN4, rowP hN4, storeP0 hN4 hlkY, storeP hN4 hlkY, hr2, hz.len, fitsA8, hst, List.flatMap_cons, List.flatMap_nil]
        rw [show stp58 [] [p, z] = (.normal, [] ++ [(els.length : Int)]) by unfold stp58; rw [hn]]
        rw [plus_nil]
        refine ⟨rfl, ?_⟩
        have hmm : N < (if m2 ≤ bound (AV.sl N 0 0 1 none) then bound (AV.sl N 0 0 1 none) else m2) := by rw [bound_sl]; split <;> omega
        generalize (if m2 ≤ bound (AV.sl N 0 0 1 none) then bound (AV.sl N 0 0 1 none) else m2) = m2' at *
        have hP : (Y.put 2 (.cells 0 m2' 133 1 false [.sl N 0 0 1 none])).size = N := by rw [put_sizeI _ (by omega)]; exact hN4
        have hH5 : Has (base58 ch id x (.v (.slice none 0 0)) m2 ++ []) Y := hH4
        have hfin := fin58 (W := settleH N ((Y.put 2 (.cells 0 m2' 133 1 false [.sl N 0 0 1 none])).plus [some (.cells 0 0 3 1 true [.v (.int .i64 els.length)])])) (s := []) hsm4 hl4 hN hlk hsz hH5 (els.length : Int) N 0 m2' ?_ ?_ ?_ ?_ ?_ hsz (Or.inl (Nat.le_refl _)) hmm
        · simpa using hfin
        · rw [settle_lo (by omega), plus_get _ (by omega)]; exact put_get_eq _ (by omega)
        · refine settle_some ?_
          rw [plus_get_hi _ (by omega), hP, Nat.sub_self]; rfl
        · intro b hb h2 hbb
          rw [settle_lo (by omega), plus_get _ (by omega), put_get_ne _ (by omega) (by omega)]
        · rw [settle_lock]; exact hlk4
        · exact settle_size' (by rw [plus_size, hP]; omega)
      · have hgb : Y.get b = some (.cells v 0 3 1 true (s.map intA)) := hH4 _ (List.mem_append_right _ (List.mem_singleton.2 rfl))
        have hbN : b < N := by have := get_ltS hgb; omega
        have hrb : ∀ E, (Y.plus E).row b v = some (0, 3, 1, true, s.map intA) := fun E => by rw [rowLo (by omega)]; exact get_row hgb
        have happ := fun E slot => appTo_own (H := Y.plus E) (slot := slot) (e := 3) (sz := 1) (b' := 8) (n := 1) (new := [.v (.int .i64 els.length)]) (hrb E) (by rw [Nat.mul_one, List.length_map]) (by show Y.lock ≤ _; omega) (by unfold fitsA; exact decide_eq_true (by omega)) (by omega) (by omega)
        have hpl := fun E o => putLo (X := Y) (b := b) (by omega) E o
        have hsto := fun o (w : AV) (hw : w.flat = true) E => storeLoK (X := Y.put b o) (b := 2) (v := 0) (k := 0) (x := w) (by rw [put_sizeI _ (by omega)]; omega) (by show Y.lock ≤ 2; omega) (get_row ((put_get_ne o (by omega) (by omega)).trans (row_of_get h2'))) (Nat.le_refl _) hw E
        have hsto := fun o b' v' l' c' E => hsto o (.sl b' v' 0 l' c') rfl E
        simp -implicitDefEqProofs only [go_sem, ↓reduceIte, Int.reduceEq, Int.reduceLT, Int.reduceLE, List.reduceReplicate, intA, setT_nil, setT_cons, sizeP hN4, putP0 hN4, putP hN4, settleP0 hN4, settleP hN4, rowP0 hN4, rowP hN4, storeP0 hN4 hlkY, storeP hN4 hlkY, hr2, hz.len, hst, List.flatMap_cons, List.flatMap_nil, happ, hpl, hsto]
        rw [show stp58 s [p, z] = (.normal, s ++ [(els.length : Int)]) by unfold stp58; rw [hn]]
        rw [plus_nil X]
        refine ⟨rfl, ?_⟩
        have hmm : b < (if m2 ≤ bound (AV.sl b (v + 1) 0 (s.length + 1) none) then bound (AV.sl b (v + 1) 0 (s.length + 1) none) else m2) := by rw [bound_sl]; split <;> omega
        generalize (if m2 ≤ bound (AV.sl b (v + 1) 0 (s.length + 1) none) then bound (AV.sl b (v + 1) 0 (s.length + 1) none) else m2) = m2' at *
        have hP1 : (Y.put b (.cells (v + 1) 0 3 1 true (s.map intA ++ [.v (.int .i64 els.length)]))).size = N := by rw [put_sizeI _ (by omega)]; exact hN4
        have hP : ((Y.put b (.cells (v + 1) 0 3 1 true (s.map intA ++ [.v (.int .i64 els.length)]))).put 2 (.cells 0 m2' 133 1 false [.sl b (v + 1) 0 (s.length + 1) none])).size = N := by rw [put_sizeI _ (by omega)]; exact hP1
        have hfin := fin58 (W := settleH N (((Y.put b (.cells (v + 1) 0 3 1 true (s.map intA ++ [.v (.int .i64 els.length)]))).put 2 (.cells 0 m2' 133 1 false [.sl b (v + 1) 0 (s.length + 1) none])).plus [])) (s := s) hsm4 hl4 hN hlk hsz hH4 (els.length : Int) b (v + 1) m2' ?_ ?_ ?_ ?_ ?_ hb5 (Or.inr ⟨_, List.mem_singleton.2 rfl, rfl⟩) hmm
        · exact hfin
        · rw [settle_lo (by omega), plus_get _ (by omega)]; exact put_get_eq _ (by omega)
        · rw [settle_lo (by omega), plus_get _ (by omega), put_get_ne _ (by omega) (by omega), put_get_eq _ (by omega), List.map_append]; rfl
        · intro b' hb h2 hbb
          rw [settle_lo (by omega), plus_get _ (by omega), put_get_ne _ (by omega) (by omega), put_get_ne _ (by omega) (by omega)]
        · rw [settle_lock]; exact hlk4
        · exact settle_size' (by rw [plus_size, hP]; omega)
  · exact (run58 _ _ hit (by simp only [List.length_nil]; omega)).1
  · trivial
  · exact ⟨_, 0, [], Or.inl ⟨rfl, rfl, rfl⟩, by rw [List.append_nil]⟩
  · intro q hq
    unfold base58 at hq
    simp only [List.mem_cons, List.not_mem_nil, or_false] at hq
    rcases hq with rfl | rfl | rfl <;> rfl
  · rfl
  · intro m' H' hR hH hd hdead hmv hsz
    rw [(run58 _ _ hit (by simp only [List.length_nil]; omega)).2] at hR ⊢
    obtain ⟨lv, m2, rows, hl, rfl⟩ := hR
    have hlk : H'.lock = 0 := hmv.lock
    have hsz : 5 ≤ H'.size := hsz
    have hd : H'.get 3 = some .dfr := hd
    simp only [List.nil_append, chapIts_lens] at hl
    have hr2 : H'.row 2 0 = some (m2, 133, 1, false, [lv]) := get_row (hH (2, _) (List.mem_append_left _ (by unfold base58; simp)))
    have hcl : (lensOf ys).length < 2 ^ 63 := by rw [← chapIts_lens 0 ys, List.length_map]; omega
    have hslh : SlH H' ((lensOf ys).map intA) lv := by
      rcases hl with ⟨h0, rfl, -⟩ | ⟨b, v, rfl, hb5, hbm, rfl⟩
      · exact Or.inl (Or.inl ⟨rfl, by rw [h0]; rfl⟩)
      · have hgb : H'.get b = some (.cells v 0 3 1 true ((lensOf ys).map intA)) := hH _ (List.mem_append_right _ (List.mem_singleton.2 rfl))
        exact Or.inr ⟨b, v, none, 0, 3, true, _, by rw [List.length_map], get_size hgb, get_row hgb, List.take_length, Nat.le_refl _⟩
    have hc82 := callP82 he (lensOf ys) lv hslh hcl
    have hkill : killAll [3] H' = some (H'.put 3 .dead) := by
      unfold killAll
      rw [hd]
      show (if H'.lock ≤ 3 then killAll [] (H'.put 3 .dead) else none) = _
      rw [if_pos (by omega)]; rfl
    clear hmv hdead
    simp -implicitDefEqProofs only [go_sem, ↓reduceIte, Int.reduceEq, Int.reduceLT, Int.reduceLE, List.reduceReplicate, intA, setT_nil, setT_cons, hr2, hc82, hkill]
theorem has58 {e : Exts} (he : Quiet e) (t : Txt) (ht : Fits t) (ch : AV) (xs : List AV) (hch : SlOf 2 xs ch) (hall : All2 ChapA t xs) (id : Int) (hid : withinB 0 9999 [id] = true) (rs : List Rd) (x : AV) (hx : RdsA rs x) (hrs : ¬ 20 < (rs.length : Int)) (hrd : ∀ r ∈ rs, RdF r) (hfit : rs.all (fitOne t) = true) (hord : ordB rs = true) (ys : List AV) (o : AV) (ho : SlOf 2 ys o) (hys : ∀ y ∈ ys, OkCh y) (hyl : ys.length < 2 ^ 63) (hit : ∀ z ∈ chapIts 0 ys, Item58 z) (hcnt : (chapIts 0 ys).length < 2 ^ 32) (h55 : Ans (Cx e) 55 [.agg [ch], .agg [intA id, x]] (.agg [o])) : Has58 e ch id x (withinB 1 10 (lensOf ys)) := fun me d H =>
  (ans58 he t ht ch xs hch hall id hid rs x hx hrs hrd hfit hord ys o ho hys hyl hit hcnt h55).call (ext_58 he) (pure_58 _ _ _) (by simp only [boundL_cons, bound_agg, hch.bound, intA, bound_v, SlOf.bound hx, boundL_nil]; rfl) H
end Go.Ev
namespace Go.Ev
open Go.Proofs
set_option maxRecDepth 100000
set_option linter.unusedSimpArgs false
/-! ### a line of a copy, read in either way -/
/-- how readings of one line stand one behind the other -/
def Bhd (a b : Rd) : Prop := a.wd ≤ b.wd ∧ (a.kind ≠ 2 → a.wd < b.wd)
/-- a way to write a copy's line word by word -/
structure Way (ls : Line) (on : Rd → Prop) (W : List Rd → List ByteArray → Nat → List ByteArray) : Prop where
  none : ∀ ds w s, ls[w]? = some s → W [] ds w = ds ++ [s]
  last : ∀ ds, W [] ds ls.length = ds
  skip : ∀ (r : Rd) (l : List Rd) (ds : List ByteArray) (w : Nat), r.wd ≠ (w : Nat) → W (r :: l) ds w = W l ds w
  put : ∀ (r : Rd) (l : List Rd) (ds : List ByteArray) (w : Nat), on r → r.wd = (w : Nat) → r.kind = 2 → W (r :: l) ds w = W l (ds ++ [r.word]) w
  other : ∀ (r : Rd) (l : List Rd) (ds : List ByteArray) (w : Nat), on r → r.wd = (w : Nat) → r.kind ≠ 2 → w < ls.length → (∀ q ∈ l, q.wd ≠ (w : Nat)) → W (r :: l) ds w = ds ++ if r.word = emp then [] else [r.word]
theorem Way.far {ls : Line} {on : Rd → Prop} {W : List Rd → List ByteArray → Nat → List ByteArray} (hW : Way ls on W) (ds : List ByteArray) (w : Nat) : ∀ l : List Rd, (∀ r ∈ l, r.wd ≠ (w : Nat)) → W l ds w = W [] ds w
  | [], _ => rfl
  | r :: l, h => by rw [hW.skip r l ds w (h r (List.mem_cons_self ..)), hW.far ds w l fun q hq => h q (List.mem_cons_of_mem _ hq)]
theorem drop_take_succ (ls : Line) (p n : Nat) (s : ByteArray) (h : ls[p]? = some s) : (ls.drop p).take (n + 1) = s :: (ls.drop (p + 1)).take n := by
  obtain ⟨hp, rfl⟩ := List.getElem?_eq_some_iff.1 h
  rw [List.drop_eq_getElem_cons hp, List.take_succ_cons]
theorem Way.free {ls : Line} {on : Rd → Prop} {W : List Rd → List ByteArray → Nat → List ByteArray} (hW : Way ls on W) (l : List Rd) : ∀ (n p : Nat) (ds : List ByteArray), p + n ≤ ls.length → (∀ r ∈ l, ((p + n : Nat) : Int) ≤ r.wd) → (List.range' p n).foldl (W l) ds = ds ++ (ls.drop p).take n
  | 0, p, ds, _, _ => by simp
  | n + 1, p, ds, h1, h2 => by
    obtain ⟨s, hs⟩ := at_lt ls p (by omega)
    rw [List.range'_succ, List.foldl_cons, hW.far ds p l (fun r hr => by have := h2 r hr; omega), hW.none ds p s hs, hW.free l n (p + 1) (ds ++ [s]) (by omega) (fun r hr => by have := h2 r hr; omega), drop_take_succ ls p n s hs, List.append_assoc]
    rfl
theorem foldl_eq {α β : Type} {f g : α → β → α} : ∀ (l : List β) (a : α), (∀ b ∈ l, ∀ a, f a b = g a b) → l.foldl f a = l.foldl g a
  | [], _, _ => rfl
  | b :: l, a, h => by rw [List.foldl_cons, List.foldl_cons, h b (List.mem_cons_self ..) a, foldl_eq l _ fun c hc => h c (List.mem_cons_of_mem _ hc)]
theorem range'_split (p q n : Nat) (h1 : p ≤ q) (h2 : q ≤ n) : List.range' p (n - p) = List.range' p (q - p) ++ List.range' q (n - q) := by
  have h := List.range'_append (s := p) (m := q - p) (n := n - q) (step := 1)
  rw [Nat.one_mul, show p + (q - p) = q by omega, show q - p + (n - q) = n - p by omega] at h
  exact h.symm
/-- the word is what the kind says -/
structure RdW (ls : Line) (r : Rd) : Prop where
  kind : r.kind = 1 ∨ r.kind = 2 ∨ r.kind = 3
  word : r.kind = 1 ↔ r.word = emp
  hi : r.wd + (if r.kind = 2 then 0 else 1) ≤ ls.length
theorem way_read {ls : Line} {on : Rd → Prop} {W : List Rd → List ByteArray → Nat → List ByteArray} (hW : Way ls on W) : ∀ (l : List Rd) (p : Nat) (ds : List ByteArray), p ≤ ls.length → (∀ r ∈ l, on r ∧ RdW ls r ∧ (p : Int) ≤ r.wd) → l.Pairwise Bhd →
    (List.range' p (ls.length + 1 - p)).foldl (W l) ds = (l.foldl (rdOne ls) (p, ds)).2 ++ ls.drop (l.foldl (rdOne ls) (p, ds)).1
  | [], p, ds, hp, _, _ => by
    rw [range'_split p ls.length (ls.length + 1) hp (Nat.le_succ _), List.foldl_append, hW.free [] (ls.length - p) p ds (by omega) (fun r hr => nomatch hr), Nat.add_sub_cancel_left]
    show W [] _ ls.length = _
    rw [hW.last]
    show _ = ds ++ ls.drop p
    rw [List.take_of_length_le (by rw [List.length_drop]; exact Nat.le_refl _)]
  | r :: l, p, ds, hp, hr, hs => by
    obtain ⟨hon, hrw, hpw⟩ := hr r (List.mem_cons_self ..)
    obtain ⟨hb, hs'⟩ := List.pairwise_cons.1 hs
    obtain ⟨q, hq⟩ : ∃ q : Nat, r.wd = q := ⟨r.wd.toNat, by omega⟩
    have hhi := hrw.hi
    have hql : q ≤ ls.length := by split at hhi <;> omega
    have hqt : r.wd.toNat = q := by omega
    have hall : ∀ x ∈ r :: l, (q : Int) ≤ x.wd := fun x hx => by
      rcases List.mem_cons.1 hx with rfl | hx
      · omega
      · have := (hb x hx).1; omega
    have hf := hW.free (r :: l) (q - p) p ds (by omega) (fun x hx => by have := hall x hx; omega)
    rw [range'_split p q (ls.length + 1) (by omega) (by omega), List.foldl_append, hf]
    have hrest : ∀ (a : List ByteArray) (n : Nat), (List.range' (q + 1) n).foldl (W (r :: l)) a = (List.range' (q + 1) n).foldl (W l) a := fun a n =>
      foldl_eq _ a fun w hw a => hW.skip r l a w (by have := (List.mem_range'_1.1 hw).1; omega)
    by_cases hk : r.kind = 2
    · have hd : (r :: l).foldl (rdOne ls) (p, ds) = l.foldl (rdOne ls) (q, ds ++ (ls.drop p).take (q - p) ++ [r.word]) := by
        rw [List.foldl_cons]; unfold rdOne
        simp only [hk, hqt, if_true]
        rw [if_neg (by omega)]
      rw [hd, ← way_read hW l q _ hql (fun x hx => ⟨(hr x (List.mem_cons_of_mem _ hx)).1, (hr x (List.mem_cons_of_mem _ hx)).2.1, hall x (List.mem_cons_of_mem _ hx)⟩) hs']
      rw [show ls.length + 1 - q = (ls.length - q) + 1 by omega, List.range'_succ, List.foldl_cons, List.foldl_cons, hW.put r l _ q hon hq hk, hrest]
    · have hlt : q < ls.length := by rw [if_neg hk] at hhi; omega
      have hne : ∀ x ∈ l, x.wd ≠ (q : Nat) := fun x hx => by have := (hb x hx).2 hk; omega
      have hw : (if r.kind = 1 then ([] : List ByteArray) else [r.word]) = if r.word = emp then [] else [r.word] := by
        by_cases h1 : r.kind = 1
        · rw [if_pos h1, if_pos (hrw.word.1 h1)]
        · rw [if_neg h1, if_neg (fun h => h1 (hrw.word.2 h))]
      have hd : (r :: l).foldl (rdOne ls) (p, ds) = l.foldl (rdOne ls) (q + 1, ds ++ (ls.drop p).take (q - p) ++ if r.word = emp then [] else [r.word]) := by
        rw [List.foldl_cons]; unfold rdOne
        simp only [hk, hqt, if_false, hw]
      rw [hd, ← way_read hW l (q + 1) _ hlt (fun x hx => ⟨(hr x (List.mem_cons_of_mem _ hx)).1, (hr x (List.mem_cons_of_mem _ hx)).2.1, by have := (hb x hx).2 hk; omega⟩) hs']
      rw [show ls.length + 1 - q = (ls.length + 1 - (q + 1)) + 1 by omega, List.range'_succ, List.foldl_cons, hW.other r l _ q hon hq hk hlt hne, hrest]
theorem way_line {ls : Line} {on : Rd → Prop} {W : List Rd → List ByteArray → Nat → List ByteArray} (hW : Way ls on W) (l : List Rd) (hr : ∀ r ∈ l, on r ∧ RdW ls r ∧ 0 ≤ r.wd) (hs : l.Pairwise Bhd) : (List.range (ls.length + 1)).foldl (W l) [] = readLineL ls l := by
  rw [List.range_eq_range']
  exact way_read hW l 0 [] (Nat.zero_le _) hr hs
/-- readings of a line, one behind the other, are read -/
theorem rdsOk_of {ls : Line} : ∀ (l : List Rd) (p : Nat), (∀ r ∈ l, RdW ls r ∧ (p : Int) ≤ r.wd) → l.Pairwise Bhd → RdsOk ls p l
  | [], _, _, _ => trivial
  | r :: l, p, hr, hs => by
    obtain ⟨hrw, hpw⟩ := hr r (List.mem_cons_self ..)
    obtain ⟨hb, hs'⟩ := List.pairwise_cons.1 hs
    refine ⟨⟨hpw, hrw.kind, hrw.hi⟩, rdsOk_of l _ (fun x hx => ⟨(hr x (List.mem_cons_of_mem _ hx)).1, ?_⟩) hs'⟩
    have h := hb x hx
    have h0 : 0 ≤ r.wd := by omega
    by_cases hk : r.kind = 2
    · rw [if_pos hk]; have := h.1; omega
    · rw [if_neg hk]; have := h.2 hk; omega
/-! ### the reference's way -/
theorem refI_far (k n : Int) (w : Nat) (l : List Rd) (h : ∀ q ∈ l, q.wd ≠ (w : Nat)) (s : List ByteArray × ByteArray) : l.foldl (refI k n w) s = s := by
  induction l generalizing s with
  | nil => rfl
  | cons r l ih =>
    have : refI k n w s r = s := by unfold refI; rw [if_neg (fun hh => h r (List.mem_cons_self ..) hh.2.2)]
    rw [List.foldl_cons, this, ih fun q hq => h q (List.mem_cons_of_mem _ hq)]
theorem way_ref (ls : Line) (hne : ∀ s ∈ ls, s ≠ emp) (k n : Int) : Way ls (fun r => r.ch = k ∧ r.ln = n) (fun l => refW ls l k n) := by
  refine ⟨fun ds w s hs => ?_, fun ds => ?_, fun r l ds w h => ?_, fun r l ds w ho h hk => ?_, fun r l ds w ho h hk hw hf => ?_⟩
  · unfold refW
    simp only [List.foldl_nil, hs, Option.getD_some]
    rw [if_neg (hne s (List.mem_of_getElem? hs))]
  · unfold refW
    simp only [List.foldl_nil, List.getElem?_eq_none_iff.2 (Nat.le_refl _), Option.getD_none, if_true]
  · unfold refW
    rw [List.foldl_cons, show refI k n w (ds, (ls[w]?).getD emp) r = (ds, (ls[w]?).getD emp) by unfold refI; rw [if_neg (fun hh => h hh.2.2)]]
  · unfold refW
    rw [List.foldl_cons, show refI k n w (ds, (ls[w]?).getD emp) r = (ds ++ [r.word], (ls[w]?).getD emp) by unfold refI; rw [if_pos ⟨ho.1, ho.2, h⟩, if_pos hk]]
  · unfold refW
    rw [List.foldl_cons, show refI k n w (ds, (ls[w]?).getD emp) r = (ds, r.word) by unfold refI; rw [if_pos ⟨ho.1, ho.2, h⟩, if_neg hk], refI_far k n w l hf]
    simp only
    split
    · rw [List.append_nil]
    · rfl
theorem atLine_iff {k n : Int} {r : Rd} : atLine k n 0 r = true ↔ r.ch = k ∧ r.ln = n := by
  unfold atLine eqP; simp
theorem refW_filter (ls : Line) (rs : List Rd) (k n : Int) (ds : List ByteArray) (w : Nat) : refW ls rs k n ds w = refW ls (rs.filter (atLine k n 0)) k n ds w := by
  have h : ∀ (l : List Rd) (s : List ByteArray × ByteArray), l.foldl (refI k n w) s = (l.filter (atLine k n 0)).foldl (refI k n w) s := by
    intro l
    induction l with
    | nil => intro s; rfl
    | cons r l ih =>
      intro s
      cases ha : atLine k n 0 r
      · have : refI k n w s r = s := by unfold refI; rw [if_neg (fun hh => by rw [atLine_iff.2 ⟨hh.1, hh.2.1⟩] at ha; cases ha)]
        rw [List.foldl_cons, this, ih, List.filter_cons_of_neg (by rw [ha]; simp)]
      · rw [List.filter_cons_of_pos ha, List.foldl_cons, List.foldl_cons, ih]
  unfold refW; rw [h rs]
/-! ### the law's way -/
def putAt (k n w : Int) (r : Rd) : Bool := decide (r.kind = 2) && eqP r.ch r.ln r.wd k n w
def lawW (ls : Line) (rs : List Rd) (k n : Int) (ds : List ByteArray) (w : Nat) : List ByteArray :=
  let d := ds ++ (rs.filter (putAt k n w)).map Rd.word
  match ls[w]? with
  | none => d
  | some s => if standL rs k n w s = emp then d else d ++ [standL rs k n w s]
theorem eqP_wd {r : Rd} {k n : Int} {w : Nat} (h : r.wd ≠ (w : Nat)) : eqP r.ch r.ln r.wd k n w = false := by
  unfold eqP; simp; intro _ _ h2; exact h h2
theorem eqP_on {r : Rd} {k n : Int} {w : Nat} (h : r.ch = k ∧ r.ln = n) (hw : r.wd = (w : Nat)) : eqP r.ch r.ln r.wd k n w = true := by
  unfold eqP; simp [h.1, h.2, hw]
theorem stand_cons_no {r : Rd} {l : List Rd} {k n w : Int} {s : ByteArray} (h : takesB k n w r = false) : standL (r :: l) k n w s = standL l k n w s := by unfold standL; rw [List.find?_cons, h]
theorem stand_cons_yes {r : Rd} {l : List Rd} {k n w : Int} {s : ByteArray} (h : takesB k n w r = true) : standL (r :: l) k n w s = r.word := by unfold standL; rw [List.find?_cons, h]
theorem way_law (ls : Line) (hne : ∀ s ∈ ls, s ≠ emp) (k n : Int) : Way ls (fun r => r.ch = k ∧ r.ln = n) (fun l => lawW ls l k n) := by
  refine ⟨fun ds w s hs => ?_, fun ds => ?_, fun r l ds w h => ?_, fun r l ds w ho h hk => ?_, fun r l ds w ho h hk hw hf => ?_⟩
  · unfold lawW
    have h0 : standL [] k n w s = s := rfl
    simp only [hs, List.filter_nil, List.map_nil, List.append_nil, h0]
    rw [if_neg (hne s (List.mem_of_getElem? hs))]
  · unfold lawW
    simp only [List.getElem?_eq_none_iff.2 (Nat.le_refl _), List.filter_nil, List.map_nil, List.append_nil]
  · have h1 : putAt k n w r = false := by unfold putAt; rw [eqP_wd h, Bool.and_false]
    have h2 : takesB k n w r = false := by unfold takesB; rw [eqP_wd h]; rfl
    unfold lawW
    rw [List.filter_cons_of_neg (by rw [h1]; simp)]
    simp only [stand_cons_no h2]
  · have h1 : putAt k n w r = true := by unfold putAt; rw [eqP_on ho h, Bool.and_true]; exact decide_eq_true hk
    have h2 : takesB k n w r = false := by unfold takesB; rw [decide_eq_true hk, Bool.not_true, Bool.and_false]
    unfold lawW
    rw [List.filter_cons_of_pos h1]
    simp only [stand_cons_no h2, List.map_cons, List.append_assoc, List.singleton_append]
  · have h1 : putAt k n w r = false := by unfold putAt; rw [decide_eq_false hk]; rfl
    have h2 : takesB k n w r = true := by unfold takesB; rw [eqP_on ho h, decide_eq_false hk]; rfl
    have h3 : l.filter (putAt k n w) = [] := List.filter_eq_nil_iff.2 fun q hq => by unfold putAt; rw [eqP_wd (hf q hq), Bool.and_false]; simp
    obtain ⟨s, hs⟩ := at_lt ls w hw
    unfold lawW
    rw [List.filter_cons_of_neg (by rw [h1]; simp), h3]
    simp only [hs, stand_cons_yes h2, List.map_nil, List.append_nil]
    split
    · rw [List.append_nil]
    · rfl
theorem lawW_filter (ls : Line) (rs : List Rd) (k n : Int) (ds : List ByteArray) (w : Nat) : lawW ls rs k n ds w = lawW ls (rs.filter (atLine k n 0)) k n ds w := by
  have ha : ∀ r : Rd, eqP r.ch r.ln r.wd k n w = true → atLine k n 0 r = true := fun r h => by
    unfold eqP at h; simp at h; exact atLine_iff.2 ⟨h.1, h.2.1⟩
  have h1 : rs.filter (putAt k n w) = (rs.filter (atLine k n 0)).filter (putAt k n w) := by
    rw [List.filter_filter]
    refine List.filter_congr fun r _ => ?_
    cases hp : putAt k n w r
    · rfl
    · have : eqP r.ch r.ln r.wd k n w = true := by unfold putAt at hp; simp only [Bool.and_eq_true] at hp; exact hp.2
      rw [ha r this]; rfl
  have h2 : ∀ s, standL rs k n w s = standL (rs.filter (atLine k n 0)) k n w s := fun s => by
    induction rs with
    | nil => rfl
    | cons r l ih =>
      cases hl : atLine k n 0 r
      · have ht : takesB k n w r = false := by
          cases ht : takesB k n w r
          · rfl
          · unfold takesB at ht; simp only [Bool.and_eq_true] at ht; rw [ha r ht.1] at hl; cases hl
        rw [stand_cons_no ht, List.filter_cons_of_neg (by rw [hl]; simp)]
        exact ih (by rw [List.filter_filter]; refine List.filter_congr fun r _ => ?_; cases hp : putAt k n w r
                     · rfl
                     · have : eqP r.ch r.ln r.wd k n w = true := by unfold putAt at hp; simp only [Bool.and_eq_true] at hp; exact hp.2
                       rw [ha r this]; rfl)
      · rw [List.filter_cons_of_pos hl]
        unfold standL
        rw [List.find?_cons, List.find?_cons]
        cases ht : takesB k n w r
        · exact ih (by rw [List.filter_filter]; refine List.filter_congr fun r _ => ?_; cases hp : putAt k n w r
                       · rfl
                       · have : eqP r.ch r.ln r.wd k n w = true := by unfold putAt at hp; simp only [Bool.and_eq_true] at hp; exact hp.2
                         rw [ha r this]; rfl)
        · rfl
  unfold lawW; rw [← h1]; simp only [← h2]
end Go.Ev
namespace Go.Ev
open Go.Proofs
set_option maxRecDepth 100000
set_option linter.unusedSimpArgs false
/-! ### readings in order -/
def Ahd (a b : Rd) : Prop := a.ch < b.ch ∨ (a.ch = b.ch ∧ (a.ln < b.ln ∨ (a.ln = b.ln ∧ a.wd ≤ b.wd ∧ (a.kind ≠ 2 → a.wd < b.wd))))
theorem Ahd.trans {a b c : Rd} (h1 : Ahd a b) (h2 : Ahd b c) : Ahd a c := by
  unfold Ahd at *; omega
theorem pairR_ahd {a b : Rd} (h : pairR a b = true) : Ahd a b := by
  unfold pairR beforeB eqP at h
  unfold Ahd
  simp only [Bool.not_eq_true', Bool.or_eq_false_iff, Bool.and_eq_false_iff, Bool.not_eq_false', decide_eq_false_iff_not, decide_eq_true_eq, ne_eq] at h
  obtain ⟨h1, h2⟩ := h
  split at h1
  · simp only [decide_eq_false_iff_not] at h1; omega
  · split at h1
    · simp only [decide_eq_false_iff_not] at h1; omega
    · simp only [decide_eq_false_iff_not] at h1; omega
theorem cmpI_pos (a b : Int) : 0 < cmpI a b ↔ b < a := by unfold cmpI; split <;> (try split) <;> omega
theorem cmpI_zero (a b : Int) : cmpI a b = 0 ↔ a = b := by unfold cmpI; split <;> (try split) <;> omega
theorem cmpP_pos (a b c a' b' c' : Int) : 0 < cmpP a b c a' b' c' ↔ a' < a ∨ (a = a' ∧ (b' < b ∨ (b = b' ∧ c' < c))) := by
  unfold cmpP
  simp only [orI]
  have h1 := cmpI_pos a a'; have h2 := cmpI_pos b b'; have h3 := cmpI_pos c c'
  have e1 := cmpI_zero a a'; have e2 := cmpI_zero b b'; have e3 := cmpI_zero c c'
  split
  · split
    · split <;> omega
    · omega
  · omega
theorem ahd_pairB {a b : Rd} (h : Ahd a b) : pairB a b = true := by
  unfold Ahd at h
  have hc : ¬ 0 < cmpP a.ch a.ln a.wd b.ch b.ln b.wd := by rw [cmpP_pos]; omega
  have he : (eqP a.ch a.ln a.wd b.ch b.ln b.wd && !decide (a.kind = 2)) = false := by
    unfold eqP
    simp only [Bool.and_eq_false_iff, Bool.not_eq_false', decide_eq_false_iff_not, decide_eq_true_eq]
    omega
  unfold pairB
  rw [he, decide_eq_false hc]; rfl
theorem rdsB_all (t : Txt) : ∀ (l : List Rd) (p : Option Rd), rdsB t p l = true → (∀ r ∈ l, readB t r = true) ∧ l.Pairwise Ahd ∧ (∀ q, p = some q → ∀ r ∈ l, Ahd q r)
  | [], _, _ => ⟨(fun r h => nomatch h), List.Pairwise.nil, (fun _ _ r h => nomatch h)⟩
  | r :: l, p, h => by
    unfold rdsB at h
    simp only [Bool.and_eq_true] at h
    obtain ⟨⟨h1, h2⟩, h3⟩ := h
    obtain ⟨i1, i2, i3⟩ := rdsB_all t l (some r) h3
    have i3 := i3 r rfl
    refine ⟨fun x hx => ?_, List.pairwise_cons.2 ⟨i3, i2⟩, fun q hq x hx => ?_⟩
    · rcases List.mem_cons.1 hx with rfl | hx
      · exact h1
      · exact i1 x hx
    · subst hq
      have hr := pairR_ahd h2
      rcases List.mem_cons.1 hx with rfl | hx
      · exact hr
      · exact hr.trans (i3 x hx)
theorem ordB_of : ∀ (l : List Rd), l.Pairwise Ahd → ordB l = true
  | [], _ => rfl
  | [a], _ => rfl
  | a :: b :: r, h => by
    obtain ⟨h1, h2⟩ := List.pairwise_cons.1 h
    show (pairB a b && ordB (b :: r)) = true
    rw [ahd_pairB (h1 b (List.mem_cons_self ..)), ordB_of (b :: r) h2]; rfl
theorem wordB_ne {s : ByteArray} (h : wordB s = true) : s ≠ emp := by
  rintro rfl
  unfold wordB at h
  simp only [Bool.and_eq_true] at h
  have := h.1
  revert this; decide
/-- a copy whose readings fit, in order -/
structure Cpy (t : Txt) (rs : List Rd) : Prop where
  fit : ∀ r ∈ rs, readB t r = true
  ord : rs.Pairwise Ahd
theorem Cpy.of {t : Txt} {rs : List Rd} (h : rdsB t none rs = true) : Cpy t rs := ⟨(rdsB_all t rs none h).1, (rdsB_all t rs none h).2.1⟩
/-- the readings of one line -/
def ofLn (rs : List Rd) (k n : Int) : List Rd := rs.filter (atLine k n 0)
theorem ofLn_mem {rs : List Rd} {k n : Int} {r : Rd} : r ∈ ofLn rs k n ↔ r ∈ rs ∧ r.ch = k ∧ r.ln = n := by
  unfold ofLn; rw [List.mem_filter, atLine_iff]
theorem Cpy.bhd {t : Txt} {rs : List Rd} (h : Cpy t rs) (k n : Int) : (ofLn rs k n).Pairwise Bhd := by
  have h1 : (ofLn rs k n).Pairwise Ahd := h.ord.sublist List.filter_sublist
  refine h1.imp_of_mem fun ha hb hr => ?_
  have h2 := (ofLn_mem.1 ha).2
  have h3 := (ofLn_mem.1 hb).2
  unfold Ahd at hr
  unfold Bhd
  omega
theorem Cpy.rdw {t : Txt} {rs : List Rd} (h : Cpy t rs) {k n : Int} {ls : Line} (hl : lineAt t k n = some ls) {r : Rd} (hr : r ∈ ofLn rs k n) : RdW ls r ∧ 0 ≤ r.wd := by
  obtain ⟨hm, h1, h2⟩ := ofLn_mem.1 hr
  have hf := h.fit r hm
  unfold readB at hf
  rw [h1, h2, hl] at hf
  simp only at hf
  split at hf
  · rename_i hk
    unfold fits1 at hf
    simp only [Bool.and_eq_true, decide_eq_true_eq] at hf
    exact ⟨⟨Or.inl hk, ⟨fun _ => hf.2, fun _ => hk⟩, by rw [if_neg (by omega)]; omega⟩, hf.1.1⟩
  · split at hf
    · rename_i hk1 hk
      unfold fits2 withinB at hf
      simp only [List.all_cons, List.all_nil, Bool.and_true, Bool.and_eq_true, decide_eq_true_eq] at hf
      exact ⟨⟨Or.inr (Or.inl hk), ⟨fun h => absurd h hk1, fun h => absurd h (wordB_ne hf.2)⟩, by rw [if_pos hk]; omega⟩, hf.1.1⟩
    · split at hf
      · rename_i hk1 hk2 hk
        unfold fits3 at hf
        simp only [Bool.and_eq_true, decide_eq_true_eq] at hf
        exact ⟨⟨Or.inr (Or.inr hk), ⟨fun h => absurd h hk1, fun h => absurd h (wordB_ne hf.1.2)⟩, by rw [if_neg hk2]; omega⟩, hf.1.1.1⟩
      · cases hf
theorem Cpy.rdsOk {t : Txt} {rs : List Rd} (h : Cpy t rs) {k n : Int} {ls : Line} (hl : lineAt t k n = some ls) : RdsOk ls 0 (ofLn rs k n) :=
  rdsOk_of _ 0 (fun r hr => ⟨(h.rdw hl hr).1, by have := (h.rdw hl hr).2; omega⟩) (h.bhd k n)
theorem foldl_same {α β : Type} {f g : α → β → α} (h : ∀ a b, f a b = g a b) (l : List β) (a : α) : l.foldl f a = l.foldl g a := foldl_eq l a fun b _ a => h a b
theorem Cpy.line {t : Txt} {rs : List Rd} (h : Cpy t rs) {k n : Int} {ls : Line} (hl : lineAt t k n = some ls) (hne : ∀ s ∈ ls, s ≠ emp) : refLine ls rs k n = readLineL ls (ofLn rs k n) := by
  unfold refLine
  rw [foldl_same (g := refW ls (ofLn rs k n) k n) (fun a b => refW_filter ls rs k n a b)]
  exact way_line (way_ref ls hne k n) (ofLn rs k n) (fun r hr => ⟨(ofLn_mem.1 hr).2, h.rdw hl hr⟩) (h.bhd k n)
theorem Cpy.law {t : Txt} {rs : List Rd} (h : Cpy t rs) {k n : Int} {ls : Line} (hl : lineAt t k n = some ls) (hne : ∀ s ∈ ls, s ≠ emp) : (List.range (ls.length + 1)).foldl (lawW ls rs k n) [] = refLine ls rs k n := by
  rw [h.line hl hne, foldl_same (g := lawW ls (ofLn rs k n) k n) (fun a b => lawW_filter ls rs k n a b)]
  exact way_line (way_law ls hne k n) (ofLn rs k n) (fun r hr => ⟨(ofLn_mem.1 hr).2, h.rdw hl hr⟩) (h.bhd k n)
/-! ### the text of a copy -/
def readT (t : Txt) (rs : List Rd) : Txt := t.mapIdx fun k c => (c.1, c.2.mapIdx fun n l => refLine l rs k n)
theorem readT_get {t : Txt} {rs : List Rd} {k : Nat} {c : Chap} (h : t[k]? = some c) : (readT t rs)[k]? = some (c.1, c.2.mapIdx fun n l => refLine l rs k n) := by
  unfold readT; rw [List.getElem?_mapIdx, h]; rfl
theorem lineAt_nat {t : Txt} {k n : Nat} {c : Chap} {l : Line} (h : t[k]? = some c) (hl : c.2[n]? = some l) : lineAt t k n = some l := by
  unfold lineAt
  rw [if_pos (by omega)]
  simp only [Int.toNat_natCast, h, Option.bind_some, hl]
end Go.Ev
namespace Go.Ev
open Go.Proofs
set_option maxRecDepth 100000
set_option linter.unusedSimpArgs false
attribute [local irreducible] Wp WpS
/-! ### the text of a copy, as read answers it -/
theorem ofV_rds (l : List Rd) : RdsA l (ofV l) := by
  cases l with
  | nil => exact Or.inl ⟨rfl, rfl⟩
  | cons r f => exact Or.inr ⟨none, rfl⟩
theorem lnOf_sl (ls : List AV) : SlOf 1 ls (lnOf ls) := by
  unfold lnOf
  split
  · rename_i h; exact Or.inl ⟨rfl, h⟩
  · exact Or.inr ⟨none, rfl⟩
theorem Small.ne {t : Txt} (hs : Small t) {k n : Int} {ls : Line} (h : lineAt t k n = some ls) : ∀ s ∈ ls, s ≠ emp := fun s hm => by
  obtain ⟨c, hc, hl⟩ := lineAt_mem h
  exact wordB_ne (hs.word c hc ls hl s hm)
set_option maxHeartbeats 1000000 in
theorem readW {e : Exts} (he : Quiet e) (t : Txt) (hs : Small t) (ht : Fits t) (ch : AV) (xs : List AV) (hch : SlOf 2 xs ch) (hall : All2 ChapA t xs) (id : Int) (rs : List Rd) (x : AV) (hx : RdsA rs x) (hrs : rs.length < 2 ^ 32) (hc : Cpy t rs) :
    ∃ ys o, SlOf 2 ys o ∧ All2 ChapA (readT t rs) ys ∧ Ans (Cx e) 55 [.agg [ch], .agg [intA id, x]] (.agg [o]) := by
  have hQ : ∀ i k : Nat, ∃ w : AV, (w.flat = true ∧ w.cells = [w] ∧ bound w = 0) ∧ ∀ y z, xs[i]? = some y → (linesOf y)[k]? = some z → ∃ c l, t[i]? = some c ∧ c.2[k]? = some l ∧ LineA (refLine l rs i k) w ∧ Ans (Cx e) 76 [z, ofV (rs.filter (atLine i k 0))] w := by
    intro i k
    cases hy : xs[i]? with
    | none => exact ⟨.v (.slice none 0 0), ⟨rfl, rfl, rfl⟩, fun y z h => nomatch h⟩
    | some y =>
      cases hz : (linesOf y)[k]? with
      | none => exact ⟨.v (.slice none 0 0), ⟨rfl, rfl, rfl⟩, fun y' z h1 h2 => by cases h1; rw [hz] at h2; cases h2⟩
      | some z =>
        obtain ⟨c, hc1⟩ := at_lt t i (by rw [hall.1]; exact (List.getElem?_eq_some_iff.1 hy).1)
        obtain ⟨y', hy', l, rfl, lxs, hl, hls⟩ := hall.get hc1
        rw [hy] at hy'
        cases hy'
        have hlo : linesOf (.agg [intA c.1, l]) = lxs := hl.elems
        have hz' := hz
        rw [hlo] at hz'
        obtain ⟨ln, hln⟩ := at_lt c.2 k (by rw [hls.1]; exact (List.getElem?_eq_some_iff.1 hz').1)
        have hla : LineA ln z := hls.2 k ln z hln hz'
        have hLA := lineAt_nat hc1 hln
        have hlen := (hs.words c (List.mem_of_getElem? hc1) ln (List.mem_of_getElem? hln)).2
        have hfl : (rs.filter (atLine i k 0)).length < 2 ^ 32 := Nat.lt_of_le_of_lt (List.length_filter_le _ _) hrs
        obtain ⟨w, hw1, hw2⟩ := ans76 he ln (by omega) z hla (rs.filter (atLine i k 0)) (ofV (rs.filter (atLine i k 0))) (ofV_rds _) hfl (hc.rdsOk hLA)
        refine ⟨w, ⟨hw1.flat, hw1.cells, hw1.bound⟩, fun y z' h1 h2 => ?_⟩
        cases h1
        rw [hz] at h2
        cases h2
        refine ⟨c, ln, hc1, hln, ?_, hw2⟩
        show SlOf 1 (strs (refLine ln rs i k)) w
        rw [hc.line hLA (hs.ne hLA)]
        exact hw1
  have hwf := fun i k => Classical.choose_spec (hQ i k)
  generalize hW : (fun i k => Classical.choose (hQ i k)) = wf
  have hwf : ∀ i k : Nat, ((wf i k).flat = true ∧ (wf i k).cells = [wf i k] ∧ bound (wf i k) = 0) ∧ ∀ y z, xs[i]? = some y → (linesOf y)[k]? = some z → ∃ c l, t[i]? = some c ∧ c.2[k]? = some l ∧ LineA (refLine l rs i k) (wf i k) ∧ Ans (Cx e) 76 [z, ofV (rs.filter (atLine i k 0))] (wf i k) := by
    intro i k
    rw [← hW]
    exact hwf i k
  clear hW
  have hx6 := hs.chs
  have hxl := hall.1
  have hok := okCh2_of ht hall
  have hlines : ∀ y ∈ xs, ∃ c l lxs, c ∈ t ∧ y = .agg [intA c.1, l] ∧ linesOf y = lxs ∧ All2 LineA c.2 lxs := fun y hy => by
    obtain ⟨i, hi⟩ := List.getElem?_of_mem hy
    obtain ⟨c, hc1⟩ := at_lt t i (by rw [hall.1]; exact (List.getElem?_eq_some_iff.1 hi).1)
    obtain ⟨l, rfl, lxs, hl, hls⟩ := hall.2 i c y hc1 hi
    exact ⟨c, l, lxs, List.mem_of_getElem? hc1, rfl, hl.elems, hls⟩
  refine ⟨(stAt xs wf xs.length 0).map (fun c : AV × List AV => AV.agg [c.1, lnOf c.2]), .vs 2 _ none, Or.inr ⟨none, rfl⟩, ⟨?_, ?_⟩, ans55x he xs ch hch (fun y hy => (hok y hy).ok) (by omega) (by omega) id rs x hx hrs wf (fun i k y z h1 h2 => ?_) (fun i k => (hwf i k).1) (fun y hy => ?_) (fun y hy z hz => ?_) (by omega)⟩
  · unfold readT stAt
    rw [List.length_mapIdx, List.length_map, List.length_mapIdx, hall.1]
  · intro i c y h1 h2
    rw [List.getElem?_map, stAt_get] at h2
    have hil : i < t.length := by
      have := (List.getElem?_eq_some_iff.1 h1).1
      unfold readT at this; rwa [List.length_mapIdx] at this
    obtain ⟨c0, hc0⟩ := at_lt t i hil
    rw [readT_get hc0] at h1
    cases h1
    obtain ⟨y0, hy0, l, rfl, lxs, hl, hls⟩ := hall.get hc0
    have hlo : linesOf (.agg [intA c0.1, l]) = lxs := hl.elems
    rw [hy0, Option.map_some, Option.map_some, if_pos (by omega), hlo] at h2
    cases h2
    refine ⟨_, rfl, _, lnOf_sl _, ?_, ?_⟩
    · simp only [List.length_mapIdx, List.length_map, List.length_range]; exact hls.1
    · intro k a b h3 h4
      simp only at h3
      rw [List.getElem?_mapIdx] at h3
      rw [List.getElem?_map] at h4
      cases hk : c0.2[k]? with
      | none => rw [hk] at h3; cases h3
      | some ln =>
        rw [hk] at h3
        cases h3
        have hkl : k < lxs.length := by rw [← hls.1]; exact (List.getElem?_eq_some_iff.1 hk).1
        obtain ⟨z, hz⟩ := at_lt lxs k hkl
        rw [List.getElem?_range hkl] at h4
        cases h4
        obtain ⟨c', l', h5, h6, h7, -⟩ := (hwf i k).2 _ z hy0 (by rw [hlo]; exact hz)
        rw [hc0] at h5
        cases h5
        rw [hk] at h6
        cases h6
        exact h7
  · obtain ⟨_, _, -, -, -, h⟩ := (hwf i k).2 y z h1 h2
    exact h
  · obtain ⟨c, l, lxs, hm, -, hlo, hls⟩ := hlines y hy
    rw [hlo, ← hls.1]
    have := (hs.lines c hm).2
    omega
  · obtain ⟨c, l, lxs, hm, -, hlo, hls⟩ := hlines y hy
    rw [hlo] at hz
    obtain ⟨k, hk⟩ := List.getElem?_of_mem hz
    obtain ⟨ln, hln⟩ := at_lt c.2 k (by rw [hls.1]; exact (List.getElem?_eq_some_iff.1 hk).1)
    exact (hls.2 k ln z hln hk : SlOf 1 (strs ln) z).bound
/-! ### the lines of a copy are lines -/
theorem linesN_get (rs : List Rd) (k : Nat) : ∀ (ls : List Line) (n j : Nat) (l : Line), linesN rs k n ls = true → ls[j]? = some l → withinB 1 10 [((refLine l rs k ((n + j : Nat) : Int)).length : Int)] = true
  | [], _, _, _, _, h => by simp at h
  | x :: r, n, j, l, h1, h2 => by
    unfold linesN at h1
    simp only [Bool.and_eq_true] at h1
    cases j with
    | zero => simp at h2; subst h2; exact h1.1
    | succ j =>
      have := linesN_get rs k r (n + 1) j l h1.2 (by simpa using h2)
      rwa [show n + 1 + j = n + (j + 1) by omega] at this
theorem chapsN_get (rs : List Rd) : ∀ (t : Txt) (k i : Nat) (c : Chap), chapsN rs k t = true → t[i]? = some c → linesN rs (k + i) 0 c.2 = true
  | [], _, _, _, _, h => by simp at h
  | x :: r, k, i, c, h1, h2 => by
    unfold chapsN at h1
    simp only [Bool.and_eq_true] at h1
    cases i with
    | zero => simp at h2; subst h2; exact h1.1
    | succ i =>
      have := chapsN_get rs r (k + 1) i c h1.2 (by simpa using h2)
      rwa [show k + 1 + i = k + (i + 1) by omega] at this
/-- whatever a copy's line has is a word of the base's, or of a reading -/
theorem refI_mem (k n w : Int) (s : ByteArray) : ∀ (rs : List Rd) (st : List ByteArray × ByteArray), (s ∈ (rs.foldl (refI k n w) st).1 → s ∈ st.1 ∨ ∃ r ∈ rs, s = r.word) ∧ ((rs.foldl (refI k n w) st).2 = st.2 ∨ ∃ r ∈ rs, (rs.foldl (refI k n w) st).2 = r.word)
  | [], st => ⟨fun h => Or.inl h, Or.inl rfl⟩
  | r :: rs, st => by
    obtain ⟨h1, h2⟩ := refI_mem k n w s rs (refI k n w st r)
    rw [List.foldl_cons]
    have hq : refI k n w st r = st ∨ refI k n w st r = (st.1 ++ [r.word], st.2) ∨ refI k n w st r = (st.1, r.word) := by
      unfold refI; split
      · split
        · exact Or.inr (Or.inl rfl)
        · exact Or.inr (Or.inr rfl)
      · exact Or.inl rfl
    refine ⟨fun h => ?_, ?_⟩
    · rcases h1 h with h3 | ⟨q, hq1, hq2⟩
      · rcases hq with hq | hq | hq
        · rw [hq] at h3; exact Or.inl h3
        · rw [hq] at h3
          rcases List.mem_append.1 h3 with h3 | h3
          · exact Or.inl h3
          · exact Or.inr ⟨r, List.mem_cons_self .., List.mem_singleton.1 h3⟩
        · rw [hq] at h3; exact Or.inl h3
      · exact Or.inr ⟨q, List.mem_cons_of_mem _ hq1, hq2⟩
    · rcases h2 with h3 | ⟨q, hq1, hq2⟩
      · rcases hq with hq | hq | hq
        · rw [hq] at h3 ⊢; exact Or.inl h3
        · rw [hq] at h3 ⊢; exact Or.inl h3
        · rw [hq] at h3 ⊢; exact Or.inr ⟨r, List.mem_cons_self .., h3⟩
      · exact Or.inr ⟨q, List.mem_cons_of_mem _ hq1, hq2⟩
theorem refW_mem (l : Line) (rs : List Rd) (k n : Int) (s : ByteArray) (ds : List ByteArray) (w : Nat) (h : s ∈ refW l rs k n ds w) : s ∈ ds ∨ s ∈ l ∨ ∃ r ∈ rs, s = r.word := by
  obtain ⟨h1, h2⟩ := refI_mem k n w s rs (ds, (l[w]?).getD emp)
  unfold refW at h
  simp only at h
  split at h
  · rcases h1 h with h | h
    · exact Or.inl h
    · exact Or.inr (Or.inr h)
  · rename_i hne
    rcases List.mem_append.1 h with h | h
    · rcases h1 h with h | h
      · exact Or.inl h
      · exact Or.inr (Or.inr h)
    · have hs := List.mem_singleton.1 h
      rcases h2 with h3 | ⟨r, hr, h3⟩
      · rw [h3] at hs hne
        simp only at hs hne
        cases hw : l[w]? with
        | none => rw [hw] at hne; exact absurd rfl hne
        | some y => rw [hw] at hs; exact Or.inr (Or.inl (hs ▸ List.mem_of_getElem? hw))
      · exact Or.inr (Or.inr ⟨r, hr, hs.trans h3⟩)
theorem refLine_mem (l : Line) (rs : List Rd) (k n : Int) (s : ByteArray) : ∀ w : Nat, s ∈ (List.range w).foldl (refW l rs k n) [] → s ∈ l ∨ ∃ r ∈ rs, s = r.word
  | 0, h => by simp at h
  | w + 1, h => by
    rw [List.range_succ, List.foldl_append] at h
    rcases refW_mem l rs k n s _ w h with h | h
    · exact refLine_mem l rs k n s w h
    · exact h
theorem readT_mem {t : Txt} {rs : List Rd} {c : Chap} {l : Line} (hc : c ∈ readT t rs) (hl : l ∈ c.2) : ∃ (k n : Nat) (d : Chap) (ln : Line), t[k]? = some d ∧ d.2[n]? = some ln ∧ l = refLine ln rs k n ∧ c.2.length = d.2.length := by
  obtain ⟨k, hk⟩ := List.getElem?_of_mem hc
  have hil : k < t.length := by
    have := (List.getElem?_eq_some_iff.1 hk).1
    unfold readT at this; rwa [List.length_mapIdx] at this
  obtain ⟨d, hd⟩ := at_lt t k hil
  rw [readT_get hd] at hk
  cases hk
  obtain ⟨n, hn⟩ := List.getElem?_of_mem hl
  simp only at hn
  rw [List.getElem?_mapIdx] at hn
  cases hk : d.2[n]? with
  | none => rw [hk] at hn; cases hn
  | some ln => rw [hk] at hn; cases hn; exact ⟨k, n, d, ln, hd, hk, rfl, by simp⟩
theorem readT_chap {t : Txt} {rs : List Rd} {c : Chap} (hc : c ∈ readT t rs) : ∃ d ∈ t, c.1 = d.1 ∧ c.2.length = d.2.length := by
  obtain ⟨k, hk⟩ := List.getElem?_of_mem hc
  have hil : k < t.length := by
    have := (List.getElem?_eq_some_iff.1 hk).1
    unfold readT at this; rwa [List.length_mapIdx] at this
  obtain ⟨d, hd⟩ := at_lt t k hil
  rw [readT_get hd] at hk
  cases hk
  exact ⟨d, List.mem_of_getElem? hd, rfl, by simp⟩
theorem rdOnes_mem {ls : Line} {s : ByteArray} : ∀ (l : List Rd) (st : Nat × List ByteArray), s ∈ (l.foldl (rdOne ls) st).2 → s ∈ st.2 ∨ s ∈ ls ∨ ∃ r ∈ l, r.kind ≠ 1 ∧ s = r.word
  | [], st, h => Or.inl h
  | r :: l, st, h => by
    rw [List.foldl_cons] at h
    rcases rdOnes_mem l _ h with h | h | ⟨q, hq, h⟩
    · unfold rdOne at h
      simp only at h
      rcases List.mem_append.1 h with h | h
      · rcases List.mem_append.1 h with h | h
        · exact Or.inl h
        · exact Or.inr (Or.inl (List.mem_of_mem_drop (List.mem_of_mem_take h)))
      · split at h
        · exact nomatch h
        · rename_i hk
          exact Or.inr (Or.inr ⟨r, List.mem_cons_self .., hk, List.mem_singleton.1 h⟩)
    · exact Or.inr (Or.inl h)
    · exact Or.inr (Or.inr ⟨q, List.mem_cons_of_mem _ hq, h⟩)
theorem readLineL_mem {ls : Line} {l : List Rd} {s : ByteArray} (h : s ∈ readLineL ls l) : s ∈ ls ∨ ∃ r ∈ l, r.kind ≠ 1 ∧ s = r.word := by
  unfold readLineL at h
  rcases List.mem_append.1 h with h | h
  · rcases rdOnes_mem l _ h with h | h | h
    · exact nomatch h
    · exact Or.inl h
    · exact Or.inr h
  · exact Or.inl (List.mem_of_mem_drop h)
theorem Cpy.wordB {t : Txt} {rs : List Rd} (h : Cpy t rs) {r : Rd} (hr : r ∈ rs) (hk : r.kind ≠ 1) : wordB r.word = true := by
  have hf := h.fit r hr
  unfold readB at hf
  split at hf
  · cases hf
  · rw [if_neg hk] at hf
    split at hf
    · unfold fits2 at hf; simp only [Bool.and_eq_true] at hf; exact hf.2
    · split at hf
      · unfold fits3 at hf; simp only [Bool.and_eq_true] at hf; exact hf.1.2
      · cases hf
/-- what the reference's Copy says of a copy -/
structure Right (t : Txt) (id : Int) (rs : List Rd) : Prop where
  id : withinB 0 9999 [id] = true
  len : ¬ 20 < (rs.length : Int)
  cpy : Cpy t rs
  lines : ∀ (k n : Nat) (c : Chap) (l : Line), t[k]? = some c → c.2[n]? = some l → 1 ≤ (refLine l rs k n).length ∧ (refLine l rs k n).length ≤ 10
theorem Right.of {t : Txt} {id : Int} {rs : List Rd} (h : copyB t id rs = true) : Right t id rs := by
  unfold copyB at h
  simp only [Bool.and_eq_true, Bool.not_eq_true', decide_eq_false_iff_not] at h
  obtain ⟨⟨h1, h2⟩, h3, h4⟩ := h
  refine ⟨h1, h2, Cpy.of h3, fun k n c l hc hl => ?_⟩
  have := linesN_get rs (0 + k) c.2 0 n l (chapsN_get rs t 0 k c h4 hc) hl
  rw [Nat.zero_add, Nat.zero_add] at this
  unfold withinB at this
  simp only [List.all_cons, List.all_nil, Bool.and_true, Bool.and_eq_true, decide_eq_true_eq] at this
  omega
theorem Right.small {t : Txt} {id : Int} {rs : List Rd} (h : Right t id rs) (hs : Small t) : Small (readT t rs) := by
  refine ⟨?_, fun c hc => ?_, fun c hc l hl => ?_, fun c hc l hl s hm => ?_⟩
  · unfold readT; rw [List.length_mapIdx]; exact hs.chs
  · obtain ⟨d, hd, -, h2⟩ := readT_chap hc
    rw [h2]; exact hs.lines d hd
  · obtain ⟨k, n, d, ln, h1, h2, rfl, -⟩ := readT_mem hc hl
    exact h.lines k n d ln h1 h2
  · obtain ⟨k, n, d, ln, h1, h2, rfl, -⟩ := readT_mem hc hl
    have hLA := lineAt_nat h1 h2
    rw [h.cpy.line hLA (hs.ne hLA)] at hm
    rcases readLineL_mem hm with hm | ⟨r, hr, hk, rfl⟩
    · exact hs.word d (List.mem_of_getElem? h1) ln (List.mem_of_getElem? h2) s hm
    · exact h.cpy.wordB ((ofLn_mem.1 hr).1) hk
theorem Right.fits {t : Txt} {id : Int} {rs : List Rd} (h : Right t id rs) (ht : Fits t) (hr : ∀ r ∈ rs, RdF r) : Fits (readT t rs) := by
  refine ⟨?_, fun c hc => ?_, fun c hc l hl => ?_, fun c hc l hl s hm => ?_⟩
  · unfold readT; rw [List.length_mapIdx]; exact ht.chs
  · obtain ⟨d, hd, -, h2⟩ := readT_chap hc
    rw [h2]; exact ht.lines d hd
  · obtain ⟨k, n, d, ln, h1, h2, rfl, -⟩ := readT_mem hc hl
    have := (h.lines k n d ln h1 h2).2
    omega
  · obtain ⟨k, n, d, ln, h1, h2, rfl, -⟩ := readT_mem hc hl
    rcases refLine_mem ln rs k n s _ hm with h | ⟨r, h3, rfl⟩
    · exact ht.size d (List.mem_of_getElem? h1) ln (List.mem_of_getElem? h2) s h
    · exact (hr r h3).word
end Go.Ev
namespace Go.Ev
open Go.Proofs
set_option maxRecDepth 100000
set_option linter.unusedSimpArgs false
attribute [local irreducible] Wp WpS
/-! ### a copy that is right, by both -/
theorem lensOf_mem {t : Txt} {ys : List AV} (h : All2 ChapA t ys) {n : Int} (hn : n ∈ lensOf ys) : ∃ c ∈ t, ∃ l ∈ c.2, n = (l.length : Int) := by
  unfold lensOf at hn
  obtain ⟨y, hy, hz⟩ := List.mem_flatMap.1 hn
  obtain ⟨z, hzm, rfl⟩ := List.mem_map.1 hz
  obtain ⟨i, hi⟩ := List.getElem?_of_mem hy
  obtain ⟨c, hc⟩ := at_lt t i (by rw [h.1]; exact (List.getElem?_eq_some_iff.1 hi).1)
  obtain ⟨l, rfl, lxs, hl, hls⟩ := h.2 i c y hc hi
  have hlo : linesOf (.agg [intA c.1, l]) = lxs := hl.elems
  rw [hlo] at hzm
  obtain ⟨k, hk⟩ := List.getElem?_of_mem hzm
  obtain ⟨ln, hln⟩ := at_lt c.2 k (by rw [hls.1]; exact (List.getElem?_eq_some_iff.1 hk).1)
  have hla : SlOf 1 (strs ln) z := hls.2 k ln z hln hk
  exact ⟨c, List.mem_of_getElem? hc, ln, List.mem_of_getElem? hln, by rw [hla.elems, strs_len]⟩
theorem lensOf_len : ∀ (ys : List AV), (∀ y ∈ ys, (linesOf y).length ≤ 10) → (lensOf ys).length ≤ 10 * ys.length
  | [], _ => Nat.le_refl _
  | y :: r, h => by
    have ih := lensOf_len r fun z hz => h z (List.mem_cons_of_mem _ hz)
    have h1 := h y (List.mem_cons_self ..)
    unfold lensOf at ih ⊢
    rw [List.flatMap_cons, List.length_append, List.length_map, List.length_cons]; omega
theorem linesOf_len {t : Txt} {ys : List AV} (h : All2 ChapA t ys) (hs : Small t) : ∀ y ∈ ys, (linesOf y).length ≤ 10 := fun y hy => by
  obtain ⟨i, hi⟩ := List.getElem?_of_mem hy
  obtain ⟨c, hc⟩ := at_lt t i (by rw [h.1]; exact (List.getElem?_eq_some_iff.1 hi).1)
  obtain ⟨l, rfl, lxs, hl, hls⟩ := h.2 i c y hc hi
  have hlo : linesOf (.agg [intA c.1, l]) = lxs := hl.elems
  rw [hlo, ← hls.1]; exact (hs.lines c (List.mem_of_getElem? hc)).2
theorem item58_of {t : Txt} {ys : List AV} (h : All2 ChapA t ys) : ∀ z ∈ chapIts 0 ys, Item58 z := fun z hz => by
  obtain ⟨i, y, j, w, hi, hj, rfl⟩ := chapIts_of ys 0 z hz
  obtain ⟨c, hc⟩ := at_lt t i (by rw [h.1]; exact (List.getElem?_eq_some_iff.1 hi).1)
  obtain ⟨l, rfl, lxs, hl, hls⟩ := h.2 i c y hc hi
  have hlo : linesOf (.agg [intA c.1, l]) = lxs := hl.elems
  rw [hlo] at hj
  obtain ⟨ln, hln⟩ := at_lt c.2 j (by rw [hls.1]; exact (List.getElem?_eq_some_iff.1 hj).1)
  exact ⟨_, w, strs ln, rfl, hls.2 j ln w hln hj⟩
theorem copyW {e : Exts} (he : Quiet e) (t : Txt) (hs : Small t) (ht : Fits t) (htx : textB t = true) (ch : AV) (xs : List AV) (hch : SlOf 2 xs ch) (hall : All2 ChapA t xs) (id : Int) (rs : List Rd) (x : AV) (hx : RdsA rs x) (hrd : ∀ r ∈ rs, RdF r) (hR : Right t id rs) :
    ∃ ys o, SlOf 2 ys o ∧ All2 ChapA (readT t rs) ys ∧ Has58 e ch id x true ∧ Ans (Cx e) 25 [.agg [ch], .agg [intA id, x]] (.tup [.agg [o], intA 0]) := by
  have hlen := hR.len
  obtain ⟨ys, o, ho, hys, h55⟩ := readW he t hs ht ch xs hch hall id rs x hx (by omega) hR.cpy
  have hs2 := hR.small hs
  have ht2 := hR.fits ht hrd
  have hyl : ys.length ≤ 6 := by rw [← hys.1]; exact hs2.chs.2
  have hfit : rs.all (fitOne t) = true := List.all_eq_true.2 fun r hr => by
    rw [fit_read (fun l hl => ?_)]
    · exact hR.cpy.fit r hr
    · obtain ⟨c, hc, hlc⟩ := lineAt_mem hl
      have := (hs.words c hc l hlc).1
      omega
  have hcnt : (chapIts 0 ys).length < 2 ^ 32 := by
    have h1 := lensOf_len ys (linesOf_len hys hs2)
    rw [← chapIts_lens 0 ys, List.length_map] at h1
    omega
  have hw : withinB 1 10 (lensOf ys) = true := List.all_eq_true.2 fun n hn => by
    obtain ⟨c, hc, l, hl, rfl⟩ := lensOf_mem hys hn
    have := hs2.words c hc l hl
    simp only [Bool.and_eq_true, decide_eq_true_eq]; omega
  have h58 := has58 he t ht ch xs hch hall id hR.id rs x hx hlen hrd hfit (ordB_of rs hR.cpy.ord) ys o ho (fun y hy => (okCh2_of ht2 hys y hy).ok) (by omega) (item58_of hys) hcnt h55
  rw [hw] at h58
  exact ⟨ys, o, ho, hys, h58, ans25 he t ht htx ch xs hch hall id rs x hx h58 ys o ho h55⟩
/-! ### memory with a list of words that grows over what stays -/
structure MB (B : Nat) (base : Fm) (H : Heap) (ds : List ByteArray) (out : AV) : Prop where
  lock : H.lock = 0
  size : B ≤ H.size
  base : Has base H
  done : DoneR H ds out
/-- what stays is no list that grows, and lies in front -/
def Stay (B : Nat) (base : Fm) : Prop := ∀ p ∈ base, p.1 < B ∧ ∀ v m e sz cs, p.2 ≠ .cells v m e sz true cs
theorem MB.row {B : Nat} {base : Fm} {H : Heap} {ds : List ByteArray} {out : AV} (h : MB B base H ds out) {b v m e sz : Nat} {g : Bool} {cs : List AV} (hb : (b, AObj.cells v m e sz g cs) ∈ base) (E : List (Option AObj)) : (H.plus E).row b v = some (m, e, sz, g, cs) := by
  have hg := h.base _ hb
  rw [rowLo (get_ltS hg)]; exact get_row hg
theorem MB.plus {B : Nat} {base : Fm} {H : Heap} {ds : List ByteArray} {out : AV} (h : MB B base H ds out) (E : List (Option AObj)) : MB B base (H.plus E) ds out :=
  ⟨h.lock, by have := h.size; rw [plus_size]; omega, h.base.plus E, h.done.plus E⟩
theorem MB.trim {B : Nat} {base : Fm} {H : Heap} {ds : List ByteArray} {out : AV} (h : MB B base H ds out) (hS : Stay B base) {n : Nat} (hn : B ≤ n) (vs : List AV) (ms : List Nat) (hv : bound out ≤ boundL vs) : MB B base (H.trim n vs ms) ds out := by
  by_cases hn2 : n ≤ H.size
  · refine ⟨trim_lock.trans h.lock, Nat.le_trans hn (trim_size' hn2), fun p hp => (trim_lo (by have := (hS p hp).1; omega)).trans (h.base p hp), ?_⟩
    rcases h.done with hd | ⟨b, v, h1, h2, rfl, h4⟩
    · exact Or.inl hd
    · unfold Heap.trim
      split
      · rename_i hq
        rw [Bool.and_eq_true, Bool.and_eq_true, Bool.and_eq_true, Nat.ble_eq] at hq
        have h5 := hq.1.1.1
        have hb : b < n := by simp only [bound] at hv; omega
        have hg := (takeH_get (H := H) hb).trans (row_of_get h4)
        exact Or.inr ⟨b, v, h1, get_size hg, rfl, get_row hg⟩
      · exact Or.inr ⟨b, v, h1, h2, rfl, h4⟩
  · rw [trim_whole (by omega)]; exact h
theorem MB.more {B : Nat} {base : Fm} {H : Heap} {ds : List ByteArray} {b v : Nat} (h : MB B base H ds (.sl b v 0 ds.length none)) (hS : Stay B base) (hb : b < H.size) (hr : H.row b v = some (0, 9, 1, true, strs ds)) (s : List ByteArray) (n : Nat) (hn : n = ds.length + s.length) : MB B base (H.put b (.cells (v + 1) 0 9 1 true (strs (ds ++ s)))) (ds ++ s) (.sl b (v + 1) 0 n none) := by
  refine ⟨h.lock, by rw [put_sizeI _ hb]; exact h.size, fun p hp => ?_, Or.inr ⟨b, v + 1, ?_, by rw [put_sizeI _ hb]; exact hb, by rw [hn, List.length_append], row_put_same hb⟩⟩
  · have hne : p.1 ≠ b := by
      rintro rfl
      have h1 := (row_of_get hr).symm.trans (h.base p hp)
      exact (hS p hp).2 v 0 9 1 (strs ds) (Option.some.inj h1).symm
    exact (put_get_ne _ (by omega) hne).trans (h.base p hp)
  · have := h.lock
    show H.lock ≤ b
    omega
theorem MB.new {B : Nat} {base : Fm} {H : Heap} {ds : List ByteArray} {out : AV} (h : MB B base H ds out) {N : Nat} (hN : H.size = N) (E : List (Option AObj)) (k : Nat) (ds' : List ByteArray) (hE : E[k]? = some (some (.cells 0 0 9 1 true (strs ds')))) : MB B base (H.plus E) ds' (.sl (N + k) 0 0 ds'.length none) := by
  have hk := (List.getElem?_eq_some_iff.1 hE).1
  refine ⟨h.lock, by have := h.size; rw [plus_size]; omega, h.base.plus E, Or.inr ⟨N + k, 0, ?_, by rw [plus_size]; omega, rfl, ?_⟩⟩
  · have := h.lock
    show H.lock ≤ _
    omega
  · rw [rowP hN, hE]; rfl
end Go.Ev
namespace Go.Ev
open Go.Proofs
set_option maxRecDepth 100000
set_option linter.unusedSimpArgs false
attribute [local irreducible] Wp WpS
end Go.Ev
namespace Go.Ev
open Go.Proofs
set_option maxRecDepth 100000
set_option linter.unusedSimpArgs false
attribute [local irreducible] Wp WpS
end Go.Ev
namespace Go.Ev
open Go.Proofs
set_option maxRecDepth 100000
set_option linter.unusedSimpArgs false
attribute [local irreducible] Wp WpS
theorem MB.drop {B : Nat} {base : Fm} {H : Heap} {ds : List ByteArray} {out : AV} (h : MB B base H ds out) : MB B base H [] (.v (.slice none 0 0)) := ⟨h.lock, h.size, h.base, Or.inl ⟨rfl, rfl⟩⟩
theorem MB.sub {B B' : Nat} {base base' : Fm} {H : Heap} {ds : List ByteArray} {out : AV} (h : MB B base H ds out) (hB : B' ≤ B) (hb : ∀ p ∈ base', p ∈ base) : MB B' base' H ds out := ⟨h.lock, Nat.le_trans hB h.size, fun p hp => h.base p (hb p hp), h.done⟩
theorem MB.lay {B : Nat} {base : Fm} {H : Heap} {ds : List ByteArray} {out : AV} (h : MB B base H ds out) {N : Nat} (hN : H.size = N) (o : AObj) (E : List (Option AObj)) : MB (N + 1) (base ++ [(N, o)]) (H.plus (some o :: E)) ds out := by
  refine ⟨h.lock, by rw [plus_size, hN, List.length_cons]; omega, fun p hp => ?_, h.done.plus _⟩
  rcases List.mem_append.1 hp with hp | hp
  · exact h.base.plus _ p hp
  · obtain rfl := List.mem_singleton.1 hp
    rw [plus_get_hi _ (by omega), hN, Nat.sub_self]; rfl
theorem Stay.lay {B N : Nat} {base : Fm} (h : Stay B base) (hB : B ≤ N) {o : AObj} (ho : ∀ v m e sz cs, o ≠ .cells v m e sz true cs) : Stay (N + 1) (base ++ [(N, o)]) := by
  intro p hp
  rcases List.mem_append.1 hp with hp | hp
  · exact ⟨by have := (h p hp).1; omega, (h p hp).2⟩
  · obtain rfl := List.mem_singleton.1 hp
    exact ⟨Nat.lt_succ_self _, ho⟩
end Go.Ev
namespace Go.Ev
open Go.Proofs
set_option maxRecDepth 100000
set_option linter.unusedSimpArgs false
/-! ### from arguments of plain data to copies -/
theorem map_of {α β : Type} {f : α → β} {Q : α → Prop} : ∀ (xs : List β), (∀ y ∈ xs, ∃ r, y = f r ∧ Q r) → ∃ l : List α, xs = l.map f ∧ ∀ r ∈ l, Q r
  | [], _ => ⟨[], rfl, fun r h => nomatch h⟩
  | y :: xs, h => by
    obtain ⟨r, rfl, hr⟩ := h y (List.mem_cons_self ..)
    obtain ⟨l, rfl, hl⟩ := map_of xs fun z hz => h z (List.mem_cons_of_mem _ hz)
    exact ⟨r :: l, rfl, fun q hq => (List.mem_cons.1 hq).elim (fun e => e ▸ hr) (hl q)⟩
theorem cells3 {l : List AV} (h : l.length = 3) : ∃ a b c, l = [a, b, c] := by
  match l, h with
  | [a, b, c], _ => exact ⟨a, b, c, rfl⟩
theorem cells5 {l : List AV} (h : l.length = 5) : ∃ a b c d e, l = [a, b, c, d, e] := by
  match l, h with
  | [a, b, c, d, e], _ => exact ⟨a, b, c, d, e, rfl⟩
theorem place_of {N : Nat} {cs : List AV} (h : Plain Tryz.prog (N + 2) 32 cs) : ∃ a b c, cs = [intA a, intA b, intA c] := by
  obtain ⟨hl, hf⟩ := plain_struct (l := [(0, 3), (1, 3), (2, 3)]) (by kernel_rfl) (by kernel_rfl) h
  obtain ⟨a, b, c, rfl⟩ := cells3 (hl.trans (by kernel_rfl))
  have h0 := hf (0, 3) (by simp)
  have h1 := hf (1, 3) (by simp)
  have h2 := hf (2, 3) (by simp)
  have e0 : Tryz.prog.cellsOf 3 = 1 := by kernel_rfl
  simp only [e0, List.drop_zero, List.drop_succ_cons, List.take_succ_cons, List.take_zero] at h0 h1 h2
  obtain ⟨m, hm, -⟩ := plain_int (by kernel_rfl : Tryz.prog.underlying 3 = some (.int .i64)) h0
  obtain ⟨n, hn, -⟩ := plain_int (by kernel_rfl : Tryz.prog.underlying 3 = some (.int .i64)) h1
  obtain ⟨k, hk, -⟩ := plain_int (by kernel_rfl : Tryz.prog.underlying 3 = some (.int .i64)) h2
  simp only [List.cons.injEq, and_true] at hm hn hk
  exact ⟨m, n, k, by rw [hm, hn, hk]; rfl⟩
theorem u8_wf {m : Int} (h : (Lit.int .u8 m).wf = true) : 0 ≤ m ∧ m < 256 := by
  have h2 : (decide (IntKind.u8.min ≤ m) && decide (m ≤ IntKind.u8.max)) = true := h
  have e1 : IntKind.u8.min = 0 := by decide
  have e2 : IntKind.u8.max = 255 := by decide
  rw [e1, e2] at h2
  simp at h2; omega
theorem rd_of {N : Nat} {cs : List AV} (h : Plain Tryz.prog (N + 3) 65 cs) : ∃ r, AV.agg cs = rdV r ∧ RdF r := by
  obtain ⟨hl, hf⟩ := plain_struct (l := [(0, 32), (3, 5), (4, 9)]) (by kernel_rfl) (by kernel_rfl) h
  obtain ⟨a, b, c, d, e, rfl⟩ := cells5 (hl.trans (by kernel_rfl))
  have h0 := hf (0, 32) (by simp)
  have h1 := hf (3, 5) (by simp)
  have h2 := hf (4, 9) (by simp)
  have e0 : Tryz.prog.cellsOf 32 = 3 := by kernel_rfl
  have e1 : Tryz.prog.cellsOf 5 = 1 := by kernel_rfl
  have e2 : Tryz.prog.cellsOf 9 = 1 := by kernel_rfl
  simp only [e0, e1, e2, List.drop_zero, List.drop_succ_cons, List.take_succ_cons, List.take_zero] at h0 h1 h2
  obtain ⟨x, y, z, hp⟩ := place_of h0
  obtain ⟨m, hm, hw⟩ := plain_int (by kernel_rfl : Tryz.prog.underlying 5 = some (.int .u8)) h1
  obtain ⟨s, hs, hsz⟩ := plain_string (by kernel_rfl : Tryz.prog.underlying 9 = some .string) h2
  simp only [List.cons.injEq, and_true] at hp hm hs
  obtain ⟨rfl, rfl, rfl⟩ := hp
  subst hm hs
  have := u8_wf hw
  have hml := maxLen_lt
  exact ⟨⟨x, y, z, m, s⟩, rfl, ⟨this.1, this.2, by show s.size < _; omega⟩⟩
theorem copy_of {N : Nat} {x : AV} (h : Arg Tryz.prog (N + 5) 53 x) : ∃ id rs y, x = .agg [intA id, y] ∧ RdsA rs y ∧ ∀ r ∈ rs, RdF r := by
  obtain ⟨A, rfl, hp⟩ := arg_struct (by kernel_rfl) h
  obtain ⟨hl, hf⟩ := plain_struct (l := [(0, 3), (1, 51)]) (by kernel_rfl) (by kernel_rfl) hp
  obtain ⟨a, b, rfl⟩ := two_cells (hl.trans (by kernel_rfl))
  have h0 := hf (0, 3) (by simp)
  have h1 := hf (1, 51) (by simp)
  have e0 : Tryz.prog.cellsOf 3 = 1 := by kernel_rfl
  have e1 : Tryz.prog.cellsOf 51 = 1 := by kernel_rfl
  simp only [e0, e1, List.drop_zero, List.drop_succ_cons, List.take_succ_cons, List.take_zero] at h0 h1
  obtain ⟨m, hm, -⟩ := plain_int (by kernel_rfl : Tryz.prog.underlying 3 = some (.int .i64)) h0
  obtain ⟨y, xs, hy, hsl, hlen, hxs⟩ := plain_slice (c := 5) (by kernel_rfl : Tryz.prog.underlying 51 = some (.slice 65)) (by kernel_rfl) h1
  simp only [List.cons.injEq, and_true] at hm hy
  subst hm
  have key : ∀ z ∈ xs, ∃ r, z = rdV r ∧ RdF r := by
    intro z hz
    obtain ⟨d, rfl, hd5, hd⟩ := hxs z hz
    obtain ⟨a1, a2, a3, a4, a5, rfl⟩ := cells5 hd5
    exact rd_of hd
  obtain ⟨rs, rfl, hrs⟩ := map_of xs key
  exact ⟨m, rs, b, rfl, by rw [hy]; exact hsl, hrs⟩
end Go.Ev
namespace Go.Ev
open Go.Proofs Go.Sort
set_option maxRecDepth 100000
set_option linter.unusedSimpArgs false
attribute [local irreducible] Wp WpS
theorem ans_of_call {C : Cfg} {me f : FuncId} {d : Option Tmp} {args : List AV} {H : Heap} {v : AV} (hx : C.ext f = none) (hp : C.pure me f d = true) (hb : boundL args = 0) (h : callA C (lim C) me f d args H = some (v, H)) : Ans C f args v := by
  unfold callA callB callKind at h
  rw [hx] at h
  simp only [hp, if_true] at h
  rw [if_pos (by rw [hb]; rfl)] at h
  refine Ans.iff.2 ?_
  simp only at h
  split at h
  · rename_i x H' hq
    simp only [Option.map_eq_some_iff, Prod.mk.injEq, and_true] at h
    obtain ⟨w, hw, rfl⟩ := h
    exact ⟨x, H', hq, hw⟩
  · cases h
/-- a copy of a list, as it is given -/
def CpA (c : Int × List Rd) (z : AV) : Prop := ∃ y, z = .agg [intA c.1, y] ∧ RdsA c.2 y ∧ ∀ r ∈ c.2, RdF r
theorem bound_cp {ch y : AV} {id : Int} {rs : List Rd} (h1 : bound ch = 0) (hy : RdsA rs y) : boundL [.agg [ch], .agg [intA id, y]] = 0 := by
  simp only [boundL_cons, bound_agg, h1, intA, bound_v, SlOf.bound hy, boundL_nil]; rfl
theorem bound_cp1 {y : AV} {id : Int} {rs : List Rd} (hy : RdsA rs y) : boundL [.agg [intA id, y]] = 0 := by
  simp only [boundL_cons, bound_agg, intA, bound_v, SlOf.bound hy, boundL_nil]; rfl
theorem cpsOk_of {t : Txt} (hs : Small t) (ht : Fits t) (htx : textB t = true) {ch : AV} {xs : List AV} (hch : SlOf 2 xs ch) (hall : All2 ChapA t xs) {cs : List (Int × List Rd)} {zs : List AV} (hz : All2 CpA cs zs) (hR : ∀ c ∈ cs, Right t c.1 c.2) : CpsOk ch cs zs := by
  refine ⟨hz.1, fun i c hc => ?_⟩
  obtain ⟨z, hzi, y, rfl, hy, hf⟩ := hz.get hc
  have hr := hR c (List.mem_of_getElem? hc)
  obtain ⟨ys, o, ho, hys, h58, h25⟩ := copyW quietA t hs ht htx ch xs hch hall c.1 c.2 y hy hf hr
  have hlen := hr.len
  have ha : Ans (Cx eA) 58 [.agg [ch], .agg [intA c.1, y]] (.v (.bool true)) := ans_of_call (me := 0) (d := none) (ext_58 quietA) (pure_58 _ _ _) (bound_cp hch.bound hy) (h58 0 none { objs := [], lock := 0 })
  exact ⟨y, hzi, hy, by omega, fun me d H => told rfl ha (bound_cp hch.bound hy) me d H, fun me d H => told rfl (ans59 quietA c.1 c.2 y hy (by omega)) (bound_cp1 hy) me d H⟩
theorem ans32 {t : Txt} (ht : Fits t) (htx : textB t = true) {ch : AV} {xs : List AV} (hch : SlOf 2 xs ch) (hall : All2 ChapA t xs) {cs : List (Int × List Rd)} {zs : List AV} (hcs : CpsOk ch cs zs) (hc5 : cs.length ≤ 5) {lx : AV} (hl : SlOf 2 zs lx) (hz : All2 CpA cs zs) : Ans Cs 32 [.agg [ch], lx] (.tup [plsV (doubtL cs), .v (.int .i64 0)]) := by
  have hr := rdb_closed hl (fun z hm => by
    obtain ⟨i, hi⟩ := List.getElem?_of_mem hm
    obtain ⟨c, hc⟩ := at_lt cs i (by rw [hz.1]; exact (List.getElem?_eq_some_iff.1 hi).1)
    obtain ⟨y, rfl, -⟩ := hz.2 i c z hc hi
    exact ⟨_, _, rfl⟩) { objs := [], lock := 0 }
  refine fn_mono (fn32 (X := { objs := [], lock := 0 }) (Nat.le_refl _) ht htx hch hall hcs hc5 hr) fun v H' h => ?_
  subst h
  show freezeV _ 1000000 _ = _
  generalize doubtL cs = l
  cases l <;> rfl
theorem call32 {t : Txt} (ht : Fits t) (htx : textB t = true) {ch : AV} {xs : List AV} (hch : SlOf 2 xs ch) (hall : All2 ChapA t xs) {cs : List (Int × List Rd)} {zs : List AV} (hcs : CpsOk ch cs zs) (hc5 : cs.length ≤ 5) {lx : AV} (hl : SlOf 2 zs lx) (hz : All2 CpA cs zs) (me : FuncId) (d : Option Tmp) (H : Heap) : callA Cs (lim Cs) me 32 d [.agg [ch], lx] H = some (.tup [plsV (doubtL cs), .v (.int .i64 0)], H) :=
  (ans32 ht htx hch hall hcs hc5 hl hz).call extS_32 (pureS_32 _ _) (by simp only [boundL_cons, bound_agg, hch.bound, hl.bound, boundL_nil]; rfl) H
end Go.Ev
namespace Go.Ev
open Go.Proofs Go.Sort
set_option maxRecDepth 100000
set_option linter.unusedSimpArgs false
attribute [local irreducible] Wp WpS
theorem call13S (t : Txt) (ht : Fits t) {ch : AV} {xs : List AV} (hch : SlOf 2 xs ch) (hall : All2 ChapA t xs) (me : FuncId) (d : Option Tmp) (H : Heap) : callA Cs (lim Cs) me 13 d [.agg [ch]] H = some (.v (.bool (readyB t)), H) :=
  told rfl (ans13 quietA t ht _ ⟨ch, rfl, xs, hch, hall⟩) (by simp only [boundL_cons, bound_agg, hch.bound, boundL_nil]; rfl) me d H
theorem call28S {t : Txt} (ht : Fits t) (hs : Small t) {ch : AV} {xs : List AV} (hch : SlOf 2 xs ch) (hall : All2 ChapA t xs) {c : Int × List Rd} {y : AV} (hy : RdsA c.2 y) (hf : ∀ r ∈ c.2, RdF r) (me : FuncId) (d : Option Tmp) (H : Heap) : callA Cs (lim Cs) me 28 d [.agg [ch], .agg [.v (.int .i64 c.1), y]] H = some (.v (.bool (rightB t c.1 c.2)), H) :=
  told rfl (ans28 quietA t ht (fun c hc l hl => by have := (hs.words c hc l hl).2; omega) ch xs hch hall c.1 c.2 y hy hf) (bound_cp hch.bound hy) me d H
theorem readyS {t : Txt} (h : readyB t = true) : textB t = true := by unfold readyB at h; simp only [Bool.and_eq_true] at h; exact h.2
theorem plsV_sl (l : List P3) : SlOf 3 (l.map p3V) (plsV l) := by
  cases l with
  | nil => exact Or.inl ⟨rfl, rfl⟩
  | cons p r => exact Or.inr ⟨none, rfl⟩
end Go.Ev
namespace Go.Ev
open Go.Proofs
set_option maxRecDepth 100000
set_option linter.unusedSimpArgs false
/-! ### lists of copies from arguments of plain data -/
theorem copy_ofP {N : Nat} {A : List AV} (hp : Plain Tryz.prog (N + 5) 53 A) : ∃ c, CpA c (.agg A) := by
  obtain ⟨hl, hf⟩ := plain_struct (l := [(0, 3), (1, 51)]) (by kernel_rfl) (by kernel_rfl) hp
  obtain ⟨a, b, rfl⟩ := two_cells (hl.trans (by kernel_rfl))
  have h0 := hf (0, 3) (by simp)
  have h1 := hf (1, 51) (by simp)
  have e0 : Tryz.prog.cellsOf 3 = 1 := by kernel_rfl
  have e1 : Tryz.prog.cellsOf 51 = 1 := by kernel_rfl
  simp only [e0, e1, List.drop_zero, List.drop_succ_cons, List.take_succ_cons, List.take_zero] at h0 h1
  obtain ⟨m, hm, -⟩ := plain_int (by kernel_rfl : Tryz.prog.underlying 3 = some (.int .i64)) h0
  obtain ⟨y, xs, hy, hsl, hlen, hxs⟩ := plain_slice (c := 5) (by kernel_rfl : Tryz.prog.underlying 51 = some (.slice 65)) (by kernel_rfl) h1
  simp only [List.cons.injEq, and_true] at hm hy
  subst hm
  have key : ∀ z ∈ xs, ∃ r, z = rdV r ∧ RdF r := by
    intro z hz
    obtain ⟨d, rfl, hd5, hd⟩ := hxs z hz
    obtain ⟨a1, a2, a3, a4, a5, rfl⟩ := cells5 hd5
    exact rd_of hd
  obtain ⟨rs, rfl, hrs⟩ := map_of xs key
  exact ⟨(m, rs), b, rfl, by rw [hy]; exact hsl, hrs⟩
theorem copies_of {N : Nat} {x : AV} (h : Arg Tryz.prog (N + 6) 69 x) : ∃ cs zs, SlOf 2 zs x ∧ All2 CpA cs zs := by
  unfold Arg at h
  have hu : Tryz.prog.underlying 69 = some (.slice 53) := by kernel_rfl
  rw [hu] at h
  obtain ⟨y, xs, hy, hsl, hlen, hxs⟩ := plain_slice (c := 2) hu (by kernel_rfl) h
  simp only [List.cons.injEq, and_true] at hy
  subst hy
  have key : ∀ z ∈ xs, ∃ c, CpA c z := by
    intro z hz
    obtain ⟨d, rfl, hd2, hd⟩ := hxs z hz
    obtain ⟨a, b, rfl⟩ := two_cells hd2
    exact copy_ofP hd
  obtain ⟨cs, hcs⟩ := all2_of xs key
  exact ⟨cs, xs, hsl, hcs⟩
end Go.Ev
namespace Go.Ev
open Go.Proofs Go.Sort
set_option maxRecDepth 100000
set_option linter.unusedSimpArgs false
attribute [local irreducible] Wp WpS
@[go_sem] theorem keepS_33 : Cs.keep 33 = [0, 1, 10, 5, 14, 25, 4] := rfl
theorem fnS_33 : Cs.P.funcs[33]? = some Tryz.f33 := Tryz.func33
theorem extS_33 : Cs.ext 33 = none := rfl
theorem pureS_33 (h : FuncId) (d : Option Tmp) : Cs.pure h 33 d = true := by simp [Cs, Cx, pureF, impF, impC]
/-! ### lists of places that are the same -/
set_option maxHeartbeats 2000000 in
theorem ans33 (l : List P3) (hn : l.length < 2 ^ 62) : Ans Cs 33 [plsV l, plsV l] (.v (.bool true)) := by
  have hd := plsV_sl l
  have hdl := hd.len
  rw [List.length_map] at hdl
  unfold Ans
  rw [fn_step fnS_33 (show Tryz.f33.body = some _ from rfl)]
  simp -implicitDefEqProofs only [Tryz.f33, go_sem, ↓reduceIte, Int.reduceEq, Int.reduceLT, Int.reduceLE, List.reduceReplicate, intA, setT_nil, setT_cons, ↓boolP_bool, ↓iteB_true, ↓iteB_false, hdl, decide_true]
  refine Lp_rule (P := fun μ a H => ∃ i : Nat, i + μ = l.length ∧ a = ⟨26, [(0, plsV l), (1, plsV l), (4, .v (.bool false)), (10, .v (.bool false)), (5, intA i)], []⟩ ∧ H = ⟨[], 0⟩) ?_ l.length _ _ ⟨0, by omega, rfl, rfl⟩
  rintro μ _ _ ⟨i, hi, rfl, rfl⟩
  by_cases hlt : (i : Int) < (l.length : Int)
  · obtain ⟨q, hq⟩ := at_lt l i (by omega)
    have hiq := hd.idx (show (l.map p3V)[i]? = some (p3V q) by rw [List.getElem?_map, hq]; rfl)
    unfold p3V intA at hiq
    have hw := wrap_succ i (by omega)
    have heq := eqP_iff q q
    rw [decide_eq_true rfl] at heq
    simp -implicitDefEqProofs only [go_sem, ↓reduceIte, Int.reduceEq, Int.reduceLT, Int.reduceLE, List.reduceReplicate, intA, setT_nil, setT_cons, ↓boolP_bool, ↓iteB_true, ↓iteB_false, hdl, hlt]
    refine wp_drawX [([], [], false), ([], [], false), ([], [], false), ([], [], false), ([], [], false), ([], [], false), ([], [], false), ([3], [], false), ([], [], false)] (by kernel_rfl) (by kernel_rfl) ?_
    simp -implicitDefEqProofs only [go_sem, ↓reduceIte, Int.reduceEq, Int.reduceLT, Int.reduceLE, List.reduceReplicate, intA, setT_nil, setT_cons, ↓boolP_bool, ↓iteB_true, ↓iteB_false, hdl, hlt, hiq, neq32, heq, Bool.not_true, hw, trim_at, plsV_bound]
    exact ⟨μ - 1, by omega, i + 1, by omega, rfl, rfl⟩
  · simp -implicitDefEqProofs only [go_sem, ↓reduceIte, Int.reduceEq, Int.reduceLT, Int.reduceLE, List.reduceReplicate, intA, setT_nil, setT_cons, ↓boolP_bool, ↓iteB_true, ↓iteB_false, hdl, hlt]
/-! ### rows of copies -/
theorem rdb_row {X : Heap} {zs : List AV} {b v m e : Nat} {g : Bool} {c : Option Nat} (hb : b < X.size) (hr : X.row b v = some (m, e, 2, g, zs.flatMap AV.cells)) (hz : ∀ z ∈ zs, ∃ p q, z = .agg [p, q]) : Rdb X zs (.sl b v 0 zs.length c) := by
  refine ⟨rfl, rfl, fun i z hi => ⟨_, slIdx_at 2 b v 0 zs.length c i (List.getElem?_eq_some_iff.1 hi).1, fun H hH => ?_⟩⟩
  obtain ⟨p, q, rfl⟩ := hz z (List.mem_of_getElem? hi)
  have hrow : H.row b v = some (m, e, 2, g, zs.flatMap AV.cells) := get_row ((hH b hb).trans (row_of_get hr))
  have e1 : isAggT Tryz.prog 53 = some true := isagg_53
  have e2 : sizeT Tryz.prog 53 = some 2 := size_53
  have hlen : ∀ zs : List AV, (∀ z ∈ zs, ∃ p q, z = .agg [p, q]) → (zs.flatMap AV.cells).length = zs.length * 2 := fun zs => by
    induction zs with
    | nil => intro _; rfl
    | cons z r ih =>
      intro h
      obtain ⟨p, q, rfl⟩ := h z List.mem_cons_self
      rw [List.flatMap_cons, List.length_append, ih fun z hz => h z (List.mem_cons_of_mem _ hz), List.length_cons]
      show 2 + _ = _
      omega
  have hget : ∀ (zs : List AV) (i : Nat), (∀ z ∈ zs, ∃ p q, z = .agg [p, q]) → zs[i]? = some (.agg [p, q]) → ((zs.flatMap AV.cells).drop (i * 2)).take 2 = [p, q] := fun zs => by
    induction zs with
    | nil => intro i _ h; cases h
    | cons z r ih =>
      intro i h hi
      obtain ⟨p', q', rfl⟩ := h z List.mem_cons_self
      cases i with
      | zero =>
        simp only [List.getElem?_cons_zero, Option.some.injEq, AV.agg.injEq] at hi
        rw [List.flatMap_cons, Nat.zero_mul, List.drop_zero, ← hi]; rfl
      | succ i =>
        rw [List.flatMap_cons, show (i + 1) * 2 = i * 2 + 1 + 1 by omega]
        exact ih i (fun z hz => h z (List.mem_cons_of_mem _ hz)) (by simpa using hi)
  have hil := (List.getElem?_eq_some_iff.1 hi).1
  unfold loadA
  simp only [hrow]
  unfold partOf
  rw [e1, e2]
  simp only
  rw [Nat.zero_add, hlen zs hz, if_pos (by omega), hget zs i hz hi]
/-- a call of Doubt on a list in memory -/
theorem call32L {X : Heap} {t : Txt} (ht : Fits t) (htx : textB t = true) {ch : AV} {xs : List AV} (hch : SlOf 2 xs ch) (hall : All2 ChapA t xs) {cs : List (Int × List Rd)} {zs : List AV} (hcs : CpsOk ch cs zs) (hc5 : cs.length ≤ 5) {b v : Nat} {c : Option Nat} (hr : Rdb X zs (.sl b v 0 zs.length c)) (me : FuncId) (d : Option Tmp) :
    callA Cs (lim Cs) me 32 d [.agg [ch], .sl b v 0 zs.length c] X = some (.tup [plsV (doubtL cs), .v (.int .i64 0)], X) := by
  refine callA_fz extS_32 (pureS_32 _ _) (by rfl) (fun h => ?_) ?_
  · have h1 : Nat.max (bound (.agg [ch])) (Nat.max (b + 1) 0) = 0 := h
    have h2 := Nat.le_trans (Nat.le_max_left (b + 1) 0) (Nat.le_max_right (bound (.agg [ch])) (Nat.max (b + 1) 0))
    have h3 : b + 1 ≤ 0 := h1 ▸ h2
    omega
  · refine fn_mono (fn32 (X := { X with lock := X.size }) (Nat.le_refl _) ht htx hch hall hcs hc5 ⟨hr.len, hr.yld, fun i z hi => ?_⟩) fun w H' h => ?_
    · obtain ⟨p, h1, h2⟩ := hr.get i z hi
      exact ⟨p, h1, fun H hH => h2 H hH⟩
    · subst h
      generalize doubtL cs = l
      cases l <;> rfl
end Go.Ev
namespace Go.Ev
open Go.Proofs Go.Sort
set_option maxRecDepth 100000
set_option linter.unusedSimpArgs false
attribute [local irreducible] Wp WpS
theorem cpsC_facts : ∀ {cs : List (Int × List Rd)} {zs : List AV}, All2 CpA cs zs → (zs.flatMap AV.cells).all AV.flat = true ∧ boundL (zs.flatMap AV.cells) = 0 ∧ (zs.flatMap AV.cells).length = zs.length * 2 ∧ ∀ z ∈ zs, ∃ p q, z = .agg [p, q] := fun {cs zs} h => by
  have key : ∀ z ∈ zs, ∃ p q, z = .agg [p, q] ∧ p.flat = true ∧ q.flat = true ∧ bound p = 0 ∧ bound q = 0 ∧ z.cells = [p, q] := fun z hm => by
    obtain ⟨i, hi⟩ := List.getElem?_of_mem hm
    obtain ⟨c, hc⟩ := at_lt cs i (by rw [h.1]; exact (List.getElem?_eq_some_iff.1 hi).1)
    obtain ⟨y, rfl, hy, -⟩ := h.2 i c z hc hi
    have hy : SlOf 5 (c.2.map rdV) y := hy
    exact ⟨_, _, rfl, rfl, hy.flat, rfl, hy.bound, rfl⟩
  clear h
  induction zs with
  | nil => exact ⟨rfl, rfl, rfl, fun z hz => nomatch hz⟩
  | cons z r ih =>
    obtain ⟨i1, i2, i3, i4⟩ := ih fun z hz => key z (List.mem_cons_of_mem _ hz)
    obtain ⟨p, q, e, f1, f2, b1, b2, e2⟩ := key z List.mem_cons_self
    rw [List.flatMap_cons, e2]
    refine ⟨?_, ?_, ?_, fun y hy => ?_⟩
    · rw [List.all_append, i1]; simp [f1, f2]
    · refine Nat.le_zero.1 (boundL_le.2 fun x hx => ?_)
      rcases List.mem_append.1 hx with hx | hx
      · simp at hx
        rcases hx with rfl | rfl
        · omega
        · omega
      · exact boundL_le.1 (Nat.le_of_eq i2) x hx
    · rw [List.length_append, i3, List.length_cons]; simp only [List.length_cons, List.length_nil]; omega
    · rcases List.mem_cons.1 hy with rfl | hy
      · exact ⟨p, q, e⟩
      · exact i4 y hy
/-! ### rows of copies that grow -/
structure MR (X : Heap) (H : Heap) (zs : List AV) (out : AV) : Prop where
  lock : H.lock = X.lock
  size : X.size ≤ H.size
  low : ∀ b, b < X.size → H.get b = X.get b
  done : (zs = [] ∧ out = .v (.slice none 0 0)) ∨ (zs ≠ [] ∧ ∃ b v, X.size ≤ b ∧ b < H.size ∧ out = .sl b v 0 zs.length none ∧ H.row b v = some (0, 53, 2, true, zs.flatMap AV.cells))
theorem MR.plus {X H : Heap} {zs : List AV} {out : AV} (h : MR X H zs out) (E : List (Option AObj)) : MR X (H.plus E) zs out := by
  have hs := h.size
  refine ⟨h.lock, by rw [plus_size]; omega, fun b hb => (plus_get E (by omega)).trans (h.low b hb), ?_⟩
  rcases h.done with hd | ⟨h0, b, v, h1, h2, h3, h4⟩
  · exact Or.inl hd
  · exact Or.inr ⟨h0, b, v, h1, by rw [plus_size]; omega, h3, by rw [rowLo h2]; exact h4⟩
theorem MR.trim {X H : Heap} {zs : List AV} {out : AV} (h : MR X H zs out) {n : Nat} (hn : X.size ≤ n) (hn2 : n ≤ H.size) (vs : List AV) (ms : List Nat) (hv : bound out ≤ boundL vs) : MR X (H.trim n vs ms) zs out := by
  refine ⟨trim_lock.trans h.lock, Nat.le_trans hn (trim_size' hn2), fun b hb => (trim_lo (by omega)).trans (h.low b hb), ?_⟩
  rcases h.done with hd | ⟨h0, b, v, h1, h2, rfl, h4⟩
  · exact Or.inl hd
  · unfold Heap.trim
    split
    · rename_i hq
      rw [Bool.and_eq_true, Bool.and_eq_true, Bool.and_eq_true, Nat.ble_eq] at hq
      have h5 := hq.1.1.1
      have hb : b < n := by simp only [bound] at hv; omega
      have hg := (takeH_get (H := H) hb).trans (row_of_get h4)
      exact Or.inr ⟨h0, b, v, h1, get_size hg, rfl, get_row hg⟩
    · exact Or.inr ⟨h0, b, v, h1, h2, rfl, h4⟩
theorem MR.more {X H : Heap} {zs : List AV} {b v : Nat} (h : MR X H zs (.sl b v 0 zs.length none)) (h1 : X.size ≤ b) (hb : b < H.size) (z : AV) : MR X (H.put b (.cells (v + 1) 0 53 2 true (zs.flatMap AV.cells ++ z.cells))) (zs ++ [z]) (.sl b (v + 1) 0 (zs.length + 1) none) := by
  have hs := h.size
  refine ⟨h.lock, by rw [put_sizeI _ hb]; omega, fun c hc => (put_get_ne _ (by omega) (by omega)).trans (h.low c hc), Or.inr ⟨by simp, b, v + 1, h1, by rw [put_sizeI _ hb]; exact hb, by simp, ?_⟩⟩
  rw [row_put_same hb, List.flatMap_append]; simp
theorem MR.new {X H : Heap} {out : AV} (h : MR X H [] out) {N : Nat} (hN : H.size = N) (E : List (Option AObj)) (k : Nat) (z : AV) (hE : E[k]? = some (some (.cells 0 0 53 2 true z.cells))) : MR X (H.plus E) [z] (.sl (N + k) 0 0 1 none) := by
  have hk := (List.getElem?_eq_some_iff.1 hE).1
  have hs := h.size
  refine ⟨h.lock, by rw [plus_size]; omega, fun b hb => (plus_get E (by omega)).trans (h.low b hb), Or.inr ⟨by simp, N + k, 0, by omega, by rw [plus_size]; omega, rfl, ?_⟩⟩
  rw [rowP hN, hE]
  simp
  rfl
/-! ### turned round -/
theorem rot_get {β : Type} (l : List β) {n k i : Nat} (hn : l.length = n) (hk : k < n) (hi : i < n) : (l.drop k ++ l.take k)[i]? = l[(i + k) % n]? := by
  by_cases h : i < n - k
  · rw [List.getElem?_append_left (by rw [List.length_drop]; omega), List.getElem?_drop, Nat.mod_eq_of_lt (by omega), Nat.add_comm]
  · rw [List.getElem?_append_right (by rw [List.length_drop]; omega), List.length_drop, List.getElem?_take, if_pos (by omega), Nat.mod_eq_sub_mod (by omega), Nat.mod_eq_of_lt (by omega)]
    congr 1; omega
theorem rot_len {β : Type} (l : List β) (k : Nat) : (l.drop k ++ l.take k).length = l.length := by
  rw [List.length_append, List.length_drop, List.length_take]; omega
theorem rot_all {cs : List (Int × List Rd)} {zs : List AV} (hz : All2 CpA cs zs) {n k : Nat} (hn : cs.length = n) (hk : k < n) : All2 CpA (cs.drop k ++ cs.take k) (zs.drop k ++ zs.take k) := by
  refine ⟨by rw [rot_len, rot_len]; exact hz.1, fun i c z h1 h2 => ?_⟩
  have hi : i < n := by
    have := (List.getElem?_eq_some_iff.1 h1).1
    rw [rot_len] at this; omega
  rw [rot_get cs hn hk hi] at h1
  rw [rot_get zs (by rw [← hz.1]; exact hn) hk hi] at h2
  exact hz.2 _ c z h1 h2
theorem rot_mem {β : Type} (l : List β) (k : Nat) (x : β) : x ∈ l ↔ x ∈ l.drop k ++ l.take k := by
  rw [List.mem_append, Or.comm, ← List.mem_append, List.take_append_drop]
theorem stillV_32 {t : Txt} (ht : Fits t) (htx : textB t = true) {ch : AV} {xs : List AV} (hch : SlOf 2 xs ch) (hall : All2 ChapA t xs) {cs : List (Int × List Rd)} {zs : List AV} (hcs : CpsOk ch cs zs) (hc5 : cs.length ≤ 5) (hz : ∀ z ∈ zs, ∃ p q, z = .agg [p, q]) {me : FuncId} {d : Option Tmp} {G : Heap} {cont : AV → Heap → Prop} {b v m e base top : Nat} {vl : List Nat} {g : Bool} {n : Nat} (hn : n = zs.length)
    (hb : b < G.size) (hvis : b < base ∨ top ≤ b ∨ (base ≤ b ∧ vl.contains (b - base) = true)) (hrow : G.row b v = some (m, e, 2, g, zs.flatMap AV.cells)) (hcont : AtO cont (.tup [plsV (doubtL cs), .v (.int .i64 0)]) G) :
    stillV Cs me base top vl d (.fn (.func 32) [] []) [.agg [ch], .sl b v 0 n none] G cont := by
  subst hn
  refine ⟨?_, _, fun Gh h1 h2 h3 => ⟨Gh, ?_⟩, hcont⟩
  · unfold kind2
    have hk : callKind Cs me 32 d ([] ++ [AV.agg [ch], .sl b v 0 zs.length none] ++ []) = 2 := by
      unfold callKind
      rw [pureS_32]
      have hb : ¬ (Nat.beq (boundL ([] ++ [AV.agg [ch], .sl b v 0 zs.length none] ++ [])) 0 = true) := by
        intro h0
        have h0 := Nat.eq_of_beq_eq_true h0
        have h1 : Nat.max (bound (.agg [ch])) (Nat.max (b + 1) 0) = 0 := h0
        have h2 := Nat.le_trans (Nat.le_max_left (b + 1) 0) (Nat.le_max_right (bound (.agg [ch])) (Nat.max (b + 1) 0))
        have h3 : b + 1 ≤ 0 := h1 ▸ h2
        omega
      rw [if_pos rfl, if_neg hb]; rfl
    simp only [extS_32, hk]; rfl
  · unfold callX
    simp only [List.nil_append, List.append_nil]
    exact call32L ht htx hch hall hcs hc5 (rdb_row (by rw [h2]; exact hb) (get_row ((h3 b hvis).trans (row_of_get hrow))) hz) me d
end Go.Ev
namespace Go.Ev
open Go.Proofs Go.Sort
set_option maxRecDepth 100000
set_option linter.unusedSimpArgs false
attribute [local irreducible] Wp WpS
theorem allD_len : ∀ {cs : List (Int × List Rd)}, (∀ c ∈ cs, c.2.length ≤ 20) → (allD cs).length ≤ cs.length * 20
  | [], _ => Nat.le_refl _
  | c :: r, h => by
    have h3 := allD_len fun z hz => h z (List.mem_cons_of_mem c hz)
    have h4 := dbtL_len c.2
    have h5 := h c List.mem_cons_self
    show ((c :: r).flatMap fun c => dbtL c.2).length ≤ _
    change ((r).flatMap fun c => dbtL c.2).length ≤ _ at h3
    rw [List.flatMap_cons, List.length_append, List.length_cons]; omega
/-- a place in a cell of memory -/
structure BX (N : Nat) (H : Heap) (q : P3) : Prop where
  lock : H.lock ≤ N
  lt : N < H.size
  get : H.get N = some (.cells 0 0 32 1 false [.v (.int .i64 q.1), .v (.int .i64 q.2.1), .v (.int .i64 q.2.2)])
theorem BX.plus {N : Nat} {H : Heap} {q : P3} (h : BX N H q) (E : List (Option AObj)) : BX N (H.plus E) q := ⟨h.lock, by rw [plus_size]; have := h.lt; omega, (plus_get E h.lt).trans h.get⟩
theorem BX.trim {N : Nat} {H : Heap} {q : P3} (h : BX N H q) {n : Nat} (hn : N < n) (hn2 : n ≤ H.size) (vs : List AV) (ms : List Nat) : BX N (H.trim n vs ms) q := ⟨by rw [trim_lock]; exact h.lock, Nat.lt_of_lt_of_le hn (trim_size' hn2), (trim_lo hn).trans h.get⟩
theorem at_heap {C : Cfg} {me : FuncId} {rd : Option Nat} {ks : List Nat} {code : Code} {a : AAct} {K : Post} (H : Heap) (Q : Heap → Prop) (hQ : Q H) (h : ∀ X, Q X → Lp C me rd ks code a X K) : Lp C me rd ks code a H K := h H hQ
set_option maxHeartbeats 8000000 in
theorem ans10 (t : Txt) (ht : Fits t) (ch : AV) (xs : List AV) (hch : SlOf 2 xs ch) (hall : All2 ChapA t xs) (cs : List (Int × List Rd)) (zs : List AV) (lx : AV) (hl : SlOf 2 zs lx) (hz : All2 CpA cs zs) (mo : Int × List Rd) (zm : AV) (hm : CpA mo zm) (o : Nat) (ho : o < 256) : Ans Cs 10 [.agg [ch], lx, zm, .v (.int .u8 o)] (.v (.bool true)) := by
  have h13 := call13S t ht hch hall
  have hlen := hl.len
  rw [← hz.1] at hlen
  obtain ⟨ym, rfl, hym, hfm⟩ := hm
  have hymf : SlOf 5 (mo.2.map rdV) ym := hym
  unfold Ans
  rw [fn_step fnS_10 (show Tryz.f10.body = some _ from rfl)]
  cases h1 : readyB t
  · rw [h1] at h13
    simp -implicitDefEqProofs only [Tryz.f10, go_sem, ↓reduceIte, Int.reduceEq, Int.reduceLT, Int.reduceLE, List.reduceReplicate, intA, setT_nil, setT_cons, ↓boolP_bool, ↓iteB_true, ↓iteB_false, hch.cells, hch.flat, hch.bound, hymf.cells, hymf.flat, hymf.bound, callS12, h13]
  rw [h1] at h13
  have htx := readyS h1
  have hs := small_of htx
  have h28m := call28S ht hs hch hall hym hfm
  by_cases h5 : 5 ≤ (cs.length : Int)
  · simp -implicitDefEqProofs only [Tryz.f10, go_sem, ↓reduceIte, Int.reduceEq, Int.reduceLT, Int.reduceLE, List.reduceReplicate, intA, setT_nil, setT_cons, ↓boolP_bool, ↓iteB_true, ↓iteB_false, hch.cells, hch.flat, hch.bound, hymf.cells, hymf.flat, hymf.bound, callS12, h13, hlen, h5]
    skip
  cases h2m : rightB t mo.1 mo.2
  · rw [h2m] at h28m
    simp -implicitDefEqProofs only [Tryz.f10, go_sem, ↓reduceIte, Int.reduceEq, Int.reduceLT, Int.reduceLE, List.reduceReplicate, intA, setT_nil, setT_cons, ↓boolP_bool, ↓iteB_true, ↓iteB_false, hch.cells, hch.flat, hch.bound, hymf.cells, hymf.flat, hymf.bound, callS12, h13, hlen, h5, h28m]
    skip
  rw [h2m] at h28m
  simp -implicitDefEqProofs only [Tryz.f10, go_sem, ↓reduceIte, Int.reduceEq, Int.reduceLT, Int.reduceLE, List.reduceReplicate, intA, setT_nil, setT_cons, ↓boolP_bool, ↓iteB_true, ↓iteB_false, hch.cells, hch.flat, hch.bound, hymf.cells, hymf.flat, hymf.bound, callS12, h13, hlen, h5, h28m]
  have hRm : Right t mo.1 mo.2 := Right.of (by unfold rightB at h2m; simp only [Bool.and_eq_true] at h2m; exact h2m.2)
  refine Lp_rule (P := fun μ a H => ∃ i, i + μ = cs.length ∧ (∀ j c, j < i → cs[j]? = some c → rightB t c.1 c.2 = true) ∧ a = ⟨202, [(0, .agg [ch]), (1, lx), (2, .agg [intA mo.1, ym]), (3, .v (.int .u8 o)), (4, .ptr 0 0 0), (6, .ptr 1 0 0), (8, .v (.bool false)), (9, .v (.bool true)), (50, .v (.bool false)), (52, lx), (53, intA cs.length), (54, intA i)], []⟩ ∧ H = ⟨[some (.cells 0 0 24 1 false [ch]), some (.cells 0 0 53 1 false [intA mo.1, ym])], 0⟩) ?_ cs.length _ _ ⟨0, by omega, fun j c hj _ => absurd hj (Nat.not_lt_zero _), rfl, rfl⟩
  rintro μ _ _ ⟨i, hi, hright, rfl, rfl⟩
  by_cases hlt : (i : Int) < (cs.length : Int)
  · obtain ⟨c, hc⟩ := at_lt cs i (by omega)
    obtain ⟨z, hzi, y, rfl, hy, hf⟩ := hz.get hc
    have hw := wrap_succ i (by omega)
    have hir := hl.idx hzi
    have h28 := call28S ht hs hch hall hy hf
    have hyf : SlOf 5 (c.2.map rdV) y := hy
    unfold intA at hir
    cases h2 : rightB t c.1 c.2
    · rw [h2] at h28
      simp -implicitDefEqProofs only [go_sem, ↓reduceIte, Int.reduceEq, Int.reduceLT, Int.reduceLE, List.reduceReplicate, intA, setT_nil, setT_cons, ↓boolP_bool, ↓iteB_true, ↓iteB_false, hlt, hir, h28, hyf.cells, hyf.flat, hyf.bound, hch.cells]
    · rw [h2] at h28
      simp -implicitDefEqProofs only [go_sem, ↓reduceIte, Int.reduceEq, Int.reduceLT, Int.reduceLE, List.reduceReplicate, intA, setT_nil, setT_cons, ↓boolP_bool, ↓iteB_true, ↓iteB_false, hlt, hw, hir, h28, hyf.cells, hyf.flat, hyf.bound, hch.cells, hch.bound, hl.bound, hymf.bound, trim_at]
      refine ⟨μ - 1, by omega, i + 1, by omega, fun j c' hj hc' => ?_, rfl, rfl⟩
      by_cases hji : j < i
      · exact hright j c' hji hc'
      · obtain rfl : j = i := by omega
        rw [hc] at hc'; cases hc'; exact h2
  · obtain rfl : i = cs.length := by omega
    have hR : ∀ c ∈ cs, Right t c.1 c.2 := fun c hc => by
      obtain ⟨j, hj⟩ := List.getElem?_of_mem hc
      have h2 := hright j c (List.getElem?_eq_some_iff.1 hj).1 hj
      exact Right.of (by unfold rightB at h2; simp only [Bool.and_eq_true] at h2; exact h2.2)
    have hcps := cpsOk_of hs ht htx hch hall hz hR
    have h32 := call32 ht htx hch hall hcps (by omega) hl hz
    have hzl := hz.1
    have hzl := hz.1
    have hcl := fun H => cells_of hl H
    obtain ⟨hzf, hzb, hzn, hzA⟩ := cpsC_facts hz
    have hz1 : All2 CpA [mo] [.agg [intA mo.1, ym]] := ⟨rfl, fun i c z hc hz => by
      match i with
      | 0 => simp at hc hz; subst hc hz; exact ⟨ym, rfl, hym, hfm⟩
      | i + 1 => simp at hc⟩
    have hz2 : All2 CpA (cs ++ [mo]) (zs ++ [.agg [intA mo.1, ym]]) := by
      refine ⟨by simp [hzl], fun i c z hc hz' => ?_⟩
      by_cases hi : i < cs.length
      · rw [List.getElem?_append_left hi] at hc
        rw [List.getElem?_append_left (by omega)] at hz'
        exact hz.2 i c z hc hz'
      · rw [List.getElem?_append_right (by omega)] at hc
        rw [List.getElem?_append_right (by omega)] at hz'
        exact hz1.2 (i - cs.length) c z hc (by rw [hzl]; exact hz')
    have hRm1 : ∀ c ∈ [mo], Right t c.1 c.2 := fun c hc => by obtain rfl := List.mem_singleton.1 hc; exact hRm
    have hR2 : ∀ c ∈ cs ++ [mo], Right t c.1 c.2 := fun c hc => (List.mem_append.1 hc).elim (hR c) (hRm1 c)
    have hcps2 := cpsOk_of hs ht htx hch hall hz2 hR2
    have hc6 : (cs ++ [mo]).length ≤ 5 := by rw [List.length_append]; simp only [List.length_cons, List.length_nil]; omega
    have hzA2 : ∀ z ∈ zs ++ [.agg [intA mo.1, ym]], ∃ p q, z = .agg [p, q] := fun z hz => (List.mem_append.1 hz).elim (hzA z) fun h => by obtain rfl := List.mem_singleton.1 h; exact ⟨_, _, rfl⟩
    have hf1 : fitsA 32 1 = true := by decide
    have h32m := call32 ht htx hch hall (cpsOk_of hs ht htx hch hall hz1 hRm1) (by simp) (lx := .vs 2 [.agg [intA mo.1, ym]] (some 1)) (Or.inr ⟨_, rfl⟩) hz1
    have hzn0 : All2 CpA ([] : List (Int × List Rd)) [] := ⟨rfl, fun i c z hc _ => by simp at hc⟩
    have h32n := call32 ht htx hch hall (cpsOk_of hs ht htx hch hall hzn0 fun c hc => nomatch hc) (by simp) (lx := .v (.slice none 0 0)) (Or.inl ⟨rfl, rfl⟩) hzn0
    unfold intA at h32m
    have hmc : AV.cells (.agg [.v (.int .i64 mo.1), ym]) = [.v (.int .i64 mo.1), ym] := rfl
    have hbm : boundL [.v (.int .i64 mo.1), ym] = 0 := by simp only [boundL_cons, bound_v, hymf.bound, boundL_nil]; rfl
    simp -implicitDefEqProofs only [go_sem, ↓reduceIte, Int.reduceEq, Int.reduceLT, Int.reduceLE, List.reduceReplicate, intA, setT_nil, setT_cons, ↓boolP_bool, ↓iteB_true, ↓iteB_false, hlt, h32, hch.cells, hch.flat, hch.bound]
    refine wp_drawX [([], [], false), ([0], [], false), ([], [], false), ([0], [1], false), ([0, 1, 3], [], false), ([0, 1, 3], [], false), ([0], [1, 3, 5], false), ([0], [1, 3, 5, 6], true), ([], [], false), ([], [], false), ([], [], false), ([], [], false), ([], [], false)] (by kernel_rfl) (by kernel_rfl) ?_
    refine Or.elim (Nat.eq_zero_or_pos cs.length) (fun h0 => ?_) (fun h0 => ?_)
    have hz0 : zs = [] := List.length_eq_zero_iff.1 (by omega)
    have hcl0 : ∀ H, cellsFrom H 2 lx = some (0, []) := fun H => by rw [hcl H, hz0]; rfl
    simp -implicitDefEqProofs only [go_sem, ↓reduceIte, Int.reduceEq, Int.reduceLT, Int.reduceLE, List.reduceReplicate, intA, setT_nil, setT_cons, ↓boolP_bool, ↓iteB_true, ↓iteB_false, hcl0, hl.objs, hf1, appTo_vs0, hymf.cells, hymf.flat, hymf.bound, hch.cells, hch.flat, hch.bound, List.length_nil, List.flatMap_nil, List.flatMap_cons, List.isEmpty_nil, List.isEmpty_cons, hmc, List.all_nil, List.append_nil]
    refine stillV_32 ht htx hch hall hcps2 hc6 hzA2 (by rw [hz0]; rfl) (by show 8 < 15; omega) (Or.inr (Or.inr ⟨by omega, by decide⟩)) (m := 0) (e := 53) (g := true) (by rw [hz0]; rfl) ?_
    simp -implicitDefEqProofs only [go_sem, ↓reduceIte, Int.reduceEq, Int.reduceLT, Int.reduceLE, List.reduceReplicate, intA, setT_nil, setT_cons, ↓boolP_bool, ↓iteB_true, ↓iteB_false, h32m, h32n, hlen, hch.cells, hch.flat, hch.bound, hymf.cells, hymf.flat, hymf.bound]
    rotate_left -- case A stands at the loop of turned here (D10a)
    have hfn : fitsA 32 zs.length = true := by unfold fitsA; exact decide_eq_true (by omega)
    have hfn1 : fitsA 32 (zs.length + 1) = true := by unfold fitsA; exact decide_eq_true (by omega)
    have hz0 : ¬ zs.length = 0 := by omega
    simp -implicitDefEqProofs only [go_sem, ↓reduceIte, Int.reduceEq, Int.reduceLT, Int.reduceLE, List.reduceReplicate, intA, setT_nil, setT_cons, ↓boolP_bool, ↓iteB_true, ↓iteB_false, hcl, hl.objs, hfn, hz0, hzf, hzb, appTo_vs0, hymf.cells, hymf.flat, hymf.bound, hch.cells, hch.flat, hch.bound, List.length_nil, List.flatMap_nil, List.flatMap_cons, List.isEmpty_nil, List.isEmpty_cons, hmc, List.all_nil, List.append_nil, show ((3 : Nat) == 1) = false from rfl, show ((5 : Nat) == 1) = false from rfl, show ((0 : Nat) == 5) = false from rfl, Bool.not_false, Bool.and_self]
    rw [appTo_own (m := 0) (e' := 53) (cs := zs.flatMap AV.cells) rfl (by rw [hzn]) (Nat.zero_le _) hfn1 (by omega) (by omega)]
    simp only [bindO_some]
    refine stillV_32 ht htx hch hall hcps2 hc6 hzA2 (v := 1) (m := 0) (e := 53) (g := true) (by simp) (by show 5 < 15; omega) (Or.inr (Or.inr ⟨by omega, by decide⟩)) ?_ ?_
    · show Heap.row _ 5 1 = _
      rw [row_put_same (by show 5 < 15; omega), hbm, List.flatMap_append]
      simp only [Nat.max_self, List.flatMap_cons, List.flatMap_nil, List.append_nil, AV.cells, intA]
    simp -implicitDefEqProofs only [go_sem, ↓reduceIte, Int.reduceEq, Int.reduceLT, Int.reduceLE, List.reduceReplicate, intA, setT_nil, setT_cons, ↓boolP_bool, ↓iteB_true, ↓iteB_false, h32m, h32n, hlen, hch.cells, hch.flat, hch.bound, hymf.cells, hymf.flat, hymf.bound]
    all_goals
      refine at_heap _ (fun X => X.size = 15 ∧ X.lock = 0 ∧ X.get 0 = some (.cells 0 0 24 1 false [ch])) ⟨rfl, rfl, rfl⟩ ?_
      rintro X ⟨hXs, hXl, hX0⟩
      refine Lp_rule (P := fun μ a H => ∃ (i : Nat) (out : AV), i + μ = cs.length ∧ a = ⟨202, [(0, .agg [ch]), (1, lx), (2, .agg [.v (.int .i64 mo.1), ym]), (3, .v (.int .u8 o)), (4, .ptr 0 0 0), (6, .ptr 1 0 0), (8, .v (.bool false)), (9, .v (.bool true)), (50, .v (.bool false)), (52, lx), (53, intA cs.length), (54, intA cs.length), (12, plsV (doubtL cs)), (13, intA 0), (14, plsV (doubtL (cs ++ [mo]))), (15, intA 0), (16, plsV (doubtL [mo])), (17, intA 0), (18, plsV (doubtL [])), (19, intA 0), (20, out), (94, intA cs.length), (95, intA i)], []⟩ ∧ MR X H ((zs.drop (o % cs.length) ++ zs.take (o % cs.length)).take i) out) ?_ cs.length _ _ ⟨0, _, by omega, rfl, ⟨rfl, Nat.le_refl _, fun _ _ => rfl, Or.inl ⟨rfl, rfl⟩⟩⟩
      rintro μ _ H ⟨i, out, hi, rfl, hM⟩
      obtain ⟨M, hMs⟩ : ∃ M, H.size = M := ⟨_, rfl⟩
      have hsz := hM.size
      have hlkM : H.lock ≤ M := by rw [hM.lock]; omega
      by_cases hlt3 : (i : Int) < (cs.length : Int)
      · have hk : o % cs.length < cs.length := Nat.mod_lt _ (by omega)
        obtain ⟨c, hc⟩ := at_lt cs ((i + o % cs.length) % cs.length) (Nat.mod_lt _ (by omega))
        obtain ⟨z, hzi, y, rfl, hy, hf⟩ := hz.get hc
        have hyf : SlOf 5 (c.2.map rdV) y := hy
        have hw := wrap_succ i (by omega)
        have hir := hl.idx hzi
        unfold intA at hir
        have hcv := conv_u8 o (by omega) (by omega)
        have hrem : ∀ (x y : Operand) (m : Int), binA Tryz.prog .rem 3 x y (.v (.int .i64 m)) (.v (.int .i64 cs.length)) = some (.v (.int .i64 (Int.tmod m cs.length))) := fun x y m => bin_rem x y m cs.length (by omega)
        have hm1 : Int.tmod (o : Int) (cs.length : Int) = ((o % cs.length : Nat) : Int) := rfl
        have hw2 : IntKind.i64.wrap ((i : Int) + ((o % cs.length : Nat) : Int)) = ((i + o % cs.length : Nat) : Int) := by rw [wrap_in _ (by omega) (by omega)]; omega
        have hm2 : Int.tmod ((i + o % cs.length : Nat) : Int) (cs.length : Int) = (((i + o % cs.length) % cs.length : Nat) : Int) := rfl
        have htk : (zs.drop (o % cs.length) ++ zs.take (o % cs.length)).take (i + 1) = (zs.drop (o % cs.length) ++ zs.take (o % cs.length)).take i ++ [.agg [intA c.1, y]] := by
          rw [List.take_add_one, rot_get zs hzl.symm hk (by omega), hzi]; rfl
        have hbc : boundL [.v (.int .i64 c.1), y] = 0 := by simp only [boundL_cons, bound_v, hyf.bound, boundL_nil]; rfl
        have hmc2 : AV.cells (.agg [.v (.int .i64 c.1), y]) = [.v (.int .i64 c.1), y] := rfl
        have htl : ((zs.drop (o % cs.length) ++ zs.take (o % cs.length)).take i).length = i := by rw [List.length_take, rot_len]; omega
        generalize o % cs.length = k at *
        generalize hzr : (zs.drop k ++ zs.take k).take i = zi at *
        rcases hM.done with ⟨h0, rfl⟩ | ⟨h0, b, v, hb1, hb3, rfl, hrow⟩
        · rw [h0] at hM htk
          have hnew := (hM.new hMs [some (.cells 0 0 53 2 true [.v (.int .i64 c.1), y])] 0 (.agg [.v (.int .i64 c.1), y]) rfl)
          rw [← plus_nil H]
          simp -implicitDefEqProofs only [go_sem, ↓reduceIte, Int.reduceEq, Int.reduceLT, Int.reduceLE, List.reduceReplicate, intA, setT_nil, setT_cons, ↓boolP_bool, ↓iteB_true, ↓iteB_false, hlt3, hcv, hlen, hrem, hm1, hw2, hm2, hir, hw, hyf.cells, hyf.flat, hyf.bound, hl.bound, hch.bound, hymf.bound, hbc, hmc2, sizeP hMs, putP0 hMs, putP hMs, settleP0 hMs, settleP hMs, rowP0 hMs, rowP hMs, storeP0 hMs hlkM, storeP hMs hlkM, List.length_nil, Nat.add_zero, Nat.zero_add, hf1, appTo_vs0, List.flatMap_nil, List.flatMap_cons, List.isEmpty_nil, List.isEmpty_cons, List.all_nil, List.append_nil]
          exact ⟨μ - 1, by omega, i + 1, _, by omega, rfl, by rw [htk]; exact hnew.trim (by omega) (by rw [plus_size]; omega) _ _ (le_boundL (by simp))⟩
        · have hfi : fitsA 32 (i + 1) = true := by unfold fitsA; exact decide_eq_true (by omega)
          have hrp : ∀ E, (H.plus E).row b v = some (0, 53, 2, true, zi.flatMap AV.cells) := fun E => by rw [rowLo hb3]; exact hrow
          have hmore := hM.more hb1 hb3 (.agg [.v (.int .i64 c.1), y])
          have hzl2 : (zi.flatMap AV.cells).length = i * 2 := by
            have h1 : ∀ z ∈ zi, ∃ p q, z = .agg [p, q] := fun z hz => by
              rw [← hzr] at hz
              rcases List.mem_append.1 (List.mem_of_mem_take hz) with h | h
              · exact hzA z (List.mem_of_mem_drop h)
              · exact hzA z (List.mem_of_mem_take h)
            rw [← htl]
            clear hrp hmore hrow hM htk hzr htl hb3 hb1 h0
            induction zi with
            | nil => rfl
            | cons z r ih =>
              obtain ⟨p, q, rfl⟩ := h1 z List.mem_cons_self
              rw [List.flatMap_cons, List.length_append, ih fun z hz => h1 z (List.mem_cons_of_mem _ hz), List.length_cons]
              show 2 + _ = _
              omega
          rw [htl] at hmore
          rw [← plus_nil H]
          simp -implicitDefEqProofs only [go_sem, ↓reduceIte, Int.reduceEq, Int.reduceLT, Int.reduceLE, List.reduceReplicate, intA, setT_nil, setT_cons, ↓boolP_bool, ↓iteB_true, ↓iteB_false, hlt3, hcv, hlen, hrem, hm1, hw2, hm2, hir, hw, hyf.cells, hyf.flat, hyf.bound, hl.bound, hch.bound, hymf.bound, hbc, hmc2, htl, sizeP hMs, putP0 hMs, putP hMs, settleP0 hMs, settleP hMs, rowP0 hMs, rowP hMs, storeP0 hMs hlkM, storeP hMs hlkM, List.length_nil, Nat.add_zero, Nat.zero_add, hf1, appTo_vs0, List.flatMap_nil, List.flatMap_cons, List.isEmpty_nil, List.isEmpty_cons, List.all_nil, List.append_nil]
          rw [appTo_own (m := 0) (e' := 53) (cs := zi.flatMap AV.cells) (hrp _) (by rw [hzl2]) (by show H.lock ≤ b; rw [hM.lock]; omega) hfi (by omega) (by omega)]
          rw [putLo hb3, hbc]
          change bindO (some (AV.sl b (v + 1) 0 (i + 1) none, (H.put b (.cells (v + 1) 0 53 2 true (zi.flatMap AV.cells ++ [.v (.int .i64 c.1), y]))).plus _)) _
          change MR X (H.put b (.cells (v + 1) 0 53 2 true (zi.flatMap AV.cells ++ [.v (.int .i64 c.1), y]))) _ _ at hmore
          have hNZ : (H.put b (.cells (v + 1) 0 53 2 true (zi.flatMap AV.cells ++ [.v (.int .i64 c.1), y]))).size = M := by rw [put_sizeI _ hb3]; exact hMs
          generalize H.put b (.cells (v + 1) 0 53 2 true (zi.flatMap AV.cells ++ [.v (.int .i64 c.1), y])) = Z at hmore hNZ ⊢
          simp -implicitDefEqProofs only [go_sem, ↓reduceIte, Int.reduceEq, Int.reduceLT, Int.reduceLE, List.reduceReplicate, intA, setT_nil, setT_cons, ↓boolP_bool, ↓iteB_true, ↓iteB_false, hw, sizeP hNZ, settleP0 hNZ, settleP hNZ]
          exact ⟨μ - 1, by omega, i + 1, _, by omega, rfl, by rw [htk]; exact (hmore.plus _).trim (by omega) (by rw [plus_size]; omega) _ _ (le_boundL (by simp))⟩
      · obtain rfl : i = cs.length := by omega
        rw [List.take_of_length_le (by rw [rot_len]; omega)] at hM
        have hcs5 : cs.length ≤ 5 := by omega
        have htr : ∀ vs ms, (H.plus []).trim M vs ms = H.plus [] := fun vs ms => by rw [plus_nil, ← hMs, trim_size]
        have h32t : ∀ (me : FuncId) (d : Option Tmp) (E : List (Option AObj)), callA Cs (lim Cs) me 32 d [.agg [ch], out] (H.plus E) = some (.tup [plsV (doubtL cs), .v (.int .i64 0)], H.plus E) := by
          intro me d E
          rcases hM.done with ⟨h0, rfl⟩ | ⟨h0, b, v, hb1, hb3, rfl, hrow⟩
          · have e1 : zs = [] := by
              have h := congrArg List.length h0
              rw [rot_len] at h
              exact List.length_eq_zero_iff.1 h
            have e2 : cs = [] := List.length_eq_zero_iff.1 (by rw [hzl, e1]; rfl)
            rw [e2]; exact h32n me d _
          · have hk : o % cs.length < cs.length := Nat.mod_lt _ (by
              rcases Nat.eq_zero_or_pos cs.length with h | h
              · exact absurd (List.length_eq_zero_iff.1 (by rw [rot_len]; omega)) h0
              · exact h)
            have hz3 := rot_all hz rfl hk
            have hR3 : ∀ c ∈ cs.drop (o % cs.length) ++ cs.take (o % cs.length), Right t c.1 c.2 := fun c hc => hR c ((rot_mem cs _ c).2 hc)
            have hA3 := (cpsC_facts hz3).2.2.2
            have hrl : (zs.drop (o % cs.length) ++ zs.take (o % cs.length)).length = cs.length := by rw [rot_len]; exact hzl.symm
            have h := call32L ht htx hch hall (cpsOk_of hs ht htx hch hall hz3 hR3) (by rw [rot_len]; exact hcs5) (rdb_row (X := H.plus E) (c := none) (Nat.lt_of_lt_of_le hb3 (by rw [plus_size]; exact Nat.le_add_right _ _)) (by rw [rowLo hb3]; exact hrow) hA3) me d
            rw [doubtL_same (ds := cs) fun c => (rot_mem cs _ c).symm] at h
            exact h
        have hdA : (doubtL cs).length < 2 ^ 62 := by
          have h1 := onceL_le (srtP (allD cs))
          rw [srtP_len] at h1
          have h2 := allD_len (cs := cs) fun c hc => by have := (hR c hc).len; omega
          unfold doubtL; omega
        have h33 : ∀ (me : FuncId) (d : Option Tmp) (H : Heap), callA Cs (lim Cs) me 33 d [plsV (doubtL cs), plsV (doubtL cs)] H = some (.v (.bool true), H) := fun me d H => (ans33 (doubtL cs) hdA).call extS_33 (pureS_33 _ _) (by simp only [boundL_cons, plsV_bound, boundL_nil]; rfl) H
        have hX0' : ∀ E, (H.plus E).row 0 0 = some (0, 24, 1, false, [ch]) := fun E => get_row (((hM.plus E).low 0 (by omega)).trans hX0)
        have hsA := plsV_sl (doubtL cs)
        have hsB := plsV_sl (doubtL (cs ++ [mo]))
        have hsC := plsV_sl (doubtL [mo])
        have hlA := hsA.len
        have hlB := hsB.len
        have hlC := hsC.len
        rw [List.length_map] at hlA hlB hlC
        have hl0 : slLen (plsV (doubtL [])) = some (.v (.int .i64 0)) := rfl
        rw [← plus_nil H]
        simp -implicitDefEqProofs only [go_sem, ↓reduceIte, Int.reduceEq, Int.reduceLT, Int.reduceLE, List.reduceReplicate, intA, setT_nil, setT_cons, ↓boolP_bool, ↓iteB_true, ↓iteB_false, hlt3, htr, h32t, h33, hX0', hl0, hlA, hlB, hlC, hch.cells, hch.bound, sizeP hMs, putP0 hMs, putP hMs, settleP0 hMs, settleP hMs, rowP0 hMs, rowP hMs, storeP0 hMs hlkM, storeP hMs hlkM, List.length_nil, Nat.add_zero, Nat.zero_add]
        have hdB : (doubtL (cs ++ [mo])).length < 2 ^ 62 := by
          have h1 := onceL_le (srtP (allD (cs ++ [mo])))
          rw [srtP_len] at h1
          have h2 := allD_len (cs := cs ++ [mo]) fun c hc => by have := (hR2 c hc).len; omega
          unfold doubtL; omega
        have hdC : (doubtL [mo]).length < 2 ^ 62 := by
          have h1 := onceL_le (srtP (allD [mo]))
          rw [srtP_len] at h1
          have h2 := allD_len (cs := [mo]) fun c hc => by have := (hRm1 c hc).len; omega
          simp only [List.length_cons, List.length_nil] at h2
          unfold doubtL; omega
        have hAB : ∀ p ∈ doubtL cs, p ∈ doubtL (cs ++ [mo]) := doubtL_sub fun c hc => List.mem_append_left _ hc
        have hCB : ∀ p ∈ doubtL [mo], p ∈ doubtL (cs ++ [mo]) := doubtL_sub fun c hc => List.mem_append_right _ hc
        have hBA : ∀ p ∈ doubtL (cs ++ [mo]), p ∈ doubtL cs ∨ p ∈ doubtL [mo] := fun p hp => by
          obtain ⟨c, hc, hd⟩ := doubtL_mem.1 hp
          rcases List.mem_append.1 hc with h | h
          · exact Or.inl (doubtL_mem.2 ⟨c, h, hd⟩)
          · exact Or.inr (doubtL_mem.2 ⟨c, h, hd⟩)
        have hnA := doubtL_nodup cs
        have hnB := doubtL_nodup (cs ++ [mo])
        have hnC := doubtL_nodup [mo]
        have hfe := filter_len_eq hnA hnB hAB
        have hle := nodup_sub_len hnC hCB
        generalize doubtL cs = A at *
        generalize doubtL (cs ++ [mo]) = B at *
        generalize doubtL [mo] = C at *
        have hHl : (H.plus []).lock ≤ (H.plus []).size := by rw [plus_nil, hMs]; exact hlkM
        generalize H.plus [] = G at hHl ⊢
        refine Lp_rule (P := fun μ a H => ∃ (i n : Nat), i + μ = B.length ∧ n = ((B.take i).filter fun a => decide (a ∈ A)).length ∧ n ≤ i ∧ a = ⟨202, [(0, .agg [ch]), (1, lx), (2, .agg [.v (.int .i64 mo.1), ym]), (3, .v (.int .u8 o)), (4, .ptr 0 0 0), (6, .ptr 1 0 0), (8, .v (.bool false)), (9, .v (.bool true)), (50, .v (.bool false)), (52, lx), (53, intA cs.length), (54, intA cs.length), (12, plsV A), (13, intA 0), (14, plsV B), (15, intA 0), (16, plsV C), (17, intA 0), (18, plsV (doubtL [])), (19, intA 0), (20, out), (94, intA cs.length), (95, intA cs.length), (22, plsV A), (23, intA 0), (149, .v (.bool false)), (24, intA n), (150, plsV B), (151, intA B.length), (152, intA i)], []⟩ ∧ H.lock ≤ H.size) ?_ B.length _ _ ⟨0, 0, by omega, rfl, Nat.le_refl _, rfl, hHl⟩
        clear hHl
        rintro μ G1 H1 ⟨i, n, hi, hn, hni, rfl, hHl⟩
        obtain ⟨N, hN⟩ : ∃ N, H1.size = N := ⟨_, rfl⟩
        rw [hN] at hHl
        by_cases hlt4 : (i : Int) < (B.length : Int)
        · obtain ⟨q, hq⟩ := at_lt B i (by omega)
          have hw := wrap_succ i (by omega)
          have hw2 := wrap_succ n (by omega)
          have hiq := hsB.idx (show (B.map p3V)[i]? = some (p3V q) by rw [List.getElem?_map, hq]; rfl)
          unfold p3V intA at hiq
          rw [← plus_nil H1]
          simp -implicitDefEqProofs only [go_sem, ↓reduceIte, Int.reduceEq, Int.reduceLT, Int.reduceLE, List.reduceReplicate, intA, setT_nil, setT_cons, ↓boolP_bool, ↓iteB_true, ↓iteB_false, hlt4, hiq, hlA, hlB, hlC, plsV_bound, sizeP hN, putP0 hN, putP hN, settleP0 hN, settleP hN, rowP0 hN, rowP hN, storeP0 hN hHl, storeP hN hHl, List.length_nil, Nat.add_zero, Nat.zero_add]
          have hmq := List.mem_of_getElem? hq
          have hcount : ((B.take (i + 1)).filter fun a => decide (a ∈ A)).length = n + (if q ∈ A then 1 else 0) := by
            rw [List.take_add_one, hq, List.filter_append, List.length_append, ← hn]
            by_cases h : q ∈ A <;> simp [h]
          have hbx : BX N (H1.plus [some (.cells 0 0 32 1 false [.v (.int .i64 q.1), .v (.int .i64 q.2.1), .v (.int .i64 q.2.2)])]) q := ⟨hHl, by rw [plus_size]; simp only [List.length_cons, List.length_nil]; omega, by rw [plus_get_hi _ (by omega), hN, Nat.sub_self]; rfl⟩
          generalize H1.plus [some (.cells 0 0 32 1 false [.v (.int .i64 q.1), .v (.int .i64 q.2.1), .v (.int .i64 q.2.2)])] = G2 at hbx ⊢
          refine Lp_rule (P := fun μ a H => ∃ (j : Nat) (f : Bool), j + μ = A.length ∧ f = (A.take j).any (fun p => decide (q = p)) ∧ a = ⟨202, [(0, .agg [ch]), (1, lx), (2, .agg [.v (.int .i64 mo.1), ym]), (3, .v (.int .u8 o)), (4, .ptr 0 0 0), (6, .ptr 1 0 0), (8, .v (.bool false)), (9, .v (.bool true)), (50, .v (.bool false)), (52, lx), (53, intA cs.length), (54, intA cs.length), (12, plsV A), (13, intA 0), (14, plsV B), (15, intA 0), (16, plsV C), (17, intA 0), (18, plsV (doubtL [])), (19, intA 0), (20, out), (94, intA cs.length), (95, intA cs.length), (22, plsV A), (23, intA 0), (149, .v (.bool false)), (24, intA n), (150, plsV B), (151, intA B.length), (152, intA i), (153, .v (.bool true)), (26, .ptr N 0 0), (27, .v (.bool f)), (156, plsV A), (157, intA A.length), (158, intA j)], []⟩ ∧ BX N H q) ?_ A.length _ _ ⟨0, false, by omega, rfl, rfl, hbx⟩
          clear hbx G2
          rintro μ2 _ H2 ⟨j, f, hj, hf, rfl, hbx⟩
          obtain ⟨M2, hM2⟩ : ∃ M, H2.size = M := ⟨_, rfl⟩
          have hl2 : H2.lock ≤ M2 := by have := hbx.lock; have := hbx.lt; omega
          have hr2 : ∀ E, (H2.plus E).row N 0 = some (0, 32, 1, false, [.v (.int .i64 q.1), .v (.int .i64 q.2.1), .v (.int .i64 q.2.2)]) := fun E => by rw [rowLo hbx.lt]; exact get_row hbx.get
          rw [← plus_nil H2]
          by_cases hlt5 : (j : Int) < (A.length : Int)
          · obtain ⟨p, hp⟩ := at_lt A j (by omega)
            have hwj := wrap_succ j (by omega)
            have hip := hsA.idx (show (A.map p3V)[j]? = some (p3V p) by rw [List.getElem?_map, hp]; rfl)
            unfold p3V intA at hip
            have hany : (A.take (j + 1)).any (fun p => decide (q = p)) = (f || decide (q = p)) := by
              rw [List.take_add_one, hp, List.any_append, ← hf]; simp
            have heq := eqP_iff q p
            cases f
            · simp -implicitDefEqProofs only [go_sem, ↓reduceIte, Int.reduceEq, Int.reduceLT, Int.reduceLE, List.reduceReplicate, intA, setT_nil, setT_cons, ↓boolP_bool, ↓iteB_true, ↓iteB_false, hlt5, hip, hr2, eq32, heq, hwj, plsV_bound, sizeP hM2, putP0 hM2, putP hM2, settleP0 hM2, settleP hM2, rowP0 hM2, rowP hM2, storeP0 hM2 hl2, storeP hM2 hl2, List.length_nil, Nat.add_zero, Nat.zero_add]
              exact ⟨μ2 - 1, by omega, j + 1, _, by omega, by rw [hany]; rfl, rfl, (hbx.plus _).trim (by have := hbx.lt; omega) (by rw [plus_size]; omega) _ _⟩
            · simp -implicitDefEqProofs only [go_sem, ↓reduceIte, Int.reduceEq, Int.reduceLT, Int.reduceLE, List.reduceReplicate, intA, setT_nil, setT_cons, ↓boolP_bool, ↓iteB_true, ↓iteB_false, hlt5, hip, hr2, eq32, heq, hwj, plsV_bound, sizeP hM2, putP0 hM2, putP hM2, settleP0 hM2, settleP hM2, rowP0 hM2, rowP hM2, storeP0 hM2 hl2, storeP hM2 hl2, List.length_nil, Nat.add_zero, Nat.zero_add]
              exact ⟨μ2 - 1, by omega, j + 1, _, by omega, by rw [hany]; rfl, rfl, (hbx.plus _).trim (by have := hbx.lt; omega) (by rw [plus_size]; omega) _ _⟩
          · obtain rfl : j = A.length := by omega
            rw [List.take_length] at hf
            have hfA : f = decide (q ∈ A) := by
              rw [hf, Bool.eq_iff_iff]
              simp only [List.any_eq_true, decide_eq_true_eq]
              exact ⟨fun ⟨x, h, e⟩ => e ▸ h, fun h => ⟨q, h, rfl⟩⟩
            cases f
            · simp -implicitDefEqProofs only [go_sem, ↓reduceIte, Int.reduceEq, Int.reduceLT, Int.reduceLE, List.reduceReplicate, intA, setT_nil, setT_cons, ↓boolP_bool, ↓iteB_true, ↓iteB_false, hlt5, hr2, hw2, hlC, plsV_bound, sizeP hM2, putP0 hM2, putP hM2, settleP0 hM2, settleP hM2, rowP0 hM2, rowP hM2, storeP0 hM2 hl2, storeP hM2 hl2, List.length_nil, Nat.add_zero, Nat.zero_add]
              have hbx3 : ∀ vs, BX N ((H2.plus []).trim M2 vs []) q := fun vs => (hbx.plus _).trim (by have := hbx.lt; omega) (by rw [plus_size]; omega) _ _
              have hqA : ¬ q ∈ A := of_decide_eq_false hfA.symm
              refine Lp_rule (P := fun μ a H => ∃ (j : Nat) (f : Bool), j + μ = C.length ∧ f = (false || (C.take j).any (fun p => decide (q = p))) ∧ a = ⟨202, [(0, .agg [ch]), (1, lx), (2, .agg [.v (.int .i64 mo.1), ym]), (3, .v (.int .u8 o)), (4, .ptr 0 0 0), (6, .ptr 1 0 0), (8, .v (.bool false)), (9, .v (.bool true)), (50, .v (.bool false)), (52, lx), (53, intA cs.length), (54, intA cs.length), (12, plsV A), (13, intA 0), (14, plsV B), (15, intA 0), (16, plsV C), (17, intA 0), (18, plsV (doubtL [])), (19, intA 0), (20, out), (94, intA cs.length), (95, intA cs.length), (22, plsV A), (23, intA 0), (149, .v (.bool false)), (24, intA (n : Nat)), (150, plsV B), (151, intA B.length), (152, intA i), (153, .v (.bool true)), (26, .ptr N 0 0), (27, .v (.bool f)), (156, plsV A), (157, intA A.length), (158, intA A.length), (169, .v (.bool false)), (172, plsV C), (173, intA C.length), (174, intA j)], []⟩ ∧ BX N H q) ?_ C.length _ _ ⟨0, false, by omega, rfl, rfl, hbx3 _⟩
              clear hbx3 hbx hr2 hl2 hlt5
              rintro μ3 _ H3 ⟨j, f, hj3, hf3, rfl, hbx⟩
              obtain ⟨M3, hM3⟩ : ∃ M, H3.size = M := ⟨_, rfl⟩
              have hl3 : H3.lock ≤ M3 := by have := hbx.lock; have := hbx.lt; omega
              have hr3 : ∀ E, (H3.plus E).row N 0 = some (0, 32, 1, false, [.v (.int .i64 q.1), .v (.int .i64 q.2.1), .v (.int .i64 q.2.2)]) := fun E => by rw [rowLo hbx.lt]; exact get_row hbx.get
              rw [← plus_nil H3]
              by_cases hlt6 : (j : Int) < (C.length : Int)
              · obtain ⟨p, hp⟩ := at_lt C j (by omega)
                have hwj := wrap_succ j (by omega)
                have hip := hsC.idx (show (C.map p3V)[j]? = some (p3V p) by rw [List.getElem?_map, hp]; rfl)
                unfold p3V intA at hip
                have hany : (false || (C.take (j + 1)).any (fun p => decide (q = p))) = (f || decide (q = p)) := by
                  rw [List.take_add_one, hp, List.any_append, ← Bool.or_assoc, ← hf3]; simp
                have heq := eqP_iff q p
                cases f
                · simp -implicitDefEqProofs only [go_sem, ↓reduceIte, Int.reduceEq, Int.reduceLT, Int.reduceLE, List.reduceReplicate, intA, setT_nil, setT_cons, ↓boolP_bool, ↓iteB_true, ↓iteB_false, hlt6, hip, hr3, eq32, heq, hwj, plsV_bound, sizeP hM3, putP0 hM3, putP hM3, settleP0 hM3, settleP hM3, rowP0 hM3, rowP hM3, storeP0 hM3 hl3, storeP hM3 hl3, List.length_nil, Nat.add_zero, Nat.zero_add]
                  exact ⟨μ3 - 1, by omega, j + 1, _, by omega, hany.symm, rfl, (hbx.plus _).trim (by have := hbx.lt; omega) (by rw [plus_size]; omega) _ _⟩
                · simp -implicitDefEqProofs only [go_sem, ↓reduceIte, Int.reduceEq, Int.reduceLT, Int.reduceLE, List.reduceReplicate, intA, setT_nil, setT_cons, ↓boolP_bool, ↓iteB_true, ↓iteB_false, hlt6, hip, hr3, eq32, heq, hwj, plsV_bound, sizeP hM3, putP0 hM3, putP hM3, settleP0 hM3, settleP hM3, rowP0 hM3, rowP hM3, storeP0 hM3 hl3, storeP hM3 hl3, List.length_nil, Nat.add_zero, Nat.zero_add]
                  exact ⟨μ3 - 1, by omega, j + 1, _, by omega, hany.symm, rfl, (hbx.plus _).trim (by have := hbx.lt; omega) (by rw [plus_size]; omega) _ _⟩
              · obtain rfl : j = C.length := by omega
                rw [List.take_length] at hf3
                have hft : f = true := by
                  rw [hf3]
                  rcases hBA q hmq with h | h
                  · exact absurd h hqA
                  · exact List.any_eq_true.2 ⟨q, h, decide_eq_true rfl⟩
                subst hft
                simp -implicitDefEqProofs only [go_sem, ↓reduceIte, Int.reduceEq, Int.reduceLT, Int.reduceLE, List.reduceReplicate, intA, setT_nil, setT_cons, ↓boolP_bool, ↓iteB_true, ↓iteB_false, hlt6, hr3, hw, plsV_bound, sizeP hM3, putP0 hM3, putP hM3, settleP0 hM3, settleP hM3, rowP0 hM3, rowP hM3, storeP0 hM3 hl3, storeP hM3 hl3, List.length_nil, Nat.add_zero, Nat.zero_add]
                refine ⟨μ - 1, by omega, i + 1, n, by omega, by rw [hcount]; simp [hqA], by omega, rfl, ?_⟩
                rw [trim_lock, trim_lock, plus_lock]
                exact Nat.le_trans hbx.lock (trim_size' (Nat.le_of_lt (((hbx.plus []).trim (n := M3) (by have := hbx.lt; omega) (by rw [plus_size]; omega) _ _).lt)))
            · simp -implicitDefEqProofs only [go_sem, ↓reduceIte, Int.reduceEq, Int.reduceLT, Int.reduceLE, List.reduceReplicate, intA, setT_nil, setT_cons, ↓boolP_bool, ↓iteB_true, ↓iteB_false, hlt5, hr2, hw2, hlC, plsV_bound, sizeP hM2, putP0 hM2, putP hM2, settleP0 hM2, settleP hM2, rowP0 hM2, rowP hM2, storeP0 hM2 hl2, storeP hM2 hl2, List.length_nil, Nat.add_zero, Nat.zero_add]
              have hbx3 : ∀ vs, BX N ((H2.plus []).trim M2 vs []) q := fun vs => (hbx.plus _).trim (by have := hbx.lt; omega) (by rw [plus_size]; omega) _ _
              have hqA : q ∈ A := of_decide_eq_true hfA.symm
              refine Lp_rule (P := fun μ a H => ∃ (j : Nat) (f : Bool), j + μ = C.length ∧ f = (true || (C.take j).any (fun p => decide (q = p))) ∧ a = ⟨202, [(0, .agg [ch]), (1, lx), (2, .agg [.v (.int .i64 mo.1), ym]), (3, .v (.int .u8 o)), (4, .ptr 0 0 0), (6, .ptr 1 0 0), (8, .v (.bool false)), (9, .v (.bool true)), (50, .v (.bool false)), (52, lx), (53, intA cs.length), (54, intA cs.length), (12, plsV A), (13, intA 0), (14, plsV B), (15, intA 0), (16, plsV C), (17, intA 0), (18, plsV (doubtL [])), (19, intA 0), (20, out), (94, intA cs.length), (95, intA cs.length), (22, plsV A), (23, intA 0), (149, .v (.bool false)), (24, intA ((n + 1) : Nat)), (150, plsV B), (151, intA B.length), (152, intA i), (153, .v (.bool true)), (26, .ptr N 0 0), (27, .v (.bool f)), (156, plsV A), (157, intA A.length), (158, intA A.length), (169, .v (.bool true)), (172, plsV C), (173, intA C.length), (174, intA j)], []⟩ ∧ BX N H q) ?_ C.length _ _ ⟨0, true, by omega, rfl, rfl, hbx3 _⟩
              clear hbx3 hbx hr2 hl2 hlt5
              rintro μ3 _ H3 ⟨j, f, hj3, hf3, rfl, hbx⟩
              obtain ⟨M3, hM3⟩ : ∃ M, H3.size = M := ⟨_, rfl⟩
              have hl3 : H3.lock ≤ M3 := by have := hbx.lock; have := hbx.lt; omega
              have hr3 : ∀ E, (H3.plus E).row N 0 = some (0, 32, 1, false, [.v (.int .i64 q.1), .v (.int .i64 q.2.1), .v (.int .i64 q.2.2)]) := fun E => by rw [rowLo hbx.lt]; exact get_row hbx.get
              rw [← plus_nil H3]
              by_cases hlt6 : (j : Int) < (C.length : Int)
              · obtain ⟨p, hp⟩ := at_lt C j (by omega)
                have hwj := wrap_succ j (by omega)
                have hip := hsC.idx (show (C.map p3V)[j]? = some (p3V p) by rw [List.getElem?_map, hp]; rfl)
                unfold p3V intA at hip
                have hany : (true || (C.take (j + 1)).any (fun p => decide (q = p))) = (f || decide (q = p)) := by
                  rw [List.take_add_one, hp, List.any_append, ← Bool.or_assoc, ← hf3]; simp
                have heq := eqP_iff q p
                cases f
                · simp -implicitDefEqProofs only [go_sem, ↓reduceIte, Int.reduceEq, Int.reduceLT, Int.reduceLE, List.reduceReplicate, intA, setT_nil, setT_cons, ↓boolP_bool, ↓iteB_true, ↓iteB_false, hlt6, hip, hr3, eq32, heq, hwj, plsV_bound, sizeP hM3, putP0 hM3, putP hM3, settleP0 hM3, settleP hM3, rowP0 hM3, rowP hM3, storeP0 hM3 hl3, storeP hM3 hl3, List.length_nil, Nat.add_zero, Nat.zero_add]
                  exact ⟨μ3 - 1, by omega, j + 1, _, by omega, hany.symm, rfl, (hbx.plus _).trim (by have := hbx.lt; omega) (by rw [plus_size]; omega) _ _⟩
                · simp -implicitDefEqProofs only [go_sem, ↓reduceIte, Int.reduceEq, Int.reduceLT, Int.reduceLE, List.reduceReplicate, intA, setT_nil, setT_cons, ↓boolP_bool, ↓iteB_true, ↓iteB_false, hlt6, hip, hr3, eq32, heq, hwj, plsV_bound, sizeP hM3, putP0 hM3, putP hM3, settleP0 hM3, settleP hM3, rowP0 hM3, rowP hM3, storeP0 hM3 hl3, storeP hM3 hl3, List.length_nil, Nat.add_zero, Nat.zero_add]
                  exact ⟨μ3 - 1, by omega, j + 1, _, by omega, hany.symm, rfl, (hbx.plus _).trim (by have := hbx.lt; omega) (by rw [plus_size]; omega) _ _⟩
              · obtain rfl : j = C.length := by omega
                rw [List.take_length] at hf3
                have hft : f = true := by
                  rw [hf3]
                  rfl
                subst hft
                simp -implicitDefEqProofs only [go_sem, ↓reduceIte, Int.reduceEq, Int.reduceLT, Int.reduceLE, List.reduceReplicate, intA, setT_nil, setT_cons, ↓boolP_bool, ↓iteB_true, ↓iteB_false, hlt6, hr3, hw, plsV_bound, sizeP hM3, putP0 hM3, putP hM3, settleP0 hM3, settleP hM3, rowP0 hM3, rowP hM3, storeP0 hM3 hl3, storeP hM3 hl3, List.length_nil, Nat.add_zero, Nat.zero_add]
                refine ⟨μ - 1, by omega, i + 1, (n + 1), by omega, by rw [hcount]; simp [hqA], by omega, rfl, ?_⟩
                rw [trim_lock, trim_lock, plus_lock]
                exact Nat.le_trans hbx.lock (trim_size' (Nat.le_of_lt (((hbx.plus []).trim (n := M3) (by have := hbx.lt; omega) (by rw [plus_size]; omega) _ _).lt)))
        · obtain rfl : i = B.length := by omega
          rw [List.take_length] at hn
          replace hn := hn.trans ((congrArg List.length (List.filter_congr (fun a _ => decide_eq_decide.2 Iff.rfl))).trans hfe)
          subst hn
          have hle' : ((C.length : Int) ≤ (B.length : Int)) := by omega
          simp -implicitDefEqProofs only [go_sem, ↓reduceIte, Int.reduceEq, Int.reduceLT, Int.reduceLE, List.reduceReplicate, intA, setT_nil, setT_cons, ↓boolP_bool, ↓iteB_true, ↓iteB_false, hlt4, hlA, hlB, hlC, hle', plsV_bound, beq_self_eq_true, decide_true]
          skip
end Go.Ev
