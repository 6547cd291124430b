/- What the proof of this claim stands on, part 5: an evaluator of the model, proved right, and what it answers for functions of the program. -/
import Derived.Test.YtfghfkjjikodnaaGreatPk03
set_option linter.unusedSimpArgs false
namespace Go.Ev
open Go.Proofs
set_option maxRecDepth 100000
set_option linter.unusedSimpArgs false
attribute [local irreducible] Wp WpS
def idOf (y : AV) : AV := match y with | .agg (i :: _) => i | _ => .v .nilFunc
def stAt (xs : List AV) (wf : Nat → Nat → AV) (i k : Nat) : St55 := xs.mapIdx fun t y => (idOf y, (List.range (if t < i then (linesOf y).length else if t = i then k else 0)).map (wf t))
theorem cells_set : ∀ {cs : List Cst} {i : Nat} {c0 : Cst}, cs[i]? = some c0 → ∀ (w : AV) (b v : Nat) {x : AV}, x = .sl b v 0 (c0.ls.length + 1) none →
    (cs.flatMap Cst.cells).take (i * 2 + 1) ++ [x] ++ (cs.flatMap Cst.cells).drop (i * 2 + 1 + 1) = (cs.set i ⟨c0.id, c0.ls ++ [w], b, v⟩).flatMap Cst.cells
  | [], _, _, h, _, _, _, _, _ => by simp at h
  | y :: r, 0, c0, h, w, b, v, x, hx => by
    simp at h; subst h; subst hx
    simp [Cst.cells, Cst.sl]
  | y :: r, i + 1, c0, h, w, b, v, x, hx => by
    have ih := cells_set (cs := r) (i := i) (c0 := c0) (by simpa using h) w b v hx
    rw [List.set_cons_succ, List.flatMap_cons, List.flatMap_cons, ← ih]
    rw [show (i + 1) * 2 + 1 = (i * 2 + 1) + 2 by omega]
    show (y.cells ++ _).take _ ++ [x] ++ (y.cells ++ _).drop _ = _
    simp [Cst.cells]
theorem ofV_bound (l : List Rd) : bound (ofV l) = 0 := by cases l <;> rfl
theorem storeLoK {X : Heap} {b v k m e sz : Nat} {g : Bool} {cs : List AV} {x : AV} (hb : b < X.size) (hlk : X.lock ≤ b) (hr : X.row b v = some (m, e, sz, g, cs)) (hx : k + 1 ≤ cs.length) (hf : x.flat = true) (E : List (Option AObj)) :
    storeCells (X.plus E) b v k [x] = some ((X.put b (.cells v (Nat.max m (bound x)) e sz g (splice k [x] cs))).plus E) := by
  unfold storeCells
  rw [rowLo hb, hr]
  have hl : (X.plus E).lock ≤ b := hlk
  have hbl : boundL [x] = bound x := by simp only [boundL]; exact Nat.max_zero _
  simp only [hl, hbl, List.length_singleton, hx, List.all_cons, List.all_nil, hf, Bool.and_true, and_self, if_true, putLo hb]
theorem cells_len : ∀ cs : List Cst, (cs.flatMap Cst.cells).length = 2 * cs.length
  | [] => rfl
  | c :: r => by rw [List.flatMap_cons, List.length_append, cells_len r]; simp [Cst.cells]; omega
theorem cells_get : ∀ {cs : List Cst} {i : Nat} {c : Cst}, cs[i]? = some c → (cs.flatMap Cst.cells)[2 * i + 1]? = some c.sl
  | [], _, _, h => by simp at h
  | x :: r, 0, c, h => by simp at h; subst h; rfl
  | x :: r, i + 1, c, h => by
    rw [List.flatMap_cons, show 2 * (i + 1) + 1 = (2 * i + 1) + 2 by omega, List.getElem?_append_right (by simp [Cst.cells])]
    simpa [Cst.cells] using cells_get (cs := r) (i := i) (by simpa using h)
def okP (xs : List AV) (s : St55) (x : List AV) : Prop := ∃ (i k : Nat) (y z : AV) (c : AV × List AV), xs[i]? = some y ∧ (linesOf y)[k]? = some z ∧ x = [placeA i k 0, z] ∧ s[i]? = some c ∧ c.2.length = k
theorem stAt_get (xs : List AV) (wf : Nat → Nat → AV) (i k t : Nat) : (stAt xs wf i k)[t]? = (xs[t]?).map fun y => (idOf y, (List.range (if t < i then (linesOf y).length else if t = i then k else 0)).map (wf t)) := by
  unfold stAt; rw [List.getElem?_mapIdx]
theorem stp_at {xs : List AV} {wf : Nat → Nat → AV} {i k : Nat} {y : AV} (hy : xs[i]? = some y) (z : AV) : stp55 wf (stAt xs wf i k) [placeA i k 0, z] = (.normal, stAt xs wf i (k + 1)) := by
  unfold stp55 placeA intA
  simp only [Int.toNat_natCast]
  congr 1
  apply List.ext_getElem?
  intro t
  rw [List.getElem?_modify, stAt_get, stAt_get]
  by_cases hti : i = t
  · subst hti; rw [hy]; simp [List.range_succ]
  · cases xs[t]? with
    | none => rfl
    | some w => simp [hti, show ¬ t = i from fun h => hti h.symm]
theorem stAt_next {xs : List AV} {wf : Nat → Nat → AV} {i : Nat} {y : AV} (hy : xs[i]? = some y) : stAt xs wf i (linesOf y).length = stAt xs wf (i + 1) 0 := by
  apply List.ext_getElem?
  intro t
  rw [stAt_get, stAt_get]
  rcases Nat.lt_trichotomy t i with h | h | h
  · simp [h, show t < i + 1 by omega]
  · subst h; rw [hy]; simp
  · cases xs[t]? with
    | none => rfl
    | some w => simp [show ¬ t < i by omega, show ¬ t = i by omega, show ¬ t < i + 1 by omega]
theorem run_line {xs : List AV} {wf : Nat → Nat → AV} {i : Nat} {y : AV} (hy : xs[i]? = some y) (T : List (List AV)) (F : AExit × St55)
    (h : okRun (fun s x => (isGo (stp55 wf s x).1, (stp55 wf s x).2)) (okP xs) T (stAt xs wf i (linesOf y).length) ∧ foldE (stp55 wf) T (stAt xs wf i (linesOf y).length) = F) :
    ∀ (r : List AV) (k : Nat), r = (linesOf y).drop k → k ≤ (linesOf y).length →
      okRun (fun s x => (isGo (stp55 wf s x).1, (stp55 wf s x).2)) (okP xs) (lineIts i k r ++ T) (stAt xs wf i k) ∧ foldE (stp55 wf) (lineIts i k r ++ T) (stAt xs wf i k) = F
  | [], k, hr, hk => by
    have : k = (linesOf y).length := by
      have := congrArg List.length hr
      rw [List.length_drop] at this; simp at this; omega
    subst this; exact h
  | x :: r, k, hr, hk => by
    have hlt : k < (linesOf y).length := by
      have := congrArg List.length hr
      rw [List.length_drop] at this; simp at this; omega
    have hx : (linesOf y)[k]? = some x := by
      rw [List.drop_eq_getElem_cons hlt] at hr
      rw [List.getElem?_eq_getElem hlt, (List.cons.inj hr).1]
    have hr' : r = (linesOf y).drop (k + 1) := by
      rw [List.drop_eq_getElem_cons hlt] at hr; exact (List.cons.inj hr).2
    have ih := run_line hy T F h r (k + 1) hr' hlt
    have hs := stp_at (k := k) (wf := wf) hy x
    refine ⟨⟨⟨i, k, y, x, _, hy, hx, rfl, by rw [stAt_get, hy]; rfl, by simp⟩, fun _ => ?_⟩, ?_⟩
    · show okRun _ _ (lineIts i (k + 1) r ++ T) (stp55 wf (stAt xs wf i k) [placeA i k 0, x]).2
      rw [hs]; exact ih.1
    · show foldE (stp55 wf) ([placeA i k 0, x] :: (lineIts i (k + 1) r ++ T)) _ = _
      rw [foldE_go (by rw [hs]), hs]; exact ih.2
theorem run_chap {xs : List AV} {wf : Nat → Nat → AV} : ∀ (r : List AV) (i : Nat), r = xs.drop i → i ≤ xs.length →
    okRun (fun s x => (isGo (stp55 wf s x).1, (stp55 wf s x).2)) (okP xs) (chapIts i r) (stAt xs wf i 0) ∧ foldE (stp55 wf) (chapIts i r) (stAt xs wf i 0) = (.normal, stAt xs wf xs.length 0)
  | [], i, hr, hi => by
    have : i = xs.length := by
      have := congrArg List.length hr
      rw [List.length_drop] at this; simp at this; omega
    subst this; exact ⟨trivial, rfl⟩
  | y :: r, i, hr, hi => by
    have hlt : i < xs.length := by
      have := congrArg List.length hr
      rw [List.length_drop] at this; simp at this; omega
    rw [List.drop_eq_getElem_cons hlt] at hr
    have hy : xs[i]? = some y := by rw [List.getElem?_eq_getElem hlt, (List.cons.inj hr).1]
    have ih := run_chap (wf := wf) r (i + 1) (List.cons.inj hr).2 hlt
    exact run_line hy (chapIts (i + 1) r) _ (by rw [stAt_next hy]; exact ih) (linesOf y) 0 rfl (Nat.zero_le _)
theorem chId_cs {xs : List AV} (hall : ∀ y ∈ xs, OkCh y) : xs.flatMap chId = (xs.map fun y => (⟨idOf y, [], 0, 0⟩ : Cst)).flatMap Cst.cells := by
  induction xs with
  | nil => rfl
  | cons y r ih =>
    obtain ⟨a, b, c, rfl, -⟩ := hall y (by simp)
    rw [List.flatMap_cons, List.map_cons, List.flatMap_cons, ← ih (fun z hz => hall z (by simp [hz]))]
    rfl
def lnOf (ls : List AV) : AV := if ls = [] then .v (.slice none 0 0) else .vs 1 ls none
def out55 (s : St55) : AV := .agg [.vs 2 (s.map fun c => .agg [c.1, lnOf c.2]) none]
theorem cs0_of {xs : List AV} (hall : ∀ y ∈ xs, OkCh y) (wf : Nat → Nat → AV) : Cs55 (stAt xs wf 0 0) (xs.map fun y => ⟨idOf y, [], 0, 0⟩) 0 := by
  refine ⟨?_, ?_, ?_, ?_, ?_⟩
  · apply List.ext_getElem?
    intro t
    rw [stAt_get, List.map_map, List.getElem?_map]
    cases xs[t]? with
    | none => rfl
    | some w => simp
  · intro c hc h
    obtain ⟨y, hy, rfl⟩ := List.mem_map.1 hc
    exact absurd rfl h
  · intro i j c c' hc _ h
    obtain ⟨y, hy, rfl⟩ := List.mem_map.1 (List.mem_of_getElem? hc)
    exact absurd rfl h
  · intro c hc
    obtain ⟨y, hy, rfl⟩ := List.mem_map.1 hc
    obtain ⟨a, b, d, rfl, -⟩ := hall y hy
    exact ⟨a, rfl⟩
  · intro c hc
    obtain ⟨y, hy, rfl⟩ := List.mem_map.1 hc
    exact ⟨rfl, rfl⟩
theorem rows0 (xs : List AV) : rowsC (xs.map fun y => (⟨idOf y, [], 0, 0⟩ : Cst)) = [] := by
  cases h : rowsC (xs.map fun y => (⟨idOf y, [], 0, 0⟩ : Cst)) with
  | nil => rfl
  | cons p r =>
    obtain ⟨c, hc, hne, -⟩ := rowsC_mem.1 (show p ∈ rowsC _ by rw [h]; simp)
    obtain ⟨y, hy, rfl⟩ := List.mem_map.1 hc
    exact absurd rfl hne
set_option maxHeartbeats 2000000 in
theorem ans55x {e : Exts} (he : Quiet e) (xs : List AV) (ch : AV) (hch : SlOf 2 xs ch) (hall : ∀ y ∈ xs, OkCh y) (hlen : xs.length < 2 ^ 32) (h1 : 1 ≤ xs.length) (id : Int) (l : List Rd) (rs : AV) (hrs : RdsA l rs) (hln : l.length < 2 ^ 32) (wf : Nat → Nat → AV) (hwf : ∀ (i k : Nat) (y z : AV), xs[i]? = some y → (linesOf y)[k]? = some z → Ans (Cx e) 76 [z, ofV (l.filter (atLine i k 0))] (wf i k)) (hwc : ∀ (i k : Nat), (wf i k).flat = true ∧ (wf i k).cells = [wf i k] ∧ bound (wf i k) = 0) (hll : ∀ y ∈ xs, (linesOf y).length < 2 ^ 32) (hlb : ∀ y ∈ xs, ∀ z ∈ linesOf y, bound z = 0) (hx1000 : xs.length ≤ 1000) : Ans (Cx e) 55 [.agg [ch], .agg [intA id, rs]] (out55 (stAt xs wf xs.length 0)) := by
  unfold Ans
  have hrs0 := hrs
  have hrs : SlOf 5 (l.map rdV) rs := hrs
  rw [fn_step (fn_55 e) (show Tryz.f55.body = some _ from rfl)]
  simp -implicitDefEqProofs only [Tryz.f55, go_sem, ↓reduceIte, Int.reduceEq, Int.reduceLT, Int.reduceLE, List.reduceReplicate, intA, setT_nil, setT_cons, hch.cells, hch.flat, hch.bound, hch.len, hrs.cells, hrs.flat, hrs.bound]
  refine Lp_rule (P := fun μ a X => ∃ j, j + μ = xs.length ∧ a = ⟨53, [(0, .agg [ch]), (1, .agg [intA id, rs]), (2, .ptr 0 0 0), (3, .ptr 1 0 0), (4, .ptr 2 0 0), (5, .ptr 3 0 0), (13, ch), (14, intA xs.length), (15, intA j)], []⟩ ∧
    ((j = 0 ∧ X = ⟨[o55 79 [ch], o55 53 [intA id, rs], o55 24 [.v (.slice none 0 0)], o55 24 [.v (.slice none 0 0)]], 0⟩) ∨ ∃ c4 v, 1 ≤ j ∧ X = ⟨[o55 79 [ch], o55 53 [intA id, rs], o55 24 [.v (.slice none 0 0)], some (.cells 0 6 24 1 false [.sl 5 v 0 j none]), some (.cells 0 0 46 1 false c4), some (.cells v 0 46 2 true ((xs.take j).flatMap chId))], 0⟩)) ?_ xs.length _ _ ?_
  · rintro μ _ X ⟨j, hj, rfl, hX⟩
    cases μ with
    | zero =>
      obtain rfl : j = xs.length := by omega
      rcases hX with ⟨h0, -⟩ | ⟨c4, v, hj1, rfl⟩
      · omega
      · simp -implicitDefEqProofs only [go_sem, ↓reduceIte, Int.reduceEq, Int.reduceLT, Int.reduceLE, List.reduceReplicate, intA, setT_nil, setT_cons, Int.lt_irrefl, call64 he ch xs hch, trim_at, hch.bound, hrs.bound, hch.cells, hch.flat]
        refine wp_range2 (yields2_88 ch xs hch hall (by omega)) rfl (R55 xs.length ch id rs c4 v) (stp55 wf) (fun s => s.length = xs.length) (okP xs) (n0 := 6) (k := 0) (Nat.le_refl _) (Nat.zero_le _) ?_ (fun s m h => R55_anch s m h) (fun s m h => R55_free s m h) ?_ ?_ (stAt xs wf 0 0) (base55 xs.length ch id rs c4 v 0 (xs.map fun y => ⟨idOf y, [], 0, 0⟩) ++ rowsC (xs.map fun y => ⟨idOf y, [], 0, 0⟩)) ?_ ?_ ?_ ?_ rfl ?_
        · intro x hx
          obtain ⟨i, y, j, z, -, -, rfl⟩ := chapIts_of _ _ _ hx
          rfl
        · intro s x hs hx _
          obtain ⟨i, k, y, z, c, -, -, rfl, -, -⟩ := hx
          unfold stp55 placeA intA
          simp only [List.length_modify]; exact hs
        · intro L L' s m x X hL hs hx hxl hR hH hd0 hl1 hlk hsz
          obtain ⟨i, k, y, z, c, hy, hz, rfl, hc, hck⟩ := hx
          obtain ⟨cs, m5, hcs, rfl⟩ := hR
          have hsz : 8 ≤ X.size := hsz
          have hl1 : loopObj X 7 = some L := hl1
          have hd0 : X.get 6 = some .dfr := hd0
          generalize hN : X.size = N at *
          have hlkN : X.lock ≤ N := by rw [hlk]; exact Nat.zero_le _
          rw [← plus_nil X]
          simp -implicitDefEqProofs only [placeA, intA, go_sem, ↓reduceIte, Int.reduceEq, Int.reduceLT, Int.reduceLE, List.reduceReplicate, intA, setT_nil, setT_cons, sizeP hN, putP0 hN, putP hN, settleP0 hN, settleP hN, rowP0 hN, rowP hN, storeP0 hN hlkN, storeP hN hlkN]
          refine ⟨rfl, ?_, ?_⟩
          · refine get_loopObj ?_
            rw [plus_get _ (by omega)]; exact loopObj_getI hl1
          · rw [putLo (by omega)]
            have hf := R55_free (n := xs.length) (chv := ch) (id := id) (rs := rs) (c4 := c4) (v5 := v) _ _ ⟨cs, m5, hcs, rfl⟩
            have hH7 := hH.put (.loop L') (b := 7) (by omega) hf.2
            have hN7 : (X.put 7 (.loop L')).size = N := by rw [put_sizeI _ (by omega)]; exact hN
            have hlk7 : (X.put 7 (.loop L')).lock = 0 := hlk
            have hl7 : (X.put 7 (.loop L')).get 7 = some (.loop L') := put_get_eq _ (by omega)
            have hsm7 : ∀ b, b ≠ 7 → (X.put 7 (.loop L')).get b = X.get b := fun b hb => put_get_ne _ (by omega) hb
            generalize X.put 7 (.loop L') = Y at *
            have hlkY : Y.lock ≤ N := by rw [hlk7]; exact Nat.zero_le _
            have h1' : Y.row 1 0 = some (0, 53, 1, false, [intA id, rs]) := get_row (hH7 (1, _) (List.mem_append_left _ (by unfold base55; simp)))
            have h3' : Y.row 3 0 = some (6, 24, 1, false, [.sl 5 v 0 xs.length none]) := get_row (hH7 (3, _) (List.mem_append_left _ (by unfold base55; simp)))
            have h5' : Y.row 5 v = some (m5, 46, 2, true, cs.flatMap Cst.cells) := get_row (hH7 (5, _) (List.mem_append_left _ (by unfold base55; simp)))
            have hi : i < xs.length := (List.getElem?_eq_some_iff.1 hy).1
            have hr1 : ∀ E, (Y.plus E).row 1 0 = some (0, 53, 1, false, [.v (.int .i64 id), rs]) := fun E => by rw [rowLo (by omega)]; exact h1'
            have hr3 : ∀ E, (Y.plus E).row 3 0 = some (6, 24, 1, false, [.sl 5 v 0 xs.length none]) := fun E => by rw [rowLo (by omega)]; exact h3'
            have hr5 : ∀ E, (Y.plus E).row 5 v = some (m5, 46, 2, true, cs.flatMap Cst.cells) := fun E => by rw [rowLo (by omega)]; exact h5'
            have hcl : ∃ c0, cs[i]? = some c0 ∧ c0.id = c.1 ∧ c0.ls = c.2 := by
              have := hcs.st
              rw [← this, List.getElem?_map] at hc
              cases h : cs[i]? with
              | none => rw [h] at hc; exact nomatch hc
              | some c0 => rw [h] at hc; simp only [Option.map_some, Option.some.injEq] at hc; exact ⟨c0, rfl, by rw [← hc], by rw [← hc]⟩
            obtain ⟨c0, hc0, hc1, hc2⟩ := hcl
            have hcell : (cs.flatMap Cst.cells)[2 * i + 1]? = some c0.sl := cells_get hc0
            have hclen : (cs.flatMap Cst.cells).length = 2 * cs.length := cells_len cs
            have hlen5 : cs.length = xs.length := by rw [← hs, ← hcs.st, List.length_map]
            have hii : (0 : Int) ≤ (i : Int) ∧ (i : Int) < ((xs.length : Nat) : Int) := by omega
            have hsx : slIdx 2 (.sl 5 v 0 xs.length none) (.v (.int .i64 (i : Int))) = some (.ptr 5 v (i * 2)) := by
              unfold slIdx
              simp [hii]
            have hcell : (cs.flatMap Cst.cells)[i * 2 + 1]? = some c0.sl := by rw [Nat.mul_comm]; exact hcell
            have hz0 : bound z = 0 := hlb y (List.mem_of_getElem? hy) z (List.mem_of_getElem? hz)
            have hc77 := fun d => (ans77 he l rs hrs0 (by omega) i k 0).callI (me := 55) (d := d) (ext_77 he) (pure_77 _ _ _) (by simp only [boundL_cons, hrs.bound, boundL_nil, intA, bound_agg, bound_v]; rfl)
            have hc76 := fun d => (hwf i k y z hy hz).callI (me := 55) (d := d) (ext_76 he) (pure_76 _ _ _) (by simp only [boundL_cons, hz0, boundL_nil, ofV_bound]; rfl)
            simp only [intA] at hc77
            simp -implicitDefEqProofs only [go_sem, ↓reduceIte, Int.reduceEq, Int.reduceLT, Int.reduceLE, List.reduceReplicate, intA, setT_nil, setT_cons, sizeP hN7, putP0 hN7, putP hN7, settleP0 hN7, settleP hN7, rowP0 hN7, rowP hN7, storeP0 hN7 hlkY, storeP hN7 hlkY, hr1, hr3, hr5, hsx]
            refine wp_drawX [([], [], false), ([], [], false), ([], [], false), ([], [], false), ([], [], false), ([], [], false), ([], [], false), ([4], [], false), ([4, 7], [], false), ([4], [], false), ([4], [], false), ([4], [], false), ([], [11], false), ([], [], false), ([], [], false), ([], [11, 12], false)] (by kernel_rfl) (by kernel_rfl) ?_
            have hnc : nilCk (.ptr 5 v (i * 2)) = some (.ptr 5 v (i * 2)) := rfl
            have hwq := hwc i k
            have hq0 : ltB 5 (N + 1) = true := by unfold ltB; simp; omega
            have hq1 : ltB 0 N = true := by unfold ltB; simp; omega
            have hq2 : ltB N (N + 1) = true := by unfold ltB; simp
            have hq3 : ltB 1 (N + 1) = true := by unfold ltB; simp; omega
            have hq4 : ltB 3 (N + 1) = true := by unfold ltB; simp; omega
            have hfit : fitsA 24 1 = true := by decide
            have hst := fun (x : AV) (hx : x.flat = true) E => storeLoK (X := Y) (b := 5) (v := v) (k := i * 2 + 1) (x := x) (by omega) (by omega) h5' (by rw [hclen]; omega) hx E
            have hst := fun b' v' l' c' E => hst (.sl b' v' 0 l' c') rfl E
            have n13 : N + 1 + 12 = N + 13 := rfl
            by_cases hne : c0.ls = []
            · have hslv : c0.sl = .v (.slice none 0 0) := by unfold Cst.sl; rw [if_pos hne]
              rw [hslv] at hcell
              simp -implicitDefEqProofs only [go_sem, ↓reduceIte, Int.reduceEq, Int.reduceLT, Int.reduceLE, List.reduceReplicate, intA, setT_nil, setT_cons, sizeP hN7, putP0 hN7, putP hN7, settleP0 hN7, settleP hN7, rowP0 hN7, rowP hN7, storeP0 hN7 hlkY, storeP hN7 hlkY, hr1, hr3, hr5, hcell, hc77, hc76, hrs.cells, hrs.flat, hrs.bound, hnc, hwq.1, hwq.2.1, hwq.2.2, hq0, hq1, hq2, hq3, hq4, hfit, hst, List.flatMap_cons, List.flatMap_nil, n13]
              have hmm : ∀ (m5' : Nat), m5' = (if m5 ≤ bound (AV.sl (N + 13) 0 0 1 none) then bound (AV.sl (N + 13) 0 0 1 none) else m5) → N + 13 < m5' ∧ m5 ≤ m5' := fun m5' h => by
                rw [bound_sl] at h; subst h; split <;> omega
              generalize hM5 : (if m5 ≤ bound (AV.sl (N + 13) 0 0 1 none) then bound (AV.sl (N + 13) 0 0 1 none) else m5) = m5' at *
              have hmm := hmm m5' rfl
              have hci := (List.getElem?_eq_some_iff.1 hc0).1
              have hcset : (cs.flatMap Cst.cells).take (i * 2 + 1) ++ [AV.sl (N + 13) 0 0 1 none] ++ (cs.flatMap Cst.cells).drop (i * 2 + 1 + 1) = (cs.set i ⟨c0.id, c0.ls ++ [wf i k], N + 13, 0⟩).flatMap Cst.cells := by
                exact cells_set hc0 (wf i k) (N + 13) 0 (by rw [hne]; rfl)
              rw [hcset]
              have hYN5 : (Y.put 5 (.cells v m5' 46 2 true ((cs.set i ⟨c0.id, c0.ls ++ [wf i k], N + 13, 0⟩).flatMap Cst.cells))).size = N := by rw [put_sizeI _ (by omega)]; exact hN7
              have hstp : stp55 wf s [.agg [.v (.int .i64 (i : Int)), .v (.int .i64 (k : Int)), .v (.int .i64 0)], z] = (.normal, s.modify i fun c => (c.1, c.2 ++ [wf i k])) := by
                unfold stp55; simp only [Int.toNat_natCast]
              rw [hstp, plus_nil]
              refine ⟨rfl, ?_⟩
              refine fin55 hsm7 hl7 hN hN7 hlk hsz hH7 hcs hc0 (N + 13) 0 m5' (wf i k) ⟨hwq.1, hwq.2.2⟩ ?_ ?_ ?_ ?_ ?_ (Or.inl ⟨hne, by omega⟩) hmm.2 hmm.1
              · rw [settle_lo (by omega), plus_get _ (by omega)]; exact put_get_eq _ (by omega)
              · refine settle_some ?_
                rw [plus_get_hi _ (by omega), hYN5, show N + 13 - N = 13 by omega, hne]; rfl
              · intro b hb h5 _
                rw [settle_lo (by omega), plus_get _ (by omega), put_get_ne _ (by omega) h5]
              · rw [settle_lock]; exact hlk7
              · have := settle_size' (n := N + 1) (H := (Y.put 5 (.cells v m5' 46 2 true ((cs.set i ⟨c0.id, c0.ls ++ [wf i k], N + 13, 0⟩).flatMap Cst.cells))).plus [some (.cells 0 0 32 1 false [.v (.int .i64 (i : Int)), .v (.int .i64 (k : Int)), .v (.int .i64 0)]), none, none, none, none, none, none, none, none, none, none, none, none, some (.cells 0 0 41 1 true [wf i k]), none, none, none]) (by rw [plus_size, hYN5]; simp)
                omega
            · have hslv : c0.sl = .sl c0.b c0.v 0 c0.ls.length none := by unfold Cst.sl; rw [if_neg hne]
              rw [hslv] at hcell
              have hcm := List.mem_of_getElem? hc0
              have hlo := hcs.lo c0 hcm hne
              have hgb : Y.get c0.b = some (.cells c0.v 0 41 1 true c0.ls) := hH7 _ (List.mem_append_right _ (rowsC_mem.2 ⟨c0, hcm, hne, rfl⟩))
              have hbN : c0.b < N := by have := get_ltS hgb; omega
              have hrb : ∀ E, (Y.plus E).row c0.b c0.v = some (0, 41, 1, true, c0.ls) := fun E => by rw [rowLo (by omega)]; exact get_row hgb
              have hkl : c0.ls.length < 2 ^ 32 := by
                have h1 := (List.getElem?_eq_some_iff.1 hz).1
                have h2 := hll y (List.mem_of_getElem? hy)
                rw [hc2, hck]; omega
              have happ := fun E slot => appTo_own (H := Y.plus E) (slot := slot) (e := 41) (sz := 1) (b' := 24) (n := 1) (new := [wf i k]) (hrb E) (Nat.mul_one _) (by show Y.lock ≤ _; omega) (by unfold fitsA; exact decide_eq_true (by omega)) (by omega) (by omega)
              have hpl := fun E o => putLo (X := Y) (b := c0.b) (by omega) E o
              have hq5 : ltB c0.b (N + 1) = true := by unfold ltB; simp; omega
              have hsto := fun o (x : AV) (hx : x.flat = true) E => storeLoK (X := Y.put c0.b o) (b := 5) (v := v) (k := i * 2 + 1) (x := x) (by rw [put_sizeI _ (by omega)]; omega) (by show Y.lock ≤ 5; omega) (get_row ((put_get_ne o (by omega) (by omega)).trans (row_of_get h5'))) (by rw [hclen]; omega) hx E
              have hsto := fun o b' v' l' c' E => hsto o (.sl b' v' 0 l' c') rfl E
              simp -implicitDefEqProofs only [go_sem, ↓reduceIte, Int.reduceEq, Int.reduceLT, Int.reduceLE, List.reduceReplicate, intA, setT_nil, setT_cons, sizeP hN7, putP0 hN7, putP hN7, settleP0 hN7, settleP hN7, rowP0 hN7, rowP hN7, storeP0 hN7 hlkY, storeP hN7 hlkY, hr1, hr3, hr5, hcell, hc77, hc76, hrs.cells, hrs.flat, hrs.bound, hnc, hwq.1, hwq.2.1, hwq.2.2, hq0, hq1, hq2, hq3, hq4, hq5, hfit, hst, List.flatMap_cons, List.flatMap_nil, n13, happ, hpl, hsto]
              have hm5 : (if m5 ≤ bound (AV.sl c0.b (c0.v + 1) 0 (c0.ls.length + 1) none) then bound (AV.sl c0.b (c0.v + 1) 0 (c0.ls.length + 1) none) else m5) = m5 := by
                rw [bound_sl]; split <;> omega
              have hcset := cells_set hc0 (wf i k) c0.b (c0.v + 1) rfl
              rw [hm5, hcset]
              have hs1 : (Y.put c0.b (.cells (c0.v + 1) 0 41 1 true (c0.ls ++ [wf i k]))).size = N := by rw [put_sizeI _ (by omega)]; exact hN7
              have hYN5 : ((Y.put c0.b (.cells (c0.v + 1) 0 41 1 true (c0.ls ++ [wf i k]))).put 5 (.cells v m5 46 2 true ((cs.set i ⟨c0.id, c0.ls ++ [wf i k], c0.b, c0.v + 1⟩).flatMap Cst.cells))).size = N := by rw [put_sizeI _ (by omega)]; exact hs1
              have hstp : stp55 wf s [.agg [.v (.int .i64 (i : Int)), .v (.int .i64 (k : Int)), .v (.int .i64 0)], z] = (.normal, s.modify i fun c => (c.1, c.2 ++ [wf i k])) := by
                unfold stp55; simp only [Int.toNat_natCast]
              rw [hstp, plus_nil]
              refine ⟨rfl, ?_⟩
              refine fin55 hsm7 hl7 hN hN7 hlk hsz hH7 hcs hc0 c0.b (c0.v + 1) m5 (wf i k) ⟨hwq.1, hwq.2.2⟩ ?_ ?_ ?_ ?_ ?_ (Or.inr ⟨hne, rfl⟩) (Nat.le_refl _) hlo.2
              · rw [settle_lo (by omega), plus_get _ (by omega)]; exact put_get_eq _ (by omega)
              · rw [settle_lo (by omega), plus_get _ (by omega), put_get_ne _ (by omega) (by omega)]; exact put_get_eq _ (by omega)
              · intro b hb h5 hbb
                rw [settle_lo (by omega), plus_get _ (by omega), put_get_ne _ (by omega) h5, put_get_ne _ (by omega) hbb]
              · rw [settle_lock]; exact hlk7
              · have := settle_size' (n := N + 1) (H := ((Y.put c0.b (.cells (c0.v + 1) 0 41 1 true (c0.ls ++ [wf i k]))).put 5 (.cells v m5 46 2 true ((cs.set i ⟨c0.id, c0.ls ++ [wf i k], c0.b, c0.v + 1⟩).flatMap Cst.cells))).plus [some (.cells 0 0 32 1 false [.v (.int .i64 (i : Int)), .v (.int .i64 (k : Int)), .v (.int .i64 0)]), none, none, none, none, none, none, none, none, none, none, none, none, none, none, none, none]) (by rw [plus_size, hYN5]; simp)
                omega
        · exact (run_chap (wf := wf) xs 0 rfl (Nat.zero_le _)).1
        · unfold stAt; rw [List.length_mapIdx]
        · exact ⟨_, 0, cs0_of hall wf, rfl⟩
        · rw [rows0, List.append_nil]
          intro p hp
          have hcc := chId_cs hall
          rcases base55_lt hp with h | rfl
          · unfold base55 at hp
            simp only [List.mem_cons, List.not_mem_nil, or_false] at hp
            rcases hp with rfl | rfl | rfl | rfl | rfl | rfl
            · rfl
            · rfl
            · rfl
            · rfl
            · rfl
            · simp at h
          · rw [← hcc]; rfl
        · intro m' X hR hH hd0 hd1 hmv hsz
          rw [(run_chap (wf := wf) xs 0 rfl (Nat.zero_le _)).2] at hR ⊢
          obtain ⟨cs, m5, hcs, rfl⟩ := hR
          have hsz : 8 ≤ X.size := hsz
          have hd0 : X.get 6 = some .dfr := hd0
          generalize hN : X.size = N at *
          have hlk : X.lock = 0 := hmv.lock
          have hlkN : X.lock ≤ N := by rw [hlk]; exact Nat.zero_le _
          have h2 : ∀ E, (X.plus E).row 2 0 = some (0, 24, 1, false, [.v (.slice none 0 0)]) := fun E => by rw [rowLo (by omega)]; exact get_row (hH (2, _) (List.mem_append_left _ (by unfold base55; simp)))
          have h3 : ∀ E, (X.plus E).row 3 0 = some (6, 24, 1, false, [.sl 5 v 0 xs.length none]) := fun E => by rw [rowLo (by omega)]; exact get_row (hH (3, _) (List.mem_append_left _ (by unfold base55; simp)))
          have hst := fun (x : AV) (hx : x.flat = true) E => storeLo (X := X) (b := 2) (m := 0) (e := 24) (sz := 1) (g := false) (cs := [.v (.slice none 0 0)]) (xs := [x]) (by omega) (by omega) (by have := h2 []; rwa [plus_nil] at this) rfl (by simp [hx]) E
          have hst := fun b' v' l' c' E => hst (.sl b' v' 0 l' c') rfl E
          rw [← plus_nil X]
          simp -implicitDefEqProofs only [go_sem, ↓reduceIte, Int.reduceEq, Int.reduceLT, Int.reduceLE, List.reduceReplicate, intA, setT_nil, setT_cons, sizeP hN, putP0 hN, putP hN, settleP0 hN, settleP hN, rowP0 hN, rowP hN, storeP0 hN hlkN, storeP hN hlkN, h2, h3, hst]
          generalize hW : settleH N _ = W
          have hwl : W.lock = 0 := by rw [← hW, settle_lock]; exact hlk
          have hwg : ∀ b, b < N → b ≠ 2 → W.get b = X.get b := fun b hb h2 => by
            rw [← hW, settle_lo hb, plus_nil, put_get_ne _ (by omega) h2]
          have hws : N ≤ W.size := by
            rw [← hW]
            refine settle_size' ?_
            rw [plus_nil, put_sizeI _ (by omega)]; omega
          have hw2 : ∃ mm, W.get 2 = some (.cells 0 mm 24 1 false [.sl 5 v 0 xs.length none]) := by
            rw [← hW, settle_lo (by omega), plus_nil]; exact ⟨_, put_get_eq _ (by omega)⟩
          obtain ⟨mm, hw2⟩ := hw2
          have hkill : killAll [6] W = some (W.put 6 .dead) := by
            unfold killAll
            rw [hwg 6 (by omega) (by omega), hd0]
            show (if W.lock ≤ 6 then killAll [] (W.put 6 .dead) else none) = _
            rw [if_pos (by omega)]; rfl
          have hg : ∀ b, b < N → b ≠ 2 → b ≠ 6 → (W.put 6 .dead).get b = X.get b := fun b hb h2 h6 => by
            rw [put_get_ne _ (by omega) h6, hwg b hb h2]
          have hr2 : (W.put 6 .dead).row 2 0 = some (mm, 24, 1, false, [.sl 5 v 0 xs.length none]) := get_row ((put_get_ne _ (by omega) (by omega)).trans hw2)
          have hk6 : (W.put 6 .dead).lock = 0 := hwl
          have hcl : cs.length = xs.length := by
            have := congrArg List.length hcs.st
            rw [List.length_map] at this; rw [this]; unfold stAt; rw [List.length_mapIdx]
          have hr5 : (W.put 6 .dead).row 5 v = some (m5, 46, 2, true, cs.flatMap Cst.cells) := get_row ((hg 5 (by omega) (by omega) (by omega)).trans (hH (5, _) (List.mem_append_left _ base55_five)))
          have hrc : ∀ c ∈ cs, c.ls ≠ [] → (W.put 6 .dead).row c.b c.v = some (0, 41, 1, true, c.ls) := fun c hc hne => by
            have h1 := hH _ (List.mem_append_right _ (rowsC_mem.2 ⟨c, hc, hne, rfl⟩))
            have h2 := hcs.lo c hc hne
            have h3 := get_ltS h1
            simp only at h1 h3
            exact get_row ((hg c.b (by omega) (by omega) (by omega)).trans h1)
          rw [hkill]
          generalize W.put 6 .dead = V at *
          have hfin := freeze_copied hk6 hcs hr5 hrc (by omega)
          rw [hcl] at hfin
          have hout : (AV.agg [.vs 2 (cs.map fun c => .agg [c.id, c.fz]) none]) = out55 (stAt xs wf xs.length 0) := by
            have hst := hcs.st; simp only at hst; unfold out55; rw [← hst, List.map_map]; rfl
          rw [hout] at hfin
          simp -implicitDefEqProofs only [go_sem, ↓reduceIte, Int.reduceEq, Int.reduceLT, Int.reduceLE, List.reduceReplicate, intA, setT_nil, setT_cons, hr2]
          show freezeV { V with lock := 0 } 1000000 _ = _
          have hV : ({ V with lock := 0 } : Heap) = V := by cases V; simp only at hk6; subst hk6; rfl
          rw [hV]; exact hfin
    | succ μ =>
      obtain ⟨y, hy⟩ := at_lt xs j (by omega)
      obtain ⟨cid, l0, lxs, rfl, hl0, hlc, hll⟩ := hall y (List.mem_of_getElem? hy)
      have hlt : (j : Int) < ((xs.length : Nat) : Int) := by omega
      have hw := wrap_succ j (by omega)
      have hix := hch.idx hy
      have ht : (xs.take (j + 1)).flatMap chId = (xs.take j).flatMap chId ++ [intA cid, .v (.slice none 0 0)] := by
        rw [List.take_add_one, hy, List.flatMap_append]; rfl
      have hcl : ((xs.take j).flatMap chId).length = j * 2 := by
        rw [chId_len (fun y hy => by obtain ⟨a, b, c, h, -⟩ := hall y (List.mem_of_mem_take hy); exact ⟨_, _, h⟩), List.length_take]; omega
      have hcb : boundL ((xs.take j).flatMap chId) = 0 := chId_bound (fun y hy => by obtain ⟨a, b, c, h, -⟩ := hall y (List.mem_of_mem_take hy); exact ⟨_, _, h⟩)
      have hf1 : fitsA 32 1 = true := by decide
      rcases hX with ⟨rfl, rfl⟩ | ⟨c4, v, hj1, rfl⟩
      · simp -implicitDefEqProofs only [go_sem, ↓reduceIte, Int.reduceEq, Int.reduceLT, Int.reduceLE, List.reduceReplicate, intA, setT_nil, setT_cons, hlt, hw, hix, hl0.cells, hl0.flat, hl0.bound, List.flatMap_cons, List.flatMap_nil, hf1, bound_sl]
        rw [trim_no4 _ _ 4 3 _ _ _ rfl (by omega) (by show 4 < 6; omega)]
        refine ⟨μ, by omega, 1, by omega, rfl, Or.inr ⟨[intA cid, l0], 0, by omega, ?_⟩⟩
        rw [ht]; rfl
      · simp -implicitDefEqProofs only [go_sem, ↓reduceIte, Int.reduceEq, Int.reduceLT, Int.reduceLE, List.reduceReplicate, intA, setT_nil, setT_cons, hlt, hw, hix, hl0.cells, hl0.flat, hl0.bound, List.flatMap_cons, List.flatMap_nil]
        rw [appTo_own (m := 0) (e' := 46) (cs := (xs.take j).flatMap chId) (by simp [Heap.row, Heap.get]) hcl.symm (Nat.zero_le _) (by unfold fitsA; exact decide_eq_true (by omega)) (by omega) (by omega)]
        simp -implicitDefEqProofs only [go_sem, ↓reduceIte, Int.reduceEq, Int.reduceLT, Int.reduceLE, List.reduceReplicate, intA, setT_nil, setT_cons, bound_sl, trim_at, hch.bound, hrs.bound]
        exact ⟨μ, by omega, j + 1, by omega, rfl, Or.inr ⟨_, v + 1, by omega, by rw [ht]; rfl⟩⟩
  · exact ⟨0, by omega, rfl, Or.inl ⟨rfl, rfl⟩⟩
end Go.Ev
namespace Go.Ev
open Go.Proofs
set_option maxRecDepth 100000
set_option linter.unusedSimpArgs false
attribute [local irreducible] Wp WpS
/-! ### slices that are closed, or lie in memory -/
def SlH (X : Heap) (xs : List AV) (x : AV) : Prop := SlOf 1 xs x ∨ ∃ b v cap m e g cs, x = .sl b v 0 xs.length cap ∧ b < X.size ∧ X.row b v = some (m, e, 1, g, cs) ∧ cs.take xs.length = xs ∧ xs.length ≤ cs.length
theorem SlH.len {X : Heap} {xs : List AV} {x : AV} (h : SlH X xs x) : slLen x = some (.v (.int .i64 xs.length)) := by
  rcases h with h | ⟨b, v, cap, m, e, g, cs, rfl, -⟩
  · exact h.len
  · rfl
theorem SlH.get {X : Heap} {N : Nat} (hN : X.size = N) {xs : List AV} {x : AV} (h : SlH X xs x) {i : Nat} {z : AV} (hz : xs[i]? = some z) (hzc : z.cells = [z]) (k : IntKind) :
    ∃ p, slIdx 1 x (.v (.int k (i : Int))) = some p ∧ (∀ (t : TypeId) E, isAggT Tryz.prog t = some false → sizeT Tryz.prog t = some 1 → loadA Tryz.prog (X.plus E) t p = some z) ∧ ∀ top, N ≤ top → (objsOf p).all (fun c => ltB c top) = true := by
  have hi := (List.getElem?_eq_some_iff.1 hz).1
  rcases h with h | ⟨b, v, cap, m, e, g, cs, rfl, hb, hr, ht, hl⟩
  · refine ⟨.ro z 0, h.idx hz k, fun t E ha hs => ?_, fun _ _ => rfl⟩
    unfold loadA partOf
    rw [ha, hs]
    show z.cells[0]? = some z
    rw [hzc]; rfl
  · refine ⟨.ptr b v (0 + i * 1), ?_, fun t E ha hs => ?_, fun top h => ?_⟩
    · unfold slIdx
      simp; omega
    · have hrow : (X.plus E).row b v = some (m, e, 1, g, cs) := by rw [rowLo hb, hr]
      unfold loadA
      simp only [hrow]
      unfold partOf
      rw [ha, hs]
      simp only
      rw [Nat.zero_add, Nat.mul_one, ← List.getElem?_take_of_lt (j := xs.length) hi, ht, hz]
    · simp only [objsOf, List.all_cons, List.all_nil, Bool.and_true]
      unfold ltB
      simp; omega
theorem SlH.lock {X : Heap} {xs : List AV} {x : AV} (h : SlH X xs x) (k : Nat) : SlH { X with lock := k } xs x := by
  rcases h with h | ⟨b, v, cap, m, e, g, cs, rfl, hb, hr, ht⟩
  · exact Or.inl h
  · exact Or.inr ⟨b, v, cap, m, e, g, cs, rfl, hb, hr, ht⟩
theorem SlH.closed {X : Heap} {xs : List AV} {x : AV} (h : SlH X xs x) (hb : bound x = 0) (Y : Heap) : SlH Y xs x := by
  rcases h with h | ⟨b, v, cap, m, e, g, cs, rfl, -⟩
  · exact Or.inl h
  · simp [bound] at hb
theorem SlH.yld {X : Heap} {xs : List AV} {x : AV} (h : SlH X xs x) : isYld x = false := by
  rcases h with h | ⟨b, v, cap, m, e, g, cs, rfl, -⟩
  · rcases h with ⟨rfl, _⟩ | ⟨c, rfl⟩ <;> rfl
  · rfl
/-- a call that hands back what is no address, on memory that it leaves -/
theorem callA_still {C : Cfg} {me f : FuncId} {d : Option Tmp} {args : List AV} {X : Heap} {w : Value} (hx : C.ext f = none) (hp : C.pure me f d = true) (hy : args.any isYld = false)
    (h1 : boundL args = 0 → Fn' C f args { objs := [], lock := 0 } (fun v _ => v = .v w)) (h2 : Fn' C f args { X with lock := X.size } (fun v _ => v = .v w)) : callA C (lim C) me f d args X = some (.v w, X) := by
  unfold callA callB callKind
  rw [hx]
  simp only [hp, if_true]
  by_cases hb : boundL args = 0
  · have h1 := h1 hb
    unfold Fn' at h1
    rw [bindO_iff] at h1
    obtain ⟨o, h3, h4⟩ := h1
    rw [if_pos (by rw [hb]; rfl)]
    cases o with
    | ret v H => obtain rfl : v = .v w := h4; simp only [h3]; rfl
    | _ => exact h4.elim
  · unfold Fn' at h2
    rw [bindO_iff] at h2
    obtain ⟨o, h3, h4⟩ := h2
    rw [if_neg (fun h => hb (Nat.eq_of_beq_eq_true h)), hy]
    simp only [Bool.false_eq_true, if_false]
    cases o with
    | ret v H => obtain rfl : v = .v w := h4; simp only [h3]; rfl
    | _ => exact h4.elim
end Go.Ev
namespace Go.Ev
open Go.Proofs
set_option maxRecDepth 100000
set_option linter.unusedSimpArgs false
attribute [local irreducible] Wp WpS
theorem drop_eq_cons {α : Type} {xs : List α} {j : Nat} {x : α} (h : xs[j]? = some x) : xs.drop j = x :: xs.drop (j + 1) := by
  obtain ⟨hj, rfl⟩ := List.getElem?_eq_some_iff.1 h
  exact List.drop_eq_getElem_cons hj
theorem trimP0 {X : Heap} {N : Nat} (hN : X.size = N) (vs : List AV) (ms : List Nat) : (X.plus []).trim N vs ms = X.plus [] := by rw [plus_nil, ← hN, trim_size]
theorem isAgg9 : isAggT Tryz.prog 9 = some false := by kernel_rfl
end Go.Ev
namespace Go.Ev
open Go.Proofs Go.Sort
set_option maxRecDepth 100000
set_option linter.unusedSimpArgs false
attribute [local irreducible] Wp WpS
@[go_sem] theorem keepS_32 : Cs.keep 32 = [0, 2, 7, 17, 1, 21, 24, 23, 25, 22, 6, 10, 31, 8, 4, 5] := rfl
theorem fnS_32 : Cs.P.funcs[32]? = some Tryz.f32 := Tryz.func32
theorem extS_32 : Cs.ext 32 = none := rfl
theorem pureS_32 (h : FuncId) (d : Option Tmp) : Cs.pure h 32 d = true := by simp [Cs, Cx, pureF, impF, impC]
@[go_sem] theorem keepS_60 : Cs.keep 60 = [0, 2] := rfl
theorem fnS_60 : Cs.P.funcs[60]? = some Tryz.f60 := Tryz.func60
theorem extS_60 : Cs.ext 60 = none := rfl
theorem pureS_60 (h : FuncId) (d : Option Tmp) : Cs.pure h 60 d = true := by simp [Cs, Cx, pureF, impF, impC]
@[go_sem] theorem keepS_83 : Cs.keep 83 = [0, 8, 3, 13, 25, 5, 4, 32, 44, 2] := rfl
theorem fnS_83 : Cs.P.funcs[83]? = some Tryz.f83 := Tryz.func83
theorem extS_83 : Cs.ext 83 = none := rfl
theorem pureS_83 (h : FuncId) (d : Option Tmp) : Cs.pure h 83 d = false := by simp [Cs, Cx, pureF, impF, impC]
@[go_sem] theorem keepS_84 : Cs.keep 84 = [0, 5, 1, 4] := rfl
theorem fnS_84 : Cs.P.funcs[84]? = some Tryz.f84 := Tryz.func84
theorem extS_84 : Cs.ext 84 = none := rfl
theorem pureS_84 (h : FuncId) (d : Option Tmp) : Cs.pure h 84 d = false := by simp [Cs, Cx, pureF, impF, impC]
@[go_sem] theorem keepS_96 : Cs.keep 96 = [0, 4, 2] := rfl
@[go_sem] theorem alterS_96 (d : Option Tmp) : Cs.alter 96 d = false := rfl
theorem fnS_96 : Cs.P.funcs[96]? = some Tryz.f96 := Tryz.func96
theorem extS_96 : Cs.ext 96 = none := rfl
theorem pureS_96 (h : FuncId) (d : Option Tmp) : Cs.pure h 96 d = false := by simp [Cs, Cx, pureF, impF, impC]
theorem extS_97 : Cs.ext 97 = none := rfl
theorem pureS_97 (h : FuncId) (d : Option Tmp) : Cs.pure h 97 d = false := by simp [Cs, Cx, pureF, impF, impC]
/-! ### rows of places -/
def clP (ps : List P3) : List AV := (flatE encP ps).map AV.v
theorem clP_cons (p : P3) (ps : List P3) : clP (p :: ps) = [intA p.1, intA p.2.1, intA p.2.2] ++ clP ps := by
  unfold clP flatE encP intA
  simp
theorem clP_append (ps qs : List P3) : clP (ps ++ qs) = clP ps ++ clP qs := by
  unfold clP flatE; simp
theorem clP_len (ps : List P3) : (clP ps).length = ps.length * 3 := by
  unfold clP; rw [List.length_map, flatE_len (k := 3) (fun _ => rfl)]
theorem clP_flat (ps : List P3) : (clP ps).all AV.flat = true := by
  refine List.all_eq_true.2 fun x hx => ?_
  obtain ⟨y, -, rfl⟩ := List.mem_map.1 hx
  rfl
theorem clP_bound (ps : List P3) : boundL (clP ps) = 0 := by
  refine Nat.le_zero.1 (boundL_le.2 fun x hx => ?_)
  obtain ⟨y, -, rfl⟩ := List.mem_map.1 hx
  exact Nat.le_refl _
theorem size32 : sizeT Tryz.prog 32 = some 3 := by kernel_rfl
theorem app47 (H : Heap) (slot : Nat) (s x : AV) : appendA Tryz.prog H slot [47, 47] [s, x] = appG 32 3 24 H slot s (cellsFrom H 3 x) := app_eq2 (by kernel_rfl) (by kernel_rfl) (by kernel_rfl) (by kernel_rfl) (by decide) (by decide) H slot s x
theorem eqNil47 (t : Tmp) (b v o l : Nat) (c : Option Nat) : binA Tryz.prog .eql 47 (.tmp t) (.const (.slice none 0 0)) (.sl b v o l c) (.v (.slice none 0 0)) = some (.v (.bool false)) := by
  unfold binA nilEq
  rw [und_47]; rfl
theorem eqNil47n (t : Tmp) : binA Tryz.prog .eql 47 (.tmp t) (.const (.slice none 0 0)) (.v (.slice none 0 0)) (.v (.slice none 0 0)) = some (.v (.bool true)) := by
  unfold binA nilEq
  rw [und_47]; rfl
theorem appTo_vs0 (e sz b : Nat) (H : Heap) (slot n : Nat) (new : List AV) : appTo e sz b H slot n new (.vs sz [] (some 0)) = if n = 0 then some (.vs sz [] (some 0), H) else if fitsA b n = true then some (.sl slot 0 0 n none, H.put slot (.cells 0 (boundL new) e sz true new)) else none := by
  unfold appTo
  simp only [ne_eq, not_true_eq_false, if_false, List.length_nil, List.flatMap_nil, List.all_nil, Bool.and_true, List.nil_append, Nat.zero_add, if_true]
  rw [show Nat.max (boundL []) (boundL new) = boundL new from Nat.zero_max (boundL new)]
/-- what is left behind, to the object -/
def rawX (H : Heap) (w : AV) (Y : Heap) : PostO := fun v H' => v = w ∧ H'.trim H.size [v] [] = Y
theorem callA_rawX {C : Cfg} {me f : FuncId} {d : Option Tmp} {args : List AV} {H Y : Heap} {w : AV} (hx : C.ext f = none) (hp : C.pure me f d = false) (h : Fn' C f args H (rawX H w Y)) : callA C (lim C) me f d args H = some (w, Y) := by
  unfold Fn' at h
  rw [bindO_iff] at h
  obtain ⟨o, h1, h2⟩ := h
  have hk : callKind C me f d args = 0 := by unfold callKind; rw [hp]; rfl
  cases o with
  | ret v H' =>
    obtain ⟨rfl, hF⟩ := h2
    unfold callA callB
    rw [hx]
    simp only [hk, h1, hF]
  | _ => exact h2.elim
theorem rawX_far {X Y : Heap} {N : Nat} (hN : X.size = N) (w v : AV) (h : v = w) (hv : N < bound v) : AtO (rawX X w Y) v Y := by
  refine ⟨h, ?_⟩
  unfold Heap.trim
  rw [if_neg]
  rw [Bool.and_eq_true, Bool.and_eq_true, Bool.and_eq_true, Nat.ble_eq]
  have : boundL [v] = bound v := by show Nat.max (bound v) 0 = _; exact Nat.max_eq_left (Nat.zero_le _)
  rw [this]
  exact fun g => by have := g.1.1.1; omega
theorem rawX_same {X : Heap} (w v : AV) (h : v = w) : AtO (rawX X w X) v X := ⟨h, trim_size _ _ _⟩
theorem call96_nil (X : Heap) (me : FuncId) (d : Option Tmp) : callA Cs (lim Cs) me 96 d [.v (.slice none 0 0)] X = some (.v (.slice none 0 0), X) := by
  refine callA_rawX extS_96 (pureS_96 _ _) ?_
  rw [fn_step fnS_96 (show Tryz.f96.body = some _ from rfl)]
  generalize hKK : rawX X _ _ = KK
  simp -implicitDefEqProofs only [Tryz.f96, go_sem, ↓reduceIte, Int.reduceEq, Int.reduceLT, Int.reduceLE, List.reduceReplicate, intA, setT_nil, setT_cons, ↓boolP_bool, ↓iteB_true, ↓iteB_false, eqNil47n]
  rw [← hKK]
  exact rawX_same _ _ rfl
set_option maxHeartbeats 1000000 in
theorem call96 {X : Heap} {N : Nat} (hN : X.size = N) (ps : List P3) (h0 : ps ≠ []) (hn : ps.length < 2 ^ 33) (b v : Nat) (hb : b < N) (hr : X.row b v = some (0, 32, 3, true, clP ps)) (me : FuncId) (d : Option Tmp) :
    callA Cs (lim Cs) me 96 d [.sl b v 0 ps.length none] X = some (.sl N 0 0 ps.length none, X.plus [some (.cells 0 0 32 3 true (clP ps))]) := by
  refine callA_rawX extS_96 (pureS_96 _ _) ?_
  rw [fn_step fnS_96 (show Tryz.f96.body = some _ from rfl)]
  have hv0 : ps.length ≠ 0 := fun h => h0 (List.length_eq_zero_iff.1 h)
  have hf : fitsA 24 ps.length = true := by unfold fitsA; exact decide_eq_true (by omega)
  have hrow : ∀ E, (X.plus E).row b v = some (0, 32, 3, true, clP ps) := fun E => by rw [rowLo (by omega), hr]
  have hl3 := clP_len ps
  generalize hKK : rawX X _ _ = KK
  rw [← plus_nil X]
  simp -implicitDefEqProofs only [Tryz.f96, go_sem, ↓reduceIte, Int.reduceEq, Int.reduceLT, Int.reduceLE, List.reduceReplicate, intA, setT_nil, setT_cons, ↓boolP_bool, ↓iteB_true, ↓iteB_false, eqNil47, sizeP hN, putP0 hN, putP hN, settleP0 hN, settleP hN, List.length_nil, Nat.add_zero, app47, hrow, hl3, List.take_of_length_le (Nat.le_of_eq hl3), clP_flat, clP_bound, hv0, hf, appTo_vs0]
  rw [← hKK]
  exact rawX_far hN _ _ rfl (Nat.lt_succ_self _)
/-! ### sorting -/
theorem takeP (ps : List P3) : takeE 3 decP ps.length (clP ps) = some ps := by
  have := takeE_flat codedP [] ps
  rw [List.append_nil] at this
  exact this
theorem antiP' (l : List P3) : antiB ltP eqvP l = true := by rw [← ltF_P]; exact antiP l
def srtP (ps : List P3) : List P3 := sortL ltP ps
theorem srtP_len (ps : List P3) : (srtP ps).length = ps.length := (sortL_perm _ ps).length_eq
theorem call97 {X : Heap} {N : Nat} (hN : X.size = N) (hlk : X.lock ≤ N) (ps : List P3) (h0 : ps ≠ []) (hn : ps.length < 2 ^ 33) (me : FuncId) (d : Option Tmp) :
    callA Cs (lim Cs) me 97 d [.sl N 0 0 ps.length none, .fn (.func 85) [] []] (X.plus [some (.cells 0 0 32 3 true (clP ps))]) = some (.tup [], X.plus [some (.cells 0 0 32 3 true (clP (srtP ps)))]) := by
  have hv0 : ps.length ≠ 0 := fun h => h0 (List.length_eq_zero_iff.1 h)
  have hrow := rowP0 hN [some (.cells 0 0 32 3 true (clP ps))] 0
  have hst := storeP0 hN hlk [some (.cells 0 0 32 3 true (clP ps))] 0 0 (clP (srtP ps))
  have h3 : (clP (srtP ps)).length = (clP ps).length := by rw [clP_len, clP_len, srtP_len]
  have hg : sortH 3 encP decP eqvP cmpPl 85 [.sl N 0 0 ps.length none, .fn (.func 85) [] []] (X.plus [some (.cells 0 0 32 3 true (clP ps))]) = some (.tup [], X.plus [some (.cells 0 0 32 3 true (clP (srtP ps)))]) := by
    unfold sortH
    simp only [if_true, hv0, if_false, hrow, List.getElem?_cons_zero, Option.join_some, objRow_cells]
    rw [if_pos (by omega), List.drop_zero, takeP]
    simp only [ltF_P, antiP', if_true]
    rw [show (flatE encP (sortL ltP ps)).map AV.v = clP (srtP ps) from rfl, hst]
    simp only [List.getElem?_cons_zero, Option.join_some, stP_cells]
    rw [if_pos (show True ∧ 0 + (clP (srtP ps)).length ≤ (clP ps).length ∧ (clP (srtP ps)).all AV.flat = true from ⟨trivial, by omega, clP_flat _⟩)]
    simp only [Option.map_some, sop_zero, clP_bound]
    rw [show splice 0 (clP (srtP ps)) (clP ps) = clP (srtP ps) from by unfold splice; rw [List.take_zero, List.nil_append, Nat.zero_add, h3, List.drop_length, List.append_nil]]
    rfl
  have hk : callKind Cs me 97 d [.sl N 0 0 ps.length none, .fn (.func 85) [] []] = 0 := by unfold callKind; rw [pureS_97]; rfl
  have hl : lim Cs (.call 97 [.sl N 0 0 ps.length none, .fn (.func 85) [] []] (X.plus [some (.cells 0 0 32 3 true (clP ps))])) = some (.ret (.tup []) (X.plus [some (.cells 0 0 32 3 true (clP (srtP ps)))])) := by
    rw [lim_eq]
    have hla : Cs.lay 97 = some (sortH 3 encP decP eqvP cmpPl 85) := rfl
    simp only [taskA, hla, hg, Option.map_some]
  unfold callA
  rw [extS_97]
  unfold callB
  simp only [hk, hl]
  rw [show (X.plus [some (.cells 0 0 32 3 true (clP ps))]).size = (X.plus [some (.cells 0 0 32 3 true (clP (srtP ps)))]).size by rw [sizeP hN, sizeP hN]; rfl, trim_size]
theorem call97_nil (X : Heap) (g : FuncId) (hg : g = 85) (me : FuncId) (d : Option Tmp) : callA Cs (lim Cs) me 97 d [.v (.slice none 0 0), .fn (.func g) [] []] X = some (.tup [], X) := by
  subst hg
  have hk : callKind Cs me 97 d [.v (.slice none 0 0), .fn (.func 85) [] []] = 0 := by unfold callKind; rw [pureS_97]; rfl
  have hl : lim Cs (.call 97 [.v (.slice none 0 0), .fn (.func 85) [] []] X) = some (.ret (.tup []) X) := by
    rw [lim_eq]
    have hla : Cs.lay 97 = some (sortH 3 encP decP eqvP cmpPl 85) := rfl
    simp only [taskA, hla]
    rfl
  unfold callA
  rw [extS_97]
  unfold callB
  simp only [hk, hl]
  rw [trim_size]
/-- in order -/
theorem call84_nil (X : Heap) (me : FuncId) (d : Option Tmp) : callA Cs (lim Cs) me 84 d [.v (.slice none 0 0), .fn (.func 85) [] []] X = some (.v (.slice none 0 0), X) := by
  refine callA_rawX extS_84 (pureS_84 _ _) ?_
  rw [fn_step fnS_84 (show Tryz.f84.body = some _ from rfl)]
  generalize hKK : rawX X _ _ = KK
  simp -implicitDefEqProofs only [Tryz.f84, go_sem, ↓reduceIte, Int.reduceEq, Int.reduceLT, Int.reduceLE, List.reduceReplicate, intA, setT_nil, setT_cons, ↓boolP_bool, ↓iteB_true, ↓iteB_false, call96_nil, call97_nil]
  rw [← hKK]
  exact rawX_same _ _ rfl
theorem call84 {X : Heap} {N : Nat} (hN : X.size = N) (hlk : X.lock ≤ N) (ps : List P3) (h0 : ps ≠ []) (hn : ps.length < 2 ^ 33) (b v : Nat) (hb : b < N) (hr : X.row b v = some (0, 32, 3, true, clP ps)) (me : FuncId) (d : Option Tmp) :
    callA Cs (lim Cs) me 84 d [.sl b v 0 ps.length none, .fn (.func 85) [] []] X = some (.sl N 0 0 ps.length none, X.plus [some (.cells 0 0 32 3 true (clP (srtP ps)))]) := by
  refine callA_rawX extS_84 (pureS_84 _ _) ?_
  rw [fn_step fnS_84 (show Tryz.f84.body = some _ from rfl)]
  have h96 := call96 hN ps h0 hn b v hb hr
  have h97 := call97 hN hlk ps h0 hn
  have hb1 : ltB b N = true := by unfold ltB; simp; omega
  rw [← plus_nil X] at h96 ⊢
  generalize hKK : rawX (X.plus []) _ _ = KK
  simp -implicitDefEqProofs only [Tryz.f84, go_sem, ↓reduceIte, Int.reduceEq, Int.reduceLT, Int.reduceLE, List.reduceReplicate, intA, setT_nil, setT_cons, ↓boolP_bool, ↓iteB_true, ↓iteB_false, h96, h97, sizeP hN, putP0 hN, putP hN, settleP0 hN, settleP hN, List.length_nil, Nat.add_zero]
  rw [← hKK, plus_nil]
  exact rawX_far hN _ _ rfl (Nat.lt_succ_self _)
end Go.Ev
namespace Go.Ev
open Go.Proofs
set_option maxRecDepth 100000
set_option linter.unusedSimpArgs false
attribute [local irreducible] Wp WpS
/-! ### the words of a text, for bodies that lay memory -/
theorem okRun_app {S : Type} (stp : S → List AV → Bool × S) (ok : S → List AV → Prop) : ∀ (l r : List (List AV)) (s : S), okRun stp ok (l ++ r) s → okRun stp ok l s ∧ ((runIt stp l s).1 = true → okRun stp ok r (runIt stp l s).2)
  | [], r, s, h => ⟨trivial, fun _ => h⟩
  | x :: l, r, s, h => by
    have h2 := fun hg => okRun_app stp ok l r _ (h.2 hg)
    refine ⟨⟨h.1, fun hg => (h2 hg).1⟩, fun hq => ?_⟩
    rw [runIt_cons] at hq ⊢
    cases hs : (stp s x).1 with
    | true => rw [hs, if_pos rfl] at hq; rw [if_pos rfl]; exact (h2 hs).2 hq
    | false => rw [hs] at hq; simp at hq
def stp63b {S : Type} (stp : S → List AV → Bool × S) (s : S) (x : List AV) : AExit × S := (if (runIt stp (expandL x) s).1 then .normal else .ret, (runIt stp (expandL x) s).2)
def Ok63b {S : Type} (stp : S → List AV → Bool × S) (ok : S → List AV → Prop) (s : S) (x : List AV) : Prop := ∃ (i k : Nat) (lx : AV) (els : List AV), x = [placeA i k 0, lx] ∧ SlOf 1 els lx ∧ (∀ z ∈ els, z.cells = [z]) ∧ els.length < 2 ^ 63 ∧ okRun stp ok (expandL x) s
def It63 (x : List AV) : Prop := ∃ (i k : Nat) (lx : AV) (els : List AV), x = [placeA i k 0, lx] ∧ SlOf 1 els lx ∧ (∀ z ∈ els, z.cells = [z]) ∧ els.length < 2 ^ 63
theorem okRun63b {S : Type} (stp : S → List AV → Bool × S) (ok : S → List AV → Prop) : ∀ (T : List (List AV)) (s : S), (∀ x ∈ T, It63 x) → okRun stp ok (T.flatMap expandL) s → okRun (fun s x => (isGo (stp63b stp s x).1, (stp63b stp s x).2)) (Ok63b stp ok) T s
  | [], _, _, _ => trivial
  | x :: r, s, hx, h => by
    rw [List.flatMap_cons] at h
    obtain ⟨h1, h2⟩ := okRun_app stp ok _ _ s h
    refine ⟨?_, fun hg => ?_⟩
    · obtain ⟨i, k, lx, els, rfl, a, b, c⟩ := hx x (List.mem_cons_self ..)
      exact ⟨i, k, lx, els, rfl, a, b, c, h1⟩
    · refine okRun63b stp ok r _ (fun y hy => hx y (List.mem_cons_of_mem _ hy)) (h2 ?_)
      unfold stp63b at hg
      simp only at hg
      cases hq : (runIt stp (expandL x) s).1 with
      | true => rfl
      | false => rw [hq] at hg; cases hg
theorem fold63b {S : Type} (stp : S → List AV → Bool × S) : ∀ (T : List (List AV)) (s : S), foldE (stp63b stp) T s = (if (runIt stp (T.flatMap expandL) s).1 then .normal else .ret, (runIt stp (T.flatMap expandL) s).2)
  | [], s => rfl
  | x :: r, s => by
    rw [List.flatMap_cons, runIt_append]
    have ih := fold63b stp r (runIt stp (expandL x) s).2
    cases hq : (runIt stp (expandL x) s).1 with
    | true =>
      rw [foldE_go (by unfold stp63b; simp only [hq, if_true]), if_pos rfl]
      exact ih
    | false =>
      rw [foldE_out (by unfold stp63b; simp only [hq]; intro h; cases h)]
      unfold stp63b
      simp only [hq, Bool.false_eq_true, if_false]
theorem live_run {S : Type} (stp : S → List AV → Bool × S) (ok : S → List AV → Prop) (live : S → Prop) (hst : ∀ s x, live s → ok s x → (stp s x).1 = true → live (stp s x).2) : ∀ (l : List (List AV)) (s : S), okRun stp ok l s → live s → (runIt stp l s).1 = true → live (runIt stp l s).2
  | [], s, _, h, _ => h
  | x :: r, s, ho, h, hq => by
    rw [runIt_cons] at hq ⊢
    cases hs : (stp s x).1 with
    | true => rw [hs, if_pos rfl] at hq; rw [if_pos rfl]; exact live_run stp ok live hst r _ (ho.2 hs) (hst s x h ho.1 hs) hq
    | false => rw [hs] at hq; simp at hq
def R63b {S : Type} (R : S → Fm → Prop) (N : Nat) (l : Nat) (s : S) (m : Fm) : Prop := ∃ m0, R s m0 ∧ ¬ keyIn N m0 ∧ ¬ keyIn (N + 1) m0 ∧ ¬ keyIn (N + 2) m0 ∧ m = (N, .cells 0 (bound (.yld l)) 111 1 false [.yld l]) :: m0
/-- the place that is handed over -/
def bx63 (i k w : Nat) : AObj := .cells 0 0 32 1 false [.v (.int .i64 i), .v (.int .i64 k), .v (.int .i64 w)]
theorem bd2K_at' {S : Type} (R : S → Fm → Prop) (d : Nat) (L' : ALoop) (m : Fm) (H : Heap) (p : AExit × S) (e : AExit) (a : AAct) (H' : Heap) : AtK (bd2K R d L' m H p) e a H' = (e = p.1 ∧ ∃ m', R p.2 m' ∧ Has m' H' ∧ loopObj H' (d + 1) = some L' ∧ Moves ((d + 1, .loop L') :: m) H ((d + 1, .loop L') :: m') H') := rfl
set_option maxHeartbeats 4000000 in
theorem yields2_63 {e : Exts} (he : Quiet e) (ch : AV) (xs : List AV) (hch : SlOf 2 xs ch) (hall : ∀ y ∈ xs, OkCh2 y) (hlen : xs.length < 2 ^ 63) : Yields2 (Cx e) 63 [.ro (.agg [ch]) 0] (allIts xs) := by
  intro l S R stp ok live n0 k hsrc s m H hok hlv hR hH hlk hsz
  have hkn := hsrc.klock
  have hit : ∀ x ∈ chapIts 0 xs, It63 x := by
    intro x hx
    obtain ⟨i, y, j, z, hy, hz, rfl⟩ := chapIts_of xs 0 x hx
    obtain ⟨id, l0, lxs, rfl, hl0, -, hlx⟩ := hall y (List.mem_of_getElem? hy)
    have hz' : lxs[j]? = some z := by rw [← hl0.elems]; exact hz
    obtain ⟨els, h1, h2, h3⟩ := hlx z (List.mem_of_getElem? hz')
    exact ⟨0 + i, j, z, els, rfl, h1, h2, h3⟩
  have key : Fn' (Cx e) 63 [.yld l, .ro (.agg [ch]) 0] H fun v H' => v = .tup [] ∧ ∃ m', R (runIt stp (allIts xs) s).2 m' ∧ Has m' H' ∧ Moves m H m' H' := by
    obtain ⟨N, hN⟩ : ∃ N, H.size = N := ⟨_, rfl⟩
    have hlkN : H.lock ≤ N := by omega
    generalize hKK : (fun v H' => v = .tup [] ∧ ∃ m', R (runIt stp (allIts xs) s).2 m' ∧ Has m' H' ∧ Moves m H m' H' : PostO) = KK
    rw [fn_step (fn_63 e) (show Tryz.f63.body = some _ from rfl), ← plus_nil H]
    simp -implicitDefEqProofs only [Tryz.f63, go_sem, ↓reduceIte, Int.reduceEq, Int.reduceLT, Int.reduceLE, List.reduceReplicate, intA, setT_nil, setT_cons, ↓boolP_bool, ↓iteB_true, ↓iteB_false, sizeP hN, putP0 hN, putP hN, settleP0 hN, settleP hN, rowP0 hN, rowP hN, storeP0 hN hlkN, storeP hN hlkN, List.length_nil, Nat.add_zero, hch.cells, call64 he ch xs hch]
    have hN1 : (H.plus [some (.cells 0 (bound (.yld l)) 111 1 false [.yld l])]).size = N + 1 := by rw [plus_size, hN]; rfl
    have hgN : (H.plus [some (.cells 0 (bound (.yld l)) 111 1 false [.yld l])]).get N = some (.cells 0 (bound (.yld l)) 111 1 false [.yld l]) := plus_mid_get hN [] [] _
    refine wp_range2 (yields2_88 ch xs hch (fun y hy => (hall y hy).ok) hlen) rfl (R63b R N l) (stp63b stp) live (Ok63b stp ok) (n0 := N + 1) (k := k) (by rw [hN1]; exact Nat.le_refl _) (by omega) (fun x hx => ?_) ?_ ?_ (fun s x hl hx h => ?_) ?_ s ((N, .cells 0 (bound (.yld l)) 111 1 false [.yld l]) :: m) (okRun63b stp ok _ s hit hok) hlv ⟨m, hR, not_key hH (by omega), not_key hH (by omega), not_key hH (by omega), rfl⟩ ?_ (by rw [plus_lock]; exact hlk) ?_
    · obtain ⟨i, k, lx, els, rfl, -⟩ := hit x hx
      rfl
    · rintro s' m' ⟨m0, hR0, k1, k2, k3, rfl⟩ n hn ⟨p, hp, hpn⟩
      rcases List.mem_cons.1 hp with rfl | hp
      · simp only at hpn; omega
      · obtain ⟨q, hq, h1, h2⟩ := hsrc.anch s' m0 hR0 n (by omega) ⟨p, hp, hpn⟩
        exact ⟨q, List.mem_cons_of_mem _ hq, h1, h2⟩
    · rintro s' m' ⟨m0, hR0, k1, k2, k3, rfl⟩
      rw [hN1]
      constructor
      · rintro ⟨p, hp, he⟩
        rcases List.mem_cons.1 hp with rfl | hp
        · simp only at he; omega
        · exact k2 ⟨p, hp, he⟩
      · rintro ⟨p, hp, he⟩
        rcases List.mem_cons.1 hp with rfl | hp
        · simp only at he; omega
        · exact k3 ⟨p, hp, he⟩
    · obtain ⟨i, kk, lx, els, rfl, h1, h2, h3, h4⟩ := hx
      refine live_run stp ok live hsrc.step _ _ h4 hl ?_
      unfold stp63b at h
      simp only at h
      cases hq : (runIt stp (expandL [placeA i kk 0, lx]) s).1 with
      | true => rfl
      | false => rw [hq] at h; cases h
    · rw [hN1]
      rintro L L' s x' x H' - hl ⟨i, kk, lx, els, rfl, hels, hec, hel, hokx⟩ - ⟨m0, hR0, k1, k2, k3, rfl⟩ hHm hd0 hlo hlk' hsz'
      have hHm0 : Has m0 H' := fun p hp => hHm p (List.mem_cons_of_mem _ hp)
      obtain ⟨N2, hN2⟩ : ∃ N2, H'.size = N2 := ⟨_, rfl⟩
      have hlk2 : H'.lock ≤ N2 := by omega
      have hp1 : stp63b stp s [placeA i kk 0, lx] = (if (runIt stp (wIts (intA i) (intA kk) 0 els) s).1 then .normal else .ret, (runIt stp (wIts (intA i) (intA kk) 0 els) s).2) := by
        unfold stp63b
        rw [show expandL [placeA i kk 0, lx] = wIts (intA i) (intA kk) 0 (slElems lx) from rfl, hels.elems]
      generalize stp63b stp s [placeA i kk 0, lx] = p63 at hp1 ⊢
      have hgN' : H'.get N = some (.cells 0 (bound (.yld l)) 111 1 false [.yld l]) := hHm (N, _) (List.mem_cons_self ..)
      rw [← plus_nil H']
      simp -implicitDefEqProofs only [go_sem, ↓reduceIte, Int.reduceEq, Int.reduceLT, Int.reduceLE, List.reduceReplicate, intA, setT_nil, setT_cons, ↓boolP_bool, ↓iteB_true, ↓iteB_false, placeA, List.zip_cons_cons, List.zip_nil_right, List.zip_nil_left, sizeP hN2, putP0 hN2, putP hN2, settleP0 hN2, settleP hN2, rowP0 hN2, rowP hN2, storeP0 hN2 hlk2, storeP hN2 hlk2, List.length_nil, Nat.add_zero]
      obtain ⟨E0, hE0⟩ : ∃ E0 : List (Option AObj), [some (.cells 0 0 32 1 false [.v (.int .i64 i), .v (.int .i64 kk), .v (.int .i64 0)])] = E0 := ⟨_, rfl⟩
      have hlo1 : loopObj (H'.plus E0) (N + 1 + 1) = some L := get_loopObj ((plus_get _ (by omega)).trans (loopObj_getI hlo))
      rw [hE0, plus_nil]
      refine ⟨rfl, hlo1, ?_⟩
      obtain ⟨X, hX⟩ : ∃ X, (H'.plus E0).put (N + 1 + 1) (.loop L') = X := ⟨_, rfl⟩
      have hszE : (H'.plus E0).size = N2 + 1 := by rw [plus_size, hN2, ← hE0]; rfl
      have hN3 : X.size = N2 + 1 := by rw [← hX, put_sizeI _ (by omega)]; exact hszE
      have hXg : ∀ b, b ≠ N + 1 + 1 → b < N2 → X.get b = H'.get b := fun b hb hb2 => by rw [← hX, put_get_ne _ (by omega) hb]; exact plus_get _ (by omega)
      have hXlk : X.lock = k := by rw [← hX]; exact hlk'
      have hlk3 : X.lock ≤ N2 + 1 := by omega
      have hXL : X.get (N + 1 + 1) = some (.loop L') := by rw [← hX]; exact put_get_eq _ (by omega)
      have hXc : X.get N2 = some (bx63 i kk 0) := by rw [← hX, put_get_ne _ (by omega) (by omega), ← hE0]; exact plus_mid_get hN2 [] [] _
      have hXH : Has m0 X := fun p hp => (hXg p.1 (fun he => k3 ⟨p, hp, by omega⟩) (by have := get_ltS (hHm0 p hp); omega)).trans (hHm0 p hp)
      have hXN : X.get N = some (.cells 0 (bound (.yld l)) 111 1 false [.yld l]) := (hXg N (by omega) (by omega)).trans hgN'
      have hltX : ∀ p ∈ m0, p.1 < N2 := fun p hp => by have := get_ltS (hHm0 p hp); omega
      have hel2 := hels.len
      rw [hX, ← plus_nil X]
      simp -implicitDefEqProofs only [go_sem, ↓reduceIte, Int.reduceEq, Int.reduceLT, Int.reduceLE, List.reduceReplicate, intA, setT_nil, setT_cons, ↓boolP_bool, ↓iteB_true, ↓iteB_false, hel2, sizeP hN3, putP0 hN3, putP hN3, settleP0 hN3, settleP hN3, rowP0 hN3, rowP hN3, storeP0 hN3 hlk3, storeP hN3 hlk3, List.length_nil, Nat.add_zero]
      have hoff : ∀ b, b ≤ N + 2 → ¬ keyIn b m0 → ¬ keyIn b ((N2, bx63 i kk 0) :: m0) := by
        rintro b hb hnb ⟨p, hp, he⟩
        rcases List.mem_cons.1 hp with rfl | hp
        · simp only at he; omega
        · exact hnb ⟨p, hp, he⟩
      have hend : ∀ s2 m2 w H2, R s2 m2 → Has ((N2, bx63 i kk w) :: m2) H2 → Moves ((N2, bx63 i kk 0) :: m0) X ((N2, bx63 i kk w) :: m2) H2 →
          ∃ m', R63b R N l s2 m' ∧ Has m' H2 ∧ loopObj H2 (N + 1 + 1) = some L' ∧ Moves ((N + 1 + 1, .loop L') :: (N, .cells 0 (bound (.yld l)) 111 1 false [.yld l]) :: m0) H' ((N + 1 + 1, .loop L') :: m') H2 := by
        intro s2 m2 w H2 hR2 hH2 hmv
        have hoff2 : ∀ b, b ≤ N + 2 → ¬ keyIn b m0 → ¬ keyIn b m2 := by
          rintro b hb hnb ⟨p, hp, he⟩
          rcases hmv.keys p (List.mem_cons_of_mem _ hp) with h | h
          · rw [he] at h; exact hoff b hb hnb h
          · omega
        refine ⟨(N, .cells 0 (bound (.yld l)) 111 1 false [.yld l]) :: m2, ⟨m2, hR2, hoff2 _ (by omega) k1, hoff2 _ (by omega) k2, hoff2 _ (by omega) k3, rfl⟩, fun p hp => ?_, get_loopObj ((hmv.same _ (by omega) (hoff _ (by omega) k3)).trans hXL), ?_, ?_, fun b hb hnb => ?_, fun p hp => ?_⟩
        · rcases List.mem_cons.1 hp with rfl | hp
          · exact (hmv.same N (by omega) (hoff _ (by omega) k1)).trans hXN
          · exact hH2 p (List.mem_cons_of_mem _ hp)
        · rw [hmv.lock, hXlk, hlk']
        · have := hmv.size; omega
        · have h9 : ¬ keyIn b m0 := fun ⟨q, hq, he⟩ => hnb ⟨q, List.mem_cons_of_mem _ (List.mem_cons_of_mem _ hq), he⟩
          have h10 : b ≠ N + 1 + 1 := fun he => hnb ⟨_, List.mem_cons_self .., he.symm⟩
          rw [hmv.same b (by omega) ?_, hXg b h10 (by omega)]
          rintro ⟨q, hq, he⟩
          rcases List.mem_cons.1 hq with rfl | hq
          · simp only at he; omega
          · exact h9 ⟨q, hq, he⟩
        · rcases List.mem_cons.1 hp with rfl | hp
          · exact Or.inl ⟨_, List.mem_cons_self .., rfl⟩
          · rcases List.mem_cons.1 hp with rfl | hp
            · exact Or.inl ⟨_, List.mem_cons_of_mem _ (List.mem_cons_self ..), rfl⟩
            · rcases hmv.keys p (List.mem_cons_of_mem _ hp) with ⟨q, hq, he⟩ | h
              · rcases List.mem_cons.1 hq with rfl | hq
                · simp only at he; exact Or.inr (by omega)
                · exact Or.inl ⟨q, List.mem_cons_of_mem _ (List.mem_cons_of_mem _ hq), he⟩
              · exact Or.inr (by omega)
      have hoks : okRun stp ok (wIts (intA i) (intA kk) 0 els) s := by
        rw [show expandL [placeA i kk 0, lx] = wIts (intA i) (intA kk) 0 (slElems lx) from rfl, hels.elems] at hokx; exact hokx
      have hN2m : ¬ keyIn N2 m0 := fun ⟨p, hp, he⟩ => by have := hltX p hp; omega
      rw [plus_nil]
      refine Lp_rule (P := fun μ a H2 => ∃ (j w : Nat) (s2 : S) (m2 : Fm), j + μ = els.length ∧ a = ⟨26, [(0, .yld l), (1, .ro (.agg [ch]) 0), (2, .ptr N 0 0), (8, .fn (.func 88) [] [.ro (.agg [ch]) 0]), (9, .agg [.v (.int .i64 i), .v (.int .i64 kk), .v (.int .i64 0)]), (10, lx), (3, .ptr N2 0 0), (4, lx), (11, lx), (12, intA els.length), (13, intA j)], []⟩ ∧ live s2 ∧ R s2 m2 ∧ ¬ keyIn N2 m2 ∧ Has ((N2, bx63 i kk w) :: m2) H2 ∧ Moves ((N2, bx63 i kk 0) :: m0) X ((N2, bx63 i kk w) :: m2) H2 ∧ runIt stp (wIts (intA i) (intA kk) 0 els) s = runIt stp (wIts (intA i) (intA kk) j (els.drop j)) s2 ∧ okRun stp ok (wIts (intA i) (intA kk) j (els.drop j)) s2) ?_ els.length _ _ ⟨0, 0, s, m0, by omega, rfl, hl, hR0, hN2m, ?_, Moves.refl _ _, rfl, hoks⟩
      · rintro μ _ H2 ⟨j, w, s2, m2, hj, rfl, hl2, hR2, hnk, hH2, hmv, hrun, hok2⟩
        obtain ⟨M, hM⟩ : ∃ M, H2.size = M := ⟨_, rfl⟩
        have hMs := hmv.size
        have hbxg : H2.get N2 = some (bx63 i kk w) := hH2 (N2, _) (List.mem_cons_self ..)
        have hH2k : H2.lock = k := hmv.lock.trans hXlk
        cases μ with
        | zero =>
          obtain rfl : j = els.length := by omega
          rw [List.drop_of_length_le (Nat.le_refl _)] at hrun
          rw [hrun] at hp1
          simp only [runIt, wIts, if_true] at hp1
          subst hp1
          simp -implicitDefEqProofs only [go_sem, ↓reduceIte, Int.reduceEq, Int.reduceLT, Int.reduceLE, List.reduceReplicate, intA, setT_nil, setT_cons, ↓boolP_bool, ↓iteB_true, ↓iteB_false, Int.lt_irrefl, hM, settle_eqN hM, trim_eqN hM, bd2K_at']
          exact hend _ _ _ _ hR2 hH2 hmv
        | succ μ =>
          obtain ⟨x, hx⟩ := at_lt els j (by omega)
          have hxc := hec x (List.mem_of_getElem? hx)
          have hltj : (j : Int) < ((els.length : Nat) : Int) := by omega
          have hwj := wrap_succ j (by omega)
          have hdr := wIts_drop (intA i) (intA kk) els j x hx
          rw [hdr] at hrun hok2
          obtain ⟨Y, hY⟩ : ∃ Y, H2.put N2 (bx63 i kk j) = Y := ⟨_, rfl⟩
          have hst : storeCells H2 N2 0 2 [.v (.int .i64 j)] = some Y := by
            have hr := row_of (v := 0) hbxg
            unfold storeCells
            rw [hr]
            simp only [if_true]
            rw [if_pos ⟨by omega, by simp, rfl⟩, ← hY]
            rfl
          have hYs : Y.size = M := by rw [← hY, put_sizeI _ (by omega)]; exact hM
          have hYk : Y.lock = k := by rw [← hY]; exact hH2k
          have hYg : Y.get N2 = some (bx63 i kk j) := by rw [← hY]; exact put_get_eq _ (by omega)
          have hYo : ∀ b, b ≠ N2 → b ≤ M → Y.get b = H2.get b := fun b hb hb2 => by rw [← hY]; exact put_get_ne _ (by omega) hb
          have hYm : Has m2 Y := fun p hp => by
            have h1 := hH2 p (List.mem_cons_of_mem _ hp)
            rw [hYo p.1 (fun he => hnk ⟨p, hp, he⟩) (by have := get_ltS h1; omega)]; exact h1
          have hYN : Y.get N = some (.cells 0 (bound (.yld l)) 111 1 false [.yld l]) := by
            rw [hYo N (by omega) (by omega)]
            exact (hmv.same N (by omega) (hoff _ (by omega) k1)).trans hXN
          have hrN := row_of (v := 0) hYN
          have hrB := row_of (v := 0) hYg
          obtain ⟨H3, H4, m4, hr3, hr4, hR4, hH4, hmv4⟩ := hsrc.round' s2 m2 [placeB (intA i) (intA kk) j, x] Y hl2 hok2.1 hR2 hYm hYk (by omega)
          rw [hYs] at hr4
          have hstp := hsrc.step s2 [placeB (intA i) (intA kk) j, x] hl2 hok2.1
          have hnk4 : ¬ keyIn N2 m4 := by
            rintro ⟨p, hp, he⟩
            rcases hmv4.keys p hp with h | h
            · rw [he] at h; exact hnk h
            · omega
          have hHas4 : ∀ Z, Moves m2 Y m4 Z → Has m4 Z → Has ((N2, bx63 i kk j) :: m4) Z := fun Z hz hHz p hp => by
            rcases List.mem_cons.1 hp with rfl | hp
            · exact (hz.same N2 (by omega) hnk).trans hYg
            · exact hHz p hp
          have hT : ∀ Z, Moves m2 Y m4 Z → Moves ((N2, bx63 i kk 0) :: m0) X ((N2, bx63 i kk j) :: m4) Z := by
            intro Z hz
            have hs4 := hz.size
            refine ⟨hz.lock.trans (hYk.trans hXlk.symm), by omega, fun b hb hnb => ?_, fun p hp => ?_⟩
            · have hb2 : ¬ keyIn b m2 := fun ⟨p, hp, he⟩ => by
                rcases hmv.keys p (List.mem_cons_of_mem _ hp) with h | h
                · rw [he] at h; exact hnb h
                · omega
              rw [hz.same b (by omega) hb2, hYo b (fun he => hnb ⟨_, List.mem_cons_self .., he.symm⟩) (by omega)]
              exact hmv.same b hb hnb
            · rcases List.mem_cons.1 hp with rfl | hp
              · exact Or.inl ⟨_, List.mem_cons_self .., rfl⟩
              · rcases hz.keys p hp with ⟨q, hq, he⟩ | h
                · rw [← he]; exact hmv.keys q (List.mem_cons_of_mem _ hq)
                · exact Or.inr (by omega)
          rw [runIt_cons] at hrun
          cases hb : (stp s2 [placeB (intA i) (intA kk) j, x]).1
          · rw [hb] at hr3 hrun
            simp only [placeB, intA] at hr3
            simp only [Bool.false_eq_true, if_false] at hrun
            rw [hrun] at hp1
            simp only [Bool.false_eq_true, if_false] at hp1
            subst hp1
            simp -implicitDefEqProofs only [go_sem, ↓reduceIte, Int.reduceEq, Int.reduceLT, Int.reduceLE, List.reduceReplicate, intA, setT_nil, setT_cons, ↓boolP_bool, ↓iteB_true, ↓iteB_false, hltj, hM, settle_eqN hM, trim_eqN hM, hwj, hels.idx hx, hxc, hst, hYs, settle_eqN hYs, trim_eqN hYs, hrN, hrB, bx63, hr3, hr4, bd2K_at']
            exact hend _ _ _ _ hR4 (hHas4 _ hmv4 hH4) (hT _ hmv4)
          · rw [hb] at hr3 hrun
            simp only [placeB, intA] at hr3
            simp only [if_true] at hrun
            simp -implicitDefEqProofs only [go_sem, ↓reduceIte, Int.reduceEq, Int.reduceLT, Int.reduceLE, List.reduceReplicate, intA, setT_nil, setT_cons, ↓boolP_bool, ↓iteB_true, ↓iteB_false, hltj, hM, settle_eqN hM, trim_eqN hM, hwj, hels.idx hx, hxc, hst, hYs, settle_eqN hYs, trim_eqN hYs, hrN, hrB, bx63, hr3, hr4]
            exact ⟨μ, by omega, j + 1, j, _, m4, by omega, rfl, hstp hb, hR4, hnk4, hHas4 _ (hmv4.trim _ _ hYs.symm) (hH4.trim (hsrc.anch _ _ hR4) (by omega) _ _), hT _ (hmv4.trim _ _ hYs.symm), hrun, hok2.2 hb⟩
      · intro p hp
        rcases List.mem_cons.1 hp with rfl | hp
        · exact hXc
        · exact hXH p hp
    · intro p hp
      rcases List.mem_cons.1 hp with rfl | hp
      · exact hgN
      · exact hH.plus _ p hp
    · rw [hN1]
      rintro m' H' ⟨m1, hR1, k1, k2, k3, rfl⟩ hH1 hd hdd hmv hsz'
      rw [fold63b] at hR1 ⊢
      rw [show (chapIts 0 xs).flatMap expandL = allIts xs from rfl] at hR1 ⊢
      generalize hr : runIt stp (allIts xs) s = r at hKK hR1 ⊢
      simp only at hR1 ⊢
      have hlk' : H'.lock = k := by rw [hmv.lock, plus_lock]; exact hlk
      have hkill : killAll [N + 1] H' = some (H'.put (N + 1) .dead) := by
        unfold killAll
        rw [hd]
        simp only
        rw [if_pos (by omega)]
        unfold killAll; rfl
      have hfin : ∃ m', R r.2 m' ∧ Has m' (H'.put (N + 1) .dead) ∧ Moves m H m' (H'.put (N + 1) .dead) := by
        refine ⟨m1, hR1, fun p hp => ?_, ?_, ?_, fun b hb hnb => ?_, fun p hp => ?_⟩
        · rw [put_get_ne _ (by omega) (fun he => k2 ⟨p, hp, he⟩)]
          exact hH1 p (List.mem_cons_of_mem _ hp)
        · show H'.lock = H.lock
          omega
        · rw [put_sizeI _ (by omega)]; omega
        · rw [put_get_ne _ (by omega) (by omega), hmv.same b (by omega) ?_]
          · exact plus_get _ hb
          · rintro ⟨q, hq, he⟩
            rcases List.mem_cons.1 hq with rfl | hq
            · simp only at he; omega
            · exact hnb ⟨q, hq, he⟩
        · rcases hmv.keys p (List.mem_cons_of_mem _ (List.mem_cons_of_mem _ hp)) with ⟨q, hq, he⟩ | h
          · rcases List.mem_cons.1 hq with rfl | hq
            · exact absurd ⟨p, hp, he.symm⟩ k1
            · exact Or.inl ⟨q, hq, he⟩
          · exact Or.inr (by omega)
      subst hKK
      cases hb : r.1 with
      | true =>
        simp -implicitDefEqProofs only [go_sem, ↓reduceIte, Int.reduceEq, Int.reduceLT, Int.reduceLE, List.reduceReplicate, intA, setT_nil, setT_cons, ↓boolP_bool, ↓iteB_true, ↓iteB_false, hkill]
        exact ⟨rfl, hfin⟩
      | false =>
        simp -implicitDefEqProofs only [go_sem, ↓reduceIte, Int.reduceEq, Int.reduceLT, Int.reduceLE, List.reduceReplicate, intA, setT_nil, setT_cons, ↓boolP_bool, ↓iteB_true, ↓iteB_false, hkill]
        exact ⟨rfl, hfin⟩
  obtain ⟨v, H', h1, h2⟩ : ∃ v H', lim (Cx e) (.call 63 ([.yld l] ++ [.ro (.agg [ch]) 0]) H) = some (.ret v H') ∧ (v = .tup [] ∧ ∃ m', R (runIt stp (allIts xs) s).2 m' ∧ Has m' H' ∧ Moves m H m' H') := by
    unfold Fn' at key
    rw [bindO_iff] at key
    obtain ⟨o, h1, h2⟩ := key
    cases o with
    | ret v H' => exact ⟨v, H', h1, h2⟩
    | _ => exact h2.elim
  obtain ⟨rfl, m', h3, h4, h5⟩ := h2
  exact ⟨H', m', h1, h3, h4, h5⟩
end Go.Ev
namespace Go.Ev
open Go.Proofs Go.Sort
set_option maxRecDepth 100000
set_option linter.unusedSimpArgs false
attribute [local irreducible] Wp WpS
/-! ### the places of each word -/
def strK (w : ByteArray) : AV := .v (.string w)
abbrev TbW := List (ByteArray × List P3)
def addT (w : ByteArray) (p : P3) : TbW → TbW
  | [] => [(w, [p])]
  | x :: r => if x.1 = w then (x.1, x.2 ++ [p]) :: r else x :: addT w p r
theorem addT_in (w : ByteArray) (p : P3) : ∀ (a : TbW) (x : ByteArray × List P3) (b : TbW), w ∉ a.map (·.1) → x.1 = w → addT w p (a ++ x :: b) = a ++ (x.1, x.2 ++ [p]) :: b
  | [], x, b, _, h => by show (if x.1 = w then _ else _) = _; rw [if_pos h]; rfl
  | y :: a, x, b, hn, h => by
    simp only [List.map_cons, List.mem_cons, not_or] at hn
    show (if y.1 = w then _ else y :: addT w p (a ++ x :: b)) = _
    rw [if_neg (fun e => hn.1 e.symm), addT_in w p a x b hn.2 h]; rfl
theorem addT_out (w : ByteArray) (p : P3) : ∀ (a : TbW), w ∉ a.map (·.1) → addT w p a = a ++ [(w, [p])]
  | [], _ => rfl
  | y :: a, hn => by
    simp only [List.map_cons, List.mem_cons, not_or] at hn
    show (if y.1 = w then _ else _) = _
    rw [if_neg (fun e => hn.1 e.symm), addT_out w p a hn.2]; rfl
/-- an entry of the map, and the row that its value leads to -/
def TabR (x : ByteArray × List P3) (e : AV × AV × Nat) (r : Nat × AObj) : Prop := e.1 = strK x.1 ∧ x.2 ≠ [] ∧ ∃ ver, e.2.1 = .sl r.1 ver 0 x.2.length none ∧ r.2 = .cells ver 0 32 3 true (clP x.2)
def TabM : TbW → List (AV × AV × Nat) → Fm → Prop
  | [], [], [] => True
  | x :: tb, e :: es, r :: rows => TabR x e r ∧ TabM tb es rows
  | _, _, _ => False
theorem TabM.app : ∀ {tb1 tb2 : TbW} {es1 es2 : List (AV × AV × Nat)} {r1 r2 : Fm}, TabM tb1 es1 r1 → TabM tb2 es2 r2 → TabM (tb1 ++ tb2) (es1 ++ es2) (r1 ++ r2)
  | [], _, [], _, [], _, _, h => h
  | _ :: _, _, _ :: _, _, _ :: _, _, h1, h2 => ⟨h1.1, h1.2.app h2⟩
  | [], _, _ :: _, _, _, _, h, _ => h.elim
  | [], _, [], _, _ :: _, _, h, _ => h.elim
  | _ :: _, _, [], _, _, _, h, _ => h.elim
  | _ :: _, _, _ :: _, _, [], _, h, _ => h.elim
theorem TabM.keys : ∀ {tb : TbW} {es : List (AV × AV × Nat)} {rows : Fm}, TabM tb es rows → es.map (·.1) = tb.map fun x => strK x.1
  | [], [], [], _ => rfl
  | x :: tb, e :: es, r :: rows, h => by rw [List.map_cons, List.map_cons, h.1.1, h.2.keys]
  | [], _ :: _, _, h => h.elim
  | [], [], _ :: _, h => h.elim
  | _ :: _, [], _, h => h.elim
  | _ :: _, _ :: _, [], h => h.elim
theorem TabM.split (w : ByteArray) : ∀ {tb : TbW} {es : List (AV × AV × Nat)} {rows : Fm}, TabM tb es rows → w ∈ tb.map (·.1) →
    ∃ tb1 x tb2 es1 e es2 r1 r r2, tb = tb1 ++ x :: tb2 ∧ x.1 = w ∧ w ∉ tb1.map (·.1) ∧ es = es1 ++ e :: es2 ∧ rows = r1 ++ r :: r2 ∧ TabM tb1 es1 r1 ∧ TabR x e r ∧ TabM tb2 es2 r2
  | [], [], [], _, hm => by simp at hm
  | x :: tb, e :: es, r :: rows, h, hm => by
    by_cases hx : x.1 = w
    · exact ⟨[], x, tb, [], e, es, [], r, rows, rfl, hx, by simp, rfl, rfl, trivial, h.1, h.2⟩
    · have hm2 : w ∈ tb.map (·.1) := by
        simp only [List.map_cons, List.mem_cons] at hm
        exact hm.resolve_left fun e => hx e.symm
      obtain ⟨tb1, x', tb2, es1, e', es2, r1, r', r2, rfl, h2, h3, rfl, rfl, h4, h5, h6⟩ := h.2.split w hm2
      refine ⟨x :: tb1, x', tb2, e :: es1, e', es2, r :: r1, r', r2, rfl, h2, ?_, rfl, rfl, ⟨h.1, h4⟩, h5, h6⟩
      simp only [List.map_cons, List.mem_cons, not_or]
      exact ⟨fun e => hx e.symm, h3⟩
  | [], _ :: _, _, h, _ => h.elim
  | [], [], _ :: _, h, _ => h.elim
  | _ :: _, [], _, h, _ => h.elim
  | _ :: _, _ :: _, [], h, _ => h.elim
/-! what is found in a map -/
theorem keyEq_str (P : Program) (kt : TypeId) (a b : ByteArray) : keyEq P kt (strK a) (strK b) = some (decide (a = b)) := by
  unfold keyEq strK
  simp only [bytesEq_iff]
  congr 1
  refine decide_eq_decide.2 ⟨fun h => ?_, fun h => by rw [h]⟩
  obtain ⟨⟨a⟩⟩ := a
  obtain ⟨⟨b⟩⟩ := b
  simp only at h
  rw [h]
theorem find_skip (P : Program) (kt : TypeId) (w : ByteArray) : ∀ (es : List (AV × AV × Nat)) (ws : List ByteArray) (i : Nat) (rest : List (AV × AV × Nat)), es.map (·.1) = ws.map strK → w ∉ ws → findKeyA P kt (strK w) (es ++ rest) i = findKeyA P kt (strK w) rest (i + es.length)
  | [], _, i, rest, _, _ => rfl
  | (k, v, c) :: es, ws, i, rest, h, hn => by
    cases ws with
    | nil => cases h
    | cons y ws =>
      simp only [List.map_cons, List.cons.injEq] at h
      simp only [List.mem_cons, not_or] at hn
      obtain ⟨rfl, h2⟩ := h
      show (match keyEq P kt (strK w) (strK y) with | some true => _ | some false => findKeyA P kt (strK w) (es ++ rest) (i + 1) | none => none) = _
      rw [keyEq_str, decide_eq_false hn.1]
      simp only
      rw [find_skip P kt w es ws (i + 1) rest h2 hn.2, List.length_cons]
      congr 1; omega
theorem find_here (P : Program) (kt : TypeId) (w : ByteArray) (v : AV) (c : Nat) (rest : List (AV × AV × Nat)) (i : Nat) : findKeyA P kt (strK w) ((strK w, v, c) :: rest) i = some (some (i, v)) := by
  show (match keyEq P kt (strK w) (strK w) with | some true => some (some (i, v)) | some false => _ | none => none) = _
  rw [keyEq_str, decide_eq_true rfl]
theorem setVal_at (k v : AV) : ∀ (a : List (AV × AV × Nat)) (e : AV × AV × Nat) (b : List (AV × AV × Nat)), setVal k v a.length (a ++ e :: b) = a ++ (k, v, e.2.2) :: b
  | [], (_, _, c), b => rfl
  | x :: a, e, b => by
    show x :: setVal k v a.length (a ++ e :: b) = _
    rw [setVal_at k v a e b]; rfl
theorem mapOk90 (w : ByteArray) : mapKeyOk Tryz.prog 90 (strK w) = some (9, 47) := by kernel_rfl
theorem zero47' : zeroT Tryz.prog 47 = some (.v (.slice none 0 0)) := by kernel_rfl
theorem look_in {G : Heap} {mb mx c : Nat} {es : List (AV × AV × Nat)} (hg : G.get mb = some (.map mx es c)) {w : ByteArray} {i : Nat} {v : AV} (hf : findKeyA Tryz.prog 9 (strK w) es 0 = some (some (i, v))) (ok : Bool) :
    lookupA Tryz.prog G 90 (.mp mb) (strK w) ok = some (if ok then .tup [v, .v (.bool true)] else v) := by
  unfold lookupA mapOfA
  simp only [mapOk90, hg, zero47', hf]
theorem look_out {G : Heap} {mb mx c : Nat} {es : List (AV × AV × Nat)} (hg : G.get mb = some (.map mx es c)) {w : ByteArray} (hf : findKeyA Tryz.prog 9 (strK w) es 0 = some none) (ok : Bool) :
    lookupA Tryz.prog G 90 (.mp mb) (strK w) ok = some (if ok then .tup [.v (.slice none 0 0), .v (.bool false)] else .v (.slice none 0 0)) := by
  unfold lookupA mapOfA
  simp only [mapOk90, hg, zero47', hf]
theorem upd_in {G : Heap} {mb mx c : Nat} {es : List (AV × AV × Nat)} (hg : G.get mb = some (.map mx es c)) (hl : G.lock ≤ mb) {w : ByteArray} {i : Nat} {v : AV} (hf : findKeyA Tryz.prog 9 (strK w) es 0 = some (some (i, v))) {e : AV × AV × Nat} (he : es[i]? = some e) (v' : AV) :
    updateA Tryz.prog G 90 (.mp mb) (strK w) v' = some (G.put mb (.map (Nat.max mx (bound v')) (setVal (strK w) v' i es) c)) := by
  obtain ⟨k', x1, x2⟩ := e
  unfold updateA
  simp only [mapOk90, hg, hl, if_true, hf, he]
  have : sameKey k' (strK w) = true := by unfold sameKey strK; cases k' <;> rfl
  rw [this]; rfl
theorem upd_out {G : Heap} {mb mx c : Nat} {es : List (AV × AV × Nat)} (hg : G.get mb = some (.map mx es c)) (hl : G.lock ≤ mb) {w : ByteArray} (hf : findKeyA Tryz.prog 9 (strK w) es 0 = some none) (v' : AV) :
    updateA Tryz.prog G 90 (.mp mb) (strK w) v' = some (G.put mb (.map (Nat.max mx (bound v')) (es ++ [(strK w, v', c)]) (c + 1))) := by
  unfold updateA
  simp only [mapOk90, hg, hl, if_true, hf]
end Go.Ev
namespace Go.Ev
open Go.Proofs Go.Sort
set_option maxRecDepth 100000
set_option linter.unusedSimpArgs false
attribute [local irreducible] Wp WpS
/-! ### the map of places by words -/
def plI (p : Plc) : P3 := (p.1, p.2.1, p.2.2)
def addI (s : TbW) (x : List AV) : TbW := match x with
  | [.agg [.v (.int _ a), .v (.int _ b), .v (.int _ c)], .v (.string w)] => addT w (a, b, c) s
  | _ => s
def stp46 (s : TbW) (x : List AV) : AExit × TbW := (.normal, addI s x)
def cntT (s : TbW) : Nat := (s.map fun x => x.2.length).sum
theorem cnt_add (w : ByteArray) (p : P3) : ∀ s : TbW, cntT (addT w p s) = cntT s + 1
  | [] => rfl
  | x :: r => by
    unfold addT
    split
    · unfold cntT; simp only [List.map_cons, List.sum_cons, List.length_append, List.length_cons, List.length_nil]; omega
    · have := cnt_add w p r
      unfold cntT at *; simp only [List.map_cons, List.sum_cons]; omega
theorem cnt_mem {s : TbW} {x : ByteArray × List P3} (h : x ∈ s) : x.2.length ≤ cntT s := by
  unfold cntT
  induction s with
  | nil => cases h
  | cons y r ih =>
    simp only [List.map_cons, List.sum_cons]
    rcases List.mem_cons.1 h with rfl | h
    · omega
    · have := ih h; omega
def ok46 (s : TbW) (x : List AV) : Prop := (∃ y : Plc × ByteArray, x = itW y) ∧ cntT s < 2 ^ 31
def tabW (l : List (Plc × ByteArray)) (s : TbW) : TbW := l.foldl (fun s y => addT y.2 (plI y.1) s) s
theorem run46 : ∀ (l : List (Plc × ByteArray)) (s : TbW), cntT s + l.length < 2 ^ 31 → okRun (fun s x => (isGo (stp46 s x).1, (stp46 s x).2)) ok46 (l.map itW) s ∧ foldE stp46 (l.map itW) s = (.normal, tabW l s)
  | [], s, _ => ⟨trivial, rfl⟩
  | y :: r, s, h => by
    rw [List.length_cons] at h
    have ih := run46 r (addT y.2 (plI y.1) s) (by rw [cnt_add]; omega)
    rw [List.map_cons]
    refine ⟨⟨⟨⟨y, rfl⟩, by omega⟩, fun _ => ih.1⟩, ?_⟩
    rw [foldE_go rfl]
    exact ih.2
def base46 (N : Nat) (mx : Nat) (es : List (AV × AV × Nat)) (c : Nat) : Fm := [(N + 1, .map mx es c), (N + 2, .cells 0 (N + 2) 90 1 false [.mp (N + 1)])]
def R46 (N D : Nat) (s : TbW) (m : Fm) : Prop := ∃ es mx c rows, TabM s es rows ∧ (∀ p ∈ rows, D ≤ p.1 ∧ p.1 < mx) ∧ (rows.map (·.1)).Nodup ∧ m = base46 N mx es c ++ rows
theorem R46_anch {N D n0 : Nat} (h0 : N + 3 ≤ n0) (s : TbW) (m : Fm) (h : R46 N D s m) : Anch n0 m := by
  obtain ⟨es, mx, c, rows, -, hl, -, rfl⟩ := h
  rintro n hn ⟨p, hp, hnp⟩
  refine ⟨(N + 1, .map mx es c), List.mem_append_left _ (by unfold base46; simp), by show N + 1 < n; omega, ?_⟩
  show n < mx
  rcases List.mem_append.1 hp with hp | hp
  · unfold base46 at hp
    simp only [List.mem_cons, List.not_mem_nil, or_false] at hp
    rcases hp with rfl | rfl <;> (simp only at hnp; omega)
  · have := hl p hp; omega
theorem R46_free {N D d : Nat} (hd : N + 3 ≤ d) (hD : d < D) (s : TbW) (m : Fm) (h : R46 N D s m) : ¬ keyIn d m := by
  obtain ⟨es, mx, c, rows, -, hl, -, rfl⟩ := h
  rintro ⟨p, hp, he⟩
  rcases List.mem_append.1 hp with hp | hp
  · unfold base46 at hp
    simp only [List.mem_cons, List.not_mem_nil, or_false] at hp
    rcases hp with rfl | rfl <;> (simp only at he; omega)
  · have := hl p hp; omega
/-- what is left behind -/
def Q46 (X : Heap) (tb : TbW) : PostO := fun v H' => v = .mp (X.size + 1) ∧ H'.lock = X.lock ∧ X.size + 3 ≤ H'.size ∧ (∀ b, b < X.size → H'.get b = X.get b) ∧ ∃ es mx c rows, TabM tb es rows ∧ (∀ p ∈ rows, X.size + 3 ≤ p.1 ∧ p.1 < mx) ∧ (rows.map (·.1)).Nodup ∧ H'.get (X.size + 1) = some (.map mx es c) ∧ Has rows H'
@[go_sem] theorem objs_mp (b : Nat) : objsOf (.mp b) = [b] := rfl
@[go_sem] theorem bound_mp (b : Nat) : bound (.mp b) = b + 1 := rfl
@[go_sem] theorem eval_nilmap (s : Nat) (l : List (Tmp × AV)) (m : List Nat) : (AAct.mk s l m).eval (.const (.map none)) = some (.v (.map none)) := rfl
theorem fin46 {N M mx c mx' c' : Nat} {s' : TbW} {es es' : List (AV × AV × Nat)} {rows rows' : Fm} {H' W : Heap} {L' : ALoop} (hM : H'.size = M) (_hNM : N + 5 ≤ M) (hl : W.lock = H'.lock) (hs : M ≤ W.size) (h1 : W.get (N + 1) = some (.map mx' es' c')) (h2 : W.get (N + 2) = some (.cells 0 (N + 2) 90 1 false [.mp (N + 1)])) (h4 : W.get (N + 3 + 1) = some (.loop L'))
    (hr : Has rows' W) (hT : TabM s' es' rows') (hlo : ∀ p ∈ rows', N + 5 ≤ p.1 ∧ p.1 < mx') (hnd : (rows'.map (·.1)).Nodup) (hk : ∀ p ∈ rows', keyIn p.1 rows ∨ M ≤ p.1) (ho : ∀ b, b < M → b ≠ N + 1 → b ≠ N + 3 + 1 → ¬ keyIn b rows' → W.get b = H'.get b) :
    ∃ m', R46 N (N + 5) s' m' ∧ Has m' W ∧ loopObj W (N + 3 + 1) = some L' ∧ Moves ((N + 3 + 1, .loop L') :: (base46 N mx es c ++ rows)) H' ((N + 3 + 1, .loop L') :: m') W := by
  refine ⟨base46 N mx' es' c' ++ rows', ⟨es', mx', c', rows', hT, hlo, hnd, rfl⟩, fun p hp => ?_, get_loopObj h4, hl, by omega, fun b hb hnb => ?_, fun p hp => ?_⟩
  · rcases List.mem_append.1 hp with hp | hp
    · unfold base46 at hp
      simp only [List.mem_cons, List.not_mem_nil, or_false] at hp
      rcases hp with rfl | rfl
      · exact h1
      · exact h2
    · exact hr p hp
  · have hb1 : b ≠ N + 1 := fun e => hnb ⟨(N + 1, .map mx es c), List.mem_cons_of_mem _ (List.mem_append_left _ (by unfold base46; simp)), e.symm⟩
    have hb4 : b ≠ N + 3 + 1 := fun e => hnb ⟨_, List.mem_cons_self .., e.symm⟩
    refine ho b (by omega) hb1 hb4 fun ⟨p, hp, he⟩ => ?_
    rcases hk p hp with ⟨q, hq, he2⟩ | h
    · exact hnb ⟨q, List.mem_cons_of_mem _ (List.mem_append_right _ hq), by omega⟩
    · omega
  · rcases List.mem_cons.1 hp with rfl | hp
    · exact Or.inl ⟨_, List.mem_cons_self .., rfl⟩
    · rcases List.mem_append.1 hp with hp | hp
      · unfold base46 at hp
        simp only [List.mem_cons, List.not_mem_nil, or_false] at hp
        rcases hp with rfl | rfl
        · exact Or.inl ⟨(N + 1, .map mx es c), List.mem_cons_of_mem _ (List.mem_append_left _ (by unfold base46; simp)), rfl⟩
        · exact Or.inl ⟨(N + 2, .cells 0 (N + 2) 90 1 false [.mp (N + 1)]), List.mem_cons_of_mem _ (List.mem_append_left _ (by unfold base46; simp)), rfl⟩
      · rcases hk p hp with ⟨q, hq, he⟩ | h
        · exact Or.inl ⟨q, List.mem_cons_of_mem _ (List.mem_append_right _ hq), he⟩
        · exact Or.inr (by omega)
theorem clP_snoc (ps : List P3) (p : P3) : clP (ps ++ [p]) = clP ps ++ [.v (.int .i64 p.1), .v (.int .i64 p.2.1), .v (.int .i64 p.2.2)] := by
  rw [clP_append, clP_cons]; rfl
set_option maxHeartbeats 4000000 in
theorem fn46 {e : Exts} (he : Quiet e) {t : Txt} {ch : AV} {xs : List AV} (hch : SlOf 2 xs ch) (hall : All2 ChapA t xs) (hok : ∀ y ∈ xs, OkCh2 y) (hlen : xs.length < 2 ^ 63) (hw : (wordsT 0 t).length < 2 ^ 31) (X : Heap) (hlk : X.lock ≤ X.size) :
    Fn' (Cx e) 46 [.agg [ch]] X (Q46 X (tabW (wordsT 0 t) [])) := by
  obtain ⟨N, hN⟩ : ∃ N, X.size = N := ⟨_, rfl⟩
  have hlkN : X.lock ≤ N := by omega
  have hnz : ((N + 1 + 1 ≤ 0) : Prop) = False := by simp
  generalize hKK : Q46 X (tabW (wordsT 0 t) []) = KK
  rw [fn_step (fn_46 e) (show Tryz.f46.body = some _ from rfl), ← plus_nil X]
  simp -implicitDefEqProofs only [Tryz.f46, go_sem, ↓reduceIte, Int.reduceEq, Int.reduceLT, Int.reduceLE, List.reduceReplicate, intA, setT_nil, setT_cons, ↓boolP_bool, ↓iteB_true, ↓iteB_false, sizeP hN, putP0 hN, putP hN, settleP0 hN, settleP hN, rowP0 hN, rowP hN, storeP0 hN hlkN, storeP hN hlkN, List.length_nil, List.length_cons, Nat.add_zero, Nat.zero_add, hch.cells, hch.flat, hch.bound, call41 he ch xs hch, hnz, Nat.zero_le]
  obtain ⟨G, hG⟩ : ∃ G, X.plus [some (AObj.cells 0 0 79 1 false [ch]), some (AObj.map 0 [] 0), some (AObj.cells 0 (N + 1 + 1) 90 1 false [AV.mp (N + 1)])] = G := ⟨_, rfl⟩
  have hGs : G.size = N + 3 := by rw [← hG, plus_size, hN]; rfl
  have hG1 : G.get (N + 1) = some (.map 0 [] 0) := by rw [← hG]; exact plus_mid_get hN [some (AObj.cells 0 0 79 1 false [ch])] _ _
  have hG2 : G.get (N + 2) = some (.cells 0 (N + 2) 90 1 false [.mp (N + 1)]) := by rw [← hG]; exact plus_mid_get hN [some (AObj.cells 0 0 79 1 false [ch]), some (AObj.map 0 [] 0)] _ _
  have hGlo : ∀ b, b < N → G.get b = X.get b := fun b hb => by rw [← hG]; exact plus_get _ (by omega)
  have hGl : G.lock = X.lock := by rw [← hG]; rfl
  rw [hG]
  have hy : Yields2 (Cx e) 63 [.ro (.agg [ch]) 0] ((wordsT 0 t).map itW) := by rw [← allIts_eq hall]; exact yields2_63 he ch xs hch hok hlen
  have hrun := run46 (wordsT 0 t) [] (by show 0 + _ < _; omega)
  refine wp_range2 hy rfl (R46 N (N + 5)) stp46 (fun _ => True) ok46 (n0 := N + 3) (k := X.lock) (by rw [hGs]; exact Nat.le_refl _) (by omega) (fun x hx => ?_) (R46_anch (Nat.le_refl _)) (fun s m h => by rw [hGs]; exact ⟨R46_free (Nat.le_refl _) (by omega) s m h, R46_free (by omega) (by omega) s m h⟩) (fun _ _ _ _ _ => trivial) ?_ [] (base46 N 0 [] 0 ++ []) hrun.1 trivial ⟨[], 0, 0, [], trivial, (fun p hp => nomatch hp), List.nodup_nil, rfl⟩ ?_ hGl ?_
  · obtain ⟨y, -, rfl⟩ := List.mem_map.1 hx
    rfl
  · rw [hGs]
    rintro L L' s m x H' - - ⟨⟨⟨⟨p1, p2, p3⟩, w⟩, rfl⟩, hcnt⟩ - ⟨es, mx, c, rows, hT, hlo, hnd, rfl⟩ hHm hd0 hlp hlk' hsz'
    obtain ⟨M, hM⟩ : ∃ M, H'.size = M := ⟨_, rfl⟩
    have hlkM : H'.lock ≤ M := by omega
    have hp1 : stp46 s (itW ((p1, p2, p3), w)) = (.normal, addT w ((p1 : Int), (p2 : Int), (p3 : Int)) s) := rfl
    generalize stp46 s (itW ((p1, p2, p3), w)) = p46 at hp1 ⊢
    rw [← plus_nil H']
    simp -implicitDefEqProofs only [go_sem, ↓reduceIte, Int.reduceEq, Int.reduceLT, Int.reduceLE, List.reduceReplicate, intA, setT_nil, setT_cons, ↓boolP_bool, ↓iteB_true, ↓iteB_false, itW, plN, List.zip_cons_cons, List.zip_nil_right, List.zip_nil_left, sizeP hM, putP0 hM, putP hM, settleP0 hM, settleP hM, rowP0 hM, rowP hM, storeP0 hM hlkM, storeP hM hlkM, List.length_nil, Nat.add_zero]
    obtain ⟨E0, hE0⟩ : ∃ E0 : List (Option AObj), [some (.cells 0 0 32 1 false [.v (.int .i64 p1), .v (.int .i64 p2), .v (.int .i64 p3)])] = E0 := ⟨_, rfl⟩
    have hlo1 : loopObj (H'.plus E0) (N + 3 + 1) = some L := get_loopObj ((plus_get _ (by omega)).trans (loopObj_getI hlp))
    rw [hE0, plus_nil]
    refine ⟨rfl, hlo1, ?_⟩
    obtain ⟨Y, hY⟩ : ∃ Y, (H'.plus E0).put (N + 3 + 1) (.loop L') = Y := ⟨_, rfl⟩
    have hszE : (H'.plus E0).size = M + 1 := by rw [plus_size, hM, ← hE0]; rfl
    have hYs : Y.size = M + 1 := by rw [← hY, put_sizeI _ (by omega)]; exact hszE
    have hYg : ∀ b, b ≠ N + 3 + 1 → b < M → Y.get b = H'.get b := fun b hb hb2 => by rw [← hY, put_get_ne _ (by omega) hb]; exact plus_get _ (by omega)
    have hYl : Y.lock = X.lock := by rw [← hY]; exact hlk'
    have hlkY : Y.lock ≤ M + 1 := by omega
    have hYL : Y.get (N + 3 + 1) = some (.loop L') := by rw [← hY]; exact put_get_eq _ (by omega)
    have hYc : Y.get M = some (.cells 0 0 32 1 false [.v (.int .i64 p1), .v (.int .i64 p2), .v (.int .i64 p3)]) := by rw [← hY, put_get_ne _ (by omega) (by omega), ← hE0]; exact plus_mid_get hM [] [] _
    have hY1 : Y.get (N + 1) = some (.map mx es c) := (hYg _ (by omega) (by omega)).trans (hHm (N + 1, _) (List.mem_append_left _ (by unfold base46; simp)))
    have hY2 : Y.get (N + 2) = some (.cells 0 (N + 2) 90 1 false [.mp (N + 1)]) := (hYg _ (by omega) (by omega)).trans (hHm (N + 2, _) (List.mem_append_left _ (by unfold base46; simp)))
    have hrM : ∀ p ∈ rows, p.1 < M := fun p hp => by have := get_ltS (hHm p (List.mem_append_right _ hp)); omega
    have hYr : Has rows Y := fun p hp => (hYg _ (by have := hlo p hp; omega) (hrM p hp)).trans (hHm p (List.mem_append_right _ hp))
    have hr2 : ∀ F, (Y.plus F).row (N + 2) 0 = some (N + 2, 90, 1, false, [.mp (N + 1)]) := fun F => get_row ((plus_get _ (by omega)).trans hY2)
    have hrc : ∀ F, (Y.plus F).row M 0 = some (0, 32, 1, false, [.v (.int .i64 p1), .v (.int .i64 p2), .v (.int .i64 p3)]) := fun F => get_row ((plus_get _ (by omega)).trans hYc)
    have g1 : ltB (N + 1) (M + 1) = true := by unfold ltB; simp; omega
    have g2 : ltB (N + 2) (M + 1) = true := by unfold ltB; simp; omega
    have g3 : ltB M (M + 1) = true := by unfold ltB; simp
    have hf1 : fitsA 24 1 = true := by decide
    rw [hY, ← plus_nil Y]
    simp -implicitDefEqProofs only [go_sem, ↓reduceIte, Int.reduceEq, Int.reduceLT, Int.reduceLE, List.reduceReplicate, intA, setT_nil, setT_cons, ↓boolP_bool, ↓iteB_true, ↓iteB_false, sizeP hYs, putP0 hYs, putP hYs, settleP0 hYs, settleP hYs, rowP0 hYs, rowP hYs, storeP0 hYs hlkY, storeP hYs hlkY, List.length_nil, Nat.add_zero]
    refine wp_drawX [([], [], false), ([], [], false), ([0], [], false), ([], [], false), ([0], [], false), ([0, 2, 4], [], false), ([0, 2, 4], [], false), ([0], [6], false), ([], [6, 7], false)] (by kernel_rfl) (by kernel_rfl) ?_
    have hmc : AV.cells (.agg [.v (.int .i64 p1), .v (.int .i64 p2), .v (.int .i64 p3)]) = [.v (.int .i64 p1), .v (.int .i64 p2), .v (.int .i64 p3)] := rfl
    by_cases hin : w ∈ s.map (·.1)
    · obtain ⟨tb1, x, tb2, es1, en, es2, r1, r, r2, rfl, rfl, hn1, rfl, rfl, hT1, hTx, hT2⟩ := hT.split w hin
      obtain ⟨hk, hps, ver, hv, hr⟩ := hTx
      obtain ⟨w, ps⟩ := x
      obtain ⟨k', v', c'⟩ := en
      obtain ⟨b, ob⟩ := r
      simp only at hk hps hv hr
      subst hk hv hr
      have hbm := hrM (b, .cells ver 0 32 3 true (clP ps)) (by simp)
      have hbl := hlo (b, .cells ver 0 32 3 true (clP ps)) (by simp)
      simp only at hbm hbl
      have hlen1 : ps.length < 2 ^ 31 := by
        have := cnt_mem (s := tb1 ++ (w, ps) :: tb2) (x := (w, ps)) (by simp)
        simp only at this; omega
      have hfi : fitsA 24 (ps.length + 1) = true := by unfold fitsA; exact decide_eq_true (by omega)
      have hfind : findKeyA Tryz.prog 9 (strK w) (es1 ++ (strK w, .sl b ver 0 ps.length none, c') :: es2) 0 = some (some (es1.length, .sl b ver 0 ps.length none)) := by
        rw [find_skip Tryz.prog 9 w es1 (tb1.map (·.1)) 0 _ (by rw [hT1.keys, List.map_map]; rfl) hn1, find_here, Nat.zero_add]
      have hlook : ∀ F, lookupA Tryz.prog (Y.plus F) 90 (.mp (N + 1)) (.v (.string w)) false = some (.sl b ver 0 ps.length none) := fun F => look_in ((plus_get F (by omega)).trans hY1) hfind false
      have hYb : Y.get b = some (.cells ver 0 32 3 true (clP ps)) := hYr (b, _) (by simp)
      have hrb : ∀ F, (Y.plus F).row b ver = some (0, 32, 3, true, clP ps) := fun F => by
        rw [rowLo (by omega)]
        have h := row_of (v := ver) hYb
        rw [if_pos rfl] at h; exact h
      have g4 : ltB b (M + 1) = true := by unfold ltB; simp; omega
      have q1 : (b == N + 2) = false := by simp; omega
      have q2 : (b == N + 1) = false := by simp; omega
      have q3 : (N + 2 == b) = false := by simp; omega
      have q4 : (N + 1 == b) = false := by simp; omega
      simp -implicitDefEqProofs only [go_sem, ↓reduceIte, Int.reduceEq, Int.reduceLT, Int.reduceLE, List.reduceReplicate, intA, setT_nil, setT_cons, ↓boolP_bool, ↓iteB_true, ↓iteB_false, hr2, hrc, g1, g2, g3, g4, q1, q2, q3, q4, hlook, hf1, hmc, app47, appTo_vs0, List.flatMap_cons, List.flatMap_nil, sizeP hYs, putP0 hYs, putP hYs, settleP0 hYs, settleP hYs, rowP0 hYs, rowP hYs, storeP0 hYs hlkY, storeP hYs hlkY, List.length_nil, Nat.add_zero]
      obtain ⟨W, hW⟩ : ∃ W, Y.put b (.cells (ver + 1) 0 32 3 true (clP (ps ++ [((p1 : Int), (p2 : Int), (p3 : Int))]))) = W := ⟨_, rfl⟩
      have hWs : W.size = M + 1 := by rw [← hW, put_sizeI _ (by omega)]; exact hYs
      have hWg : ∀ q, q ≠ b → q ≤ M → W.get q = Y.get q := fun q hq hq2 => by rw [← hW]; exact put_get_ne _ (by omega) hq
      have hW1 : W.get (N + 1) = some (.map mx (es1 ++ (strK w, .sl b ver 0 ps.length none, c') :: es2) c) := (hWg _ (by omega) (by omega)).trans hY1
      have hWl : W.lock = X.lock := by rw [← hW]; exact hYl
      obtain ⟨Z, hZ⟩ : ∃ Z, W.put (N + 1) (.map (Nat.max mx (b + 1)) (es1 ++ (strK w, .sl b (ver + 1) 0 (ps.length + 1) none, c') :: es2) c) = Z := ⟨_, rfl⟩
      have hupd : ∀ F, updateA Tryz.prog (W.plus F) 90 (.mp (N + 1)) (.v (.string w)) (.sl b (ver + 1) 0 (ps.length + 1) none) = some (Z.plus F) := fun F => by
        refine (upd_in (G := W.plus F) ((plus_get F (by omega)).trans hW1) (by show W.lock ≤ _; omega) hfind (e := (strK w, .sl b ver 0 ps.length none, c')) (by rw [List.getElem?_append_right (Nat.le_refl _), Nat.sub_self]; rfl) _).trans ?_
        rw [setVal_at, putLo (by omega), ← hZ]; rfl
      rw [appTo_own (m := 0) (e' := 32) (cs := clP ps) (hrb _) (by rw [clP_len]) (by show Y.lock ≤ b; omega) hfi (by omega) (by omega)]
      rw [putLo (by omega), show Nat.max 0 (boundL [AV.v (.int .i64 p1), .v (.int .i64 p2), .v (.int .i64 p3)]) = 0 from rfl, ← clP_snoc ps ((p1 : Int), (p2 : Int), (p3 : Int)), hW]
      simp -implicitDefEqProofs only [go_sem, ↓reduceIte, Int.reduceEq, Int.reduceLT, Int.reduceLE, List.reduceReplicate, intA, setT_nil, setT_cons, ↓boolP_bool, ↓iteB_true, ↓iteB_false, hupd, bd2K_at']
      rw [addT_in w _ tb1 (w, ps) tb2 hn1 rfl] at hp1
      subst hp1
      have hZs : Z.size = M + 1 := by rw [← hZ, put_sizeI _ (by omega)]; exact hWs
      have hZg : ∀ q, q ≠ b → q ≠ N + 1 → q ≤ M → Z.get q = Y.get q := fun q hq hq1 hq2 => by rw [← hZ, put_get_ne _ (by omega) hq1]; exact hWg q hq hq2
      have hZb : Z.get b = some (.cells (ver + 1) 0 32 3 true (clP (ps ++ [((p1 : Int), (p2 : Int), (p3 : Int))]))) := by rw [← hZ, put_get_ne _ (by omega) (by omega), ← hW]; exact put_get_eq _ (by omega)
      have hZ1 : Z.get (N + 1) = some (.map (Nat.max mx (b + 1)) (es1 ++ (strK w, .sl b (ver + 1) 0 (ps.length + 1) none, c') :: es2) c) := by rw [← hZ]; exact put_get_eq _ (by omega)
      have hnd' : (r1.map (·.1)).Nodup ∧ (b :: r2.map (·.1)).Nodup ∧ ∀ q ∈ r1.map (·.1), ∀ q' ∈ b :: r2.map (·.1), q ≠ q' := by
        rw [List.map_append, List.map_cons] at hnd
        exact List.nodup_append.1 hnd
      have hne1 : ∀ p ∈ r1, p.1 ≠ b := fun p hp => hnd'.2.2 _ (List.mem_map_of_mem hp) b (List.mem_cons_self ..)
      have hne2 : ∀ p ∈ r2, p.1 ≠ b := fun p hp he => (List.nodup_cons.1 hnd'.2.1).1 (he ▸ List.mem_map_of_mem hp)
      have hsl : ∀ F, (settleH (M + 1) (Z.plus F)).lock = H'.lock := fun F => by
        rw [settle_lock, plus_lock, ← hZ]
        exact hWl.trans hlk'.symm
      have hss : ∀ F, M ≤ (settleH (M + 1) (Z.plus F)).size := fun F => Nat.le_trans (Nat.le_succ M) (settle_size' (n := M + 1) (by rw [plus_size]; omega))
      have hset : ∀ F q, q ≤ M → (settleH (M + 1) (Z.plus F)).get q = Z.get q := fun F q hq => (settle_lo (by omega)).trans (plus_get F (by omega))
      refine ⟨rfl, fin46 hM (by omega) (hsl _) (hss _) ((hset _ _ (by omega)).trans hZ1) ((hset _ _ (by omega)).trans ((hZg _ (by omega) (by omega) (by omega)).trans hY2)) ((hset _ _ (by omega)).trans ((hZg _ (by omega) (by omega) (by omega)).trans hYL)) (rows' := r1 ++ (b, .cells (ver + 1) 0 32 3 true (clP (ps ++ [((p1 : Int), (p2 : Int), (p3 : Int))]))) :: r2) ?_ (hT1.app (show TabM ((w, ps ++ [((p1 : Int), (p2 : Int), (p3 : Int))]) :: tb2) ((strK w, .sl b (ver + 1) 0 (ps.length + 1) none, c') :: es2) ((b, .cells (ver + 1) 0 32 3 true (clP (ps ++ [((p1 : Int), (p2 : Int), (p3 : Int))]))) :: r2) from ⟨⟨rfl, by simp, ver + 1, by simp, rfl⟩, hT2⟩)) ?_ ?_ ?_ ?_⟩
      · intro p hp
        rcases List.mem_append.1 hp with hp | hp
        · have hq := hrM p (List.mem_append_left _ hp)
          have hq2 := hlo p (List.mem_append_left _ hp)
          exact (hset _ _ (by omega)).trans ((hZg _ (hne1 p hp) (by omega) (by omega)).trans (hYr p (List.mem_append_left _ hp)))
        · rcases List.mem_cons.1 hp with rfl | hp
          · exact (hset _ _ (by simp only; omega)).trans hZb
          · have hq := hrM p (List.mem_append_right _ (List.mem_cons_of_mem _ hp))
            have hq2 := hlo p (List.mem_append_right _ (List.mem_cons_of_mem _ hp))
            exact (hset _ _ (by omega)).trans ((hZg _ (hne2 p hp) (by omega) (by omega)).trans (hYr p (List.mem_append_right _ (List.mem_cons_of_mem _ hp))))
      · intro p hp
        have hmx := Nat.le_max_left mx (b + 1)
        have hkey : ∃ q ∈ r1 ++ (b, AObj.cells ver 0 32 3 true (clP ps)) :: r2, q.1 = p.1 := by
          rcases List.mem_append.1 hp with hp | hp
          · exact ⟨p, List.mem_append_left _ hp, rfl⟩
          · rcases List.mem_cons.1 hp with rfl | hp
            · exact ⟨_, List.mem_append_right _ (List.mem_cons_self ..), rfl⟩
            · exact ⟨p, List.mem_append_right _ (List.mem_cons_of_mem _ hp), rfl⟩
        obtain ⟨q, hq, he⟩ := hkey
        have := hlo q hq
        rw [he] at this
        exact ⟨this.1, Nat.lt_of_lt_of_le this.2 hmx⟩
      · rw [List.map_append, List.map_cons] at hnd ⊢
        exact hnd
      · intro p hp
        left
        rcases List.mem_append.1 hp with hp | hp
        · exact ⟨p, List.mem_append_left _ hp, rfl⟩
        · rcases List.mem_cons.1 hp with rfl | hp
          · exact ⟨_, List.mem_append_right _ (List.mem_cons_self ..), rfl⟩
          · exact ⟨p, List.mem_append_right _ (List.mem_cons_of_mem _ hp), rfl⟩
      · intro q hq hq1 hq4 hnk
        rw [hset _ _ (by omega), hZg q (fun e => hnk ⟨_, List.mem_append_right _ (List.mem_cons_self ..), e.symm⟩) hq1 (by omega)]
        exact hYg q hq4 hq
    · have hfind : findKeyA Tryz.prog 9 (strK w) es 0 = some none := by
        have h := find_skip Tryz.prog 9 w es (s.map (·.1)) 0 [] (by rw [hT.keys, List.map_map]; rfl) hin
        rw [List.append_nil] at h
        exact h
      have hlook : ∀ F, lookupA Tryz.prog (Y.plus F) 90 (.mp (N + 1)) (.v (.string w)) false = some (.v (.slice none 0 0)) := fun F => look_out ((plus_get F (by omega)).trans hY1) hfind false
      obtain ⟨Z, hZ⟩ : ∃ Z, Y.put (N + 1) (.map (Nat.max mx (M + 1 + 7 + 1)) (es ++ [(strK w, .sl (M + 1 + 7) 0 0 1 none, c)]) (c + 1)) = Z := ⟨_, rfl⟩
      have hupd : ∀ F, updateA Tryz.prog (Y.plus F) 90 (.mp (N + 1)) (.v (.string w)) (.sl (M + 1 + 7) 0 0 1 none) = some (Z.plus F) := fun F => by
        refine (upd_out (G := Y.plus F) ((plus_get F (by omega)).trans hY1) (by show Y.lock ≤ _; omega) hfind _).trans ?_
        rw [putLo (by omega), ← hZ]; rfl
      simp -implicitDefEqProofs only [go_sem, ↓reduceIte, Int.reduceEq, Int.reduceLT, Int.reduceLE, List.reduceReplicate, intA, setT_nil, setT_cons, ↓boolP_bool, ↓iteB_true, ↓iteB_false, hr2, hrc, g1, g2, g3, hlook, hf1, hupd, hmc, app47, appTo_vs0, List.flatMap_cons, List.flatMap_nil, sizeP hYs, putP0 hYs, putP hYs, settleP0 hYs, settleP hYs, rowP0 hYs, rowP hYs, storeP0 hYs hlkY, storeP hYs hlkY, List.length_nil, Nat.add_zero]
      rw [addT_out w _ s hin] at hp1
      subst hp1
      simp -implicitDefEqProofs only [go_sem, ↓reduceIte, Int.reduceEq, Int.reduceLT, Int.reduceLE, List.reduceReplicate, intA, setT_nil, setT_cons, bd2K_at']
      have hZs : Z.size = M + 1 := by rw [← hZ, put_sizeI _ (by omega)]; exact hYs
      have hZg : ∀ q, q ≠ N + 1 → q ≤ M → Z.get q = Y.get q := fun q hq1 hq2 => by rw [← hZ]; exact put_get_ne _ (by omega) hq1
      have hZ1 : Z.get (N + 1) = some (.map (Nat.max mx (M + 1 + 7 + 1)) (es ++ [(strK w, .sl (M + 1 + 7) 0 0 1 none, c)]) (c + 1)) := by rw [← hZ]; exact put_get_eq _ (by omega)
      have hsl : ∀ F, (settleH (M + 1) (Z.plus F)).lock = H'.lock := fun F => by
        rw [settle_lock, plus_lock, ← hZ]
        exact hYl.trans hlk'.symm
      have hss : ∀ F, M ≤ (settleH (M + 1) (Z.plus F)).size := fun F => Nat.le_trans (Nat.le_succ M) (settle_size' (n := M + 1) (by rw [plus_size]; omega))
      have hset : ∀ F q, q ≤ M → (settleH (M + 1) (Z.plus F)).get q = Z.get q := fun F q hq => (settle_lo (by omega)).trans (plus_get F (by omega))
      have hcl1 : clP [((p1 : Int), (p2 : Int), (p3 : Int))] = [.v (.int .i64 p1), .v (.int .i64 p2), .v (.int .i64 p3)] := by rw [clP_cons]; rfl
      refine fin46 hM (by omega) (hsl _) (hss _) ((hset _ _ (by omega)).trans hZ1) ((hset _ _ (by omega)).trans ((hZg _ (by omega) (by omega)).trans hY2)) ((hset _ _ (by omega)).trans ((hZg _ (by omega) (by omega)).trans hYL)) (rows' := rows ++ [(M + 1 + 7, .cells 0 0 32 3 true (clP [((p1 : Int), (p2 : Int), (p3 : Int))]))]) ?_ (hT.app ⟨⟨rfl, by simp, 0, rfl, rfl⟩, trivial⟩) ?_ ?_ ?_ ?_
      · refine Has.settle (fun p hp => ?_) _
        rcases List.mem_append.1 hp with hp | hp
        · have hq := hrM p hp
          have hq2 := hlo p hp
          exact (plus_get _ (by omega)).trans ((hZg _ (by omega) (by omega)).trans (hYr p hp))
        · obtain rfl := List.mem_singleton.1 hp
          rw [hcl1]
          exact plus_mid_get hZs [none, none, none, none, none, none, none] _ _
      · intro p hp
        have hmx := Nat.le_max_left mx (M + 1 + 7 + 1)
        have hmx2 := Nat.le_max_right mx (M + 1 + 7 + 1)
        rcases List.mem_append.1 hp with hp | hp
        · have := hlo p hp
          exact ⟨this.1, Nat.lt_of_lt_of_le this.2 hmx⟩
        · obtain rfl := List.mem_singleton.1 hp
          exact ⟨by simp only; omega, Nat.lt_of_lt_of_le (Nat.lt_succ_self _) hmx2⟩
      · rw [List.map_append]
        refine List.nodup_append.2 ⟨hnd, by simp, fun q hq q' hq' => ?_⟩
        obtain ⟨p, hp, rfl⟩ := List.mem_map.1 hq
        simp only [List.map_cons, List.map_nil, List.mem_singleton] at hq'
        have := hrM p hp
        omega
      · intro p hp
        rcases List.mem_append.1 hp with hp | hp
        · exact Or.inl ⟨p, hp, rfl⟩
        · obtain rfl := List.mem_singleton.1 hp
          exact Or.inr (by simp only; omega)
      · intro q hq hq1 hq4 hnk
        rw [hset _ _ (by omega), hZg q hq1 (by omega)]
        exact hYg q hq4 hq
  · intro p hp
    rw [List.append_nil] at hp
    unfold base46 at hp
    simp only [List.mem_cons, List.not_mem_nil, or_false] at hp
    rcases hp with rfl | rfl
    · exact hG1
    · exact hG2
  · rw [hGs, hrun.2]
    rintro m' H' ⟨es, mx, c, rows, hT, hlo, hnd, rfl⟩ hH1 hd hdd hmv hsz'
    have hkl : H'.lock = X.lock := by rw [hmv.lock]; exact hGl
    have hkill : killAll [N + 3] H' = some (H'.put (N + 3) .dead) := by
      unfold killAll
      rw [hd]
      simp only
      rw [if_pos (by omega)]
      unfold killAll; rfl
    have hDg : ∀ q, q ≠ N + 3 → q < H'.size → (H'.put (N + 3) .dead).get q = H'.get q := fun q hq hq2 => put_get_ne _ (by omega) hq
    have hD2 : (H'.put (N + 3) .dead).get (N + 2) = some (.cells 0 (N + 2) 90 1 false [.mp (N + 1)]) := (hDg _ (by omega) (by omega)).trans (hH1 (N + 2, _) (List.mem_append_left _ (by unfold base46; simp)))
    have hD1 : (H'.put (N + 3) .dead).get (N + 1) = some (.map mx es c) := (hDg _ (by omega) (by omega)).trans (hH1 (N + 1, _) (List.mem_append_left _ (by unfold base46; simp)))
    have hrD := row_of (v := 0) (show H'.get (N + 2) = some (.cells 0 (N + 2) 90 1 false [.mp (N + 1)]) from hH1 (N + 2, _) (List.mem_append_left _ (by unfold base46; simp)))
    have hDs : (H'.put (N + 3) .dead).size = H'.size := put_sizeI _ (by omega)
    obtain ⟨U, hU⟩ : ∃ U, H'.size = U := ⟨_, rfl⟩
    rw [hU] at hDs
    simp -implicitDefEqProofs only [go_sem, ↓reduceIte, Int.reduceEq, Int.reduceLT, Int.reduceLE, List.reduceReplicate, intA, setT_nil, setT_cons, ↓boolP_bool, ↓iteB_true, ↓iteB_false, hkill, hrD, hDs, settle_eqN hDs, trim_eqN hDs]
    rw [← hKK]
    subst hN
    refine ⟨rfl, hkl, by rw [hDs]; omega, fun b hb => ?_, es, mx, c, rows, hT, fun p hp => ?_, hnd, hD1, fun p hp => ?_⟩
    · rw [hDg b (by omega) (by omega), hmv.same b (by omega) ?_]
      · exact hGlo b hb
      · rw [List.append_nil]
        unfold base46
        rintro ⟨p, hp, he⟩
        simp only [List.mem_cons, List.not_mem_nil, or_false] at hp
        rcases hp with rfl | rfl <;> (simp only at he; omega)
    · have := hlo p hp
      exact ⟨by omega, this.2⟩
    · have h := hH1 p (List.mem_append_right _ hp)
      have := hlo p hp
      rw [hDg _ (by omega) (get_ltS h)]; exact h
end Go.Ev
namespace Go.Ev
open Go.Proofs Go.Sort
set_option maxRecDepth 100000
set_option linter.unusedSimpArgs false
attribute [local irreducible] Wp WpS
/-! ### a call of placesByWord -/
theorem call46 {e : Exts} (he : Quiet e) {t : Txt} {ch : AV} {xs : List AV} (hch : SlOf 2 xs ch) (hall : All2 ChapA t xs) (hok : ∀ y ∈ xs, OkCh2 y) (hlen : xs.length < 2 ^ 63) (hw : (wordsT 0 t).length < 2 ^ 31) (X : Heap) (hlk : X.lock ≤ X.size) (me : FuncId) (d : Option Tmp) :
    ∃ Y, callA (Cx e) (lim (Cx e)) me 46 d [.agg [ch]] X = some (.mp (X.size + 1), Y) ∧ Q46 X (tabW (wordsT 0 t) []) (.mp (X.size + 1)) Y := by
  have h := fn46 he hch hall hok hlen hw X hlk
  unfold Fn' at h
  rw [bindO_iff] at h
  obtain ⟨o, h1, h2⟩ := h
  cases o with
  | ret v H' =>
    obtain ⟨rfl, h3⟩ := h2
    refine ⟨H', ?_, rfl, h3⟩
    have hk : callKind (Cx e) me 46 d [.agg [ch]] = 0 := by unfold callKind; rw [show (Cx e).pure me 46 d = false from by simp [Cx, pureF, impF, impC]]; rfl
    unfold callA callB
    rw [ext_46 he]
    simp only [hk, h1]
    refine congrArg some (Prod.ext rfl ?_)
    show H'.trim X.size [.mp (X.size + 1)] [] = H'
    unfold Heap.trim
    rw [if_neg]
    rw [Bool.and_eq_true, Bool.and_eq_true, Bool.and_eq_true, Nat.ble_eq]
    have : boundL [AV.mp (X.size + 1)] = X.size + 2 := rfl
    rw [this]
    exact fun g => by have := g.1.1.1; omega
  | _ => exact h2.elim
end Go.Ev
namespace Go.Ev
open Go.Proofs Go.Sort
set_option maxRecDepth 100000
set_option linter.unusedSimpArgs false
/-! ### places in doubt -/
theorem strictP : StrictO ltP := by
  refine ⟨fun a => ?_, fun a b c h1 h2 => ?_, fun a b h1 h2 => ?_⟩
  · simp [ltP]
  · simp only [ltP, decide_eq_true_eq] at *; omega
  · simp only [ltP, decide_eq_false_iff_not] at *
    obtain ⟨a1, a2, a3⟩ := a
    obtain ⟨b1, b2, b3⟩ := b
    simp only [Prod.mk.injEq] at *
    omega
def atR (r : Rd) : P3 := (r.ch, r.ln, r.wd)
/-- the places of a copy that are in doubt -/
def dbtL (rs : List Rd) : List P3 := (rs.filter fun r => !decide (r.kind = 2)).map atR
theorem dbtL_mem {rs : List Rd} {p : P3} : p ∈ dbtL rs ↔ ∃ r ∈ rs, r.kind ≠ 2 ∧ atR r = p := by
  unfold dbtL
  simp only [List.mem_map, List.mem_filter, Bool.not_eq_true', decide_eq_false_iff_not, ne_eq, and_assoc]
theorem dbtL_len (rs : List Rd) : (dbtL rs).length ≤ rs.length := by
  unfold dbtL; rw [List.length_map]; exact List.length_filter_le _ _
def allD (cs : List (Int × List Rd)) : List P3 := cs.flatMap fun c => dbtL c.2
theorem allD_mem {cs : List (Int × List Rd)} {p : P3} : p ∈ allD cs ↔ ∃ c ∈ cs, p ∈ dbtL c.2 := by
  unfold allD; rw [List.mem_flatMap]
def doubtL (cs : List (Int × List Rd)) : List P3 := onceL (srtP (allD cs))
theorem srtP_mem {l : List P3} {p : P3} : p ∈ srtP l ↔ p ∈ l := (sortL_perm _ l).mem_iff
theorem doubtL_mem {cs : List (Int × List Rd)} {p : P3} : p ∈ doubtL cs ↔ ∃ c ∈ cs, p ∈ dbtL c.2 := by
  unfold doubtL; rw [onceL_mem, srtP_mem, allD_mem]
end Go.Ev
namespace Go.Ev
open Go.Proofs
set_option maxRecDepth 100000
set_option linter.unusedSimpArgs false
attribute [local irreducible] Wp WpS
end Go.Ev
namespace Go.Ev
open Go.Proofs
set_option maxRecDepth 100000
set_option linter.unusedSimpArgs false
attribute [local irreducible] Wp WpS
def greatCB (l : List Rd) : Bool := decide (30 < l.length) || l.any fun r => decide (40 < r.word.size)
theorem any_cons_drop {α : Type} {xs : List α} {j : Nat} {x : α} (h : xs[j]? = some x) (p : α → Bool) : (xs.drop j).any p = (p x || (xs.drop (j + 1)).any p) := by rw [drop_eq_cons h]; rfl
set_option maxHeartbeats 2000000 in
theorem ans56 {e : Exts} (id : Int) (l : List Rd) (x : AV) (hx : RdsA l x) : Ans (Cx e) 56 [.agg [intA id, x]] (.v (.bool (greatCB l))) := by
  have hx : SlOf 5 (l.map rdV) x := hx
  unfold Ans
  rw [fn_step (fn_56 e) (show Tryz.f56.body = some _ from rfl)]
  by_cases hl : 30 < (l.length : Int)
  · have hg : greatCB l = true := by unfold greatCB; rw [decide_eq_true (by omega)]; rfl
    simp -implicitDefEqProofs only [Tryz.f56, go_sem, ↓reduceIte, Int.reduceEq, Int.reduceLT, Int.reduceLE, List.reduceReplicate, intA, setT_nil, setT_cons, hx.len, hx.cells, hx.flat, hx.bound, List.length_map, hl]
    rw [hg]
  · have hg : greatCB l = l.any fun r => decide (40 < r.word.size) := by unfold greatCB; rw [decide_eq_false (by omega)]; rfl
    simp -implicitDefEqProofs only [Tryz.f56, go_sem, ↓reduceIte, Int.reduceEq, Int.reduceLT, Int.reduceLE, List.reduceReplicate, intA, setT_nil, setT_cons, hx.len, hx.cells, hx.flat, hx.bound, List.length_map, hl]
    refine Lp_rule (P := fun μ a' H => ∃ j, j ≤ l.length ∧ l.length = j + μ ∧ a' = ⟨23, [(0, .agg [intA id, x]), (1, .ptr 0 0 0), (2, .v (.bool false)), (7, .v (.bool false)), (3, intA j)], []⟩ ∧ H = ⟨[some (.cells 0 0 53 1 false [intA id, x])], 0⟩ ∧ greatCB l = (l.drop j).any fun r => decide (40 < r.word.size)) ?_ l.length _ _ ⟨0, by omega, by omega, rfl, rfl, hg⟩
    rintro μ _ _ ⟨j, hj1, hj2, rfl, rfl, ho⟩
    by_cases hlt : (j : Int) < (l.length : Int)
    · obtain ⟨r, hr⟩ := at_lt l j (by omega)
      have hw := wrap_succ j (by omega)
      have hi := hx.idx (rds_get hr)
      unfold rdV at hi
      rw [any_cons_drop hr] at ho
      by_cases hs : 40 < (r.word.size : Int)
      · have h0 : greatCB l = true := by rw [ho, decide_eq_true (by omega)]; rfl
        simp -implicitDefEqProofs only [go_sem, ↓reduceIte, Int.reduceEq, Int.reduceLT, Int.reduceLE, List.reduceReplicate, intA, setT_nil, setT_cons, hx.len, List.length_map, hlt, hw, hi, hs]
        rw [h0]
      · have h0 : greatCB l = (l.drop (j + 1)).any fun r => decide (40 < r.word.size) := by rw [ho, decide_eq_false (by omega)]; rfl
        simp -implicitDefEqProofs only [go_sem, ↓reduceIte, Int.reduceEq, Int.reduceLT, Int.reduceLE, List.reduceReplicate, intA, setT_nil, setT_cons, hx.len, List.length_map, hlt, hw, hi, hs, trim_at, hx.bound]
        exact ⟨μ - 1, by omega, j + 1, by omega, by omega, rfl, rfl, h0⟩
    · have h0 : greatCB l = false := by rw [ho, show l.drop j = [] from List.drop_eq_nil_of_le (by omega)]; rfl
      simp -implicitDefEqProofs only [go_sem, ↓reduceIte, Int.reduceEq, Int.reduceLT, Int.reduceLE, List.reduceReplicate, intA, setT_nil, setT_cons, hx.len, List.length_map, hlt]
      rw [h0]
theorem call56 {e : Exts} (he : Quiet e) (id : Int) (l : List Rd) (x : AV) (hx : RdsA l x) (me : FuncId) (d : Option Tmp) (H : Heap) : callA (Cx e) (lim (Cx e)) me 56 d [.agg [.v (.int .i64 id), x]] H = some (.v (.bool (greatCB l)), H) :=
  (ans56 id l x hx).call (ext_56 he) (pure_56 _ _ _) (by simp only [boundL_cons, bound_agg, intA, bound_v, SlOf.bound hx, boundL_nil]; rfl) H
end Go.Ev
namespace Go.Ev
open Go.Proofs
set_option maxRecDepth 100000
set_option linter.unusedSimpArgs false
attribute [local irreducible] Wp WpS
/-- a reading of the reference -/
def readB (t : Txt) (r : Rd) : Bool := match lineAt t r.ch r.ln with | none => false | some l => if r.kind = 1 then fits1 l r else if r.kind = 2 then fits2 l r else if r.kind = 3 then fits3 l r else false
theorem callI61 {e : Exts} (he : Quiet e) (s : ByteArray) (hn : s.size < 2 ^ 63) (me : FuncId) (d : Option Tmp) : callI (Cx e) me 61 d [.v (.string s)] = some (.v (.bool (wordB s))) :=
  (ans61 he s hn).callI (ext_61 he) (pure_61 _ _ _) rfl
theorem bin_eq8 (x y : Operand) (m n : Int) : binA Tryz.prog .eql 5 x y (.v (.int .u8 m)) (.v (.int .u8 n)) = some (.v (.bool (decide (m = n)))) := bin_eql m n
set_option maxHeartbeats 2000000 in
theorem ans78 {e : Exts} (he : Quiet e) (t : Txt) (ht : Fits t) (ch : AV) (xs : List AV) (hch : SlOf 2 xs ch) (hall : All2 ChapA t xs) (r : Rd) (hr : RdF r) : Ans (Cx e) 78 [.agg [ch], rdV r] (.v (.bool (readB t r))) := by
  obtain ⟨y, hy, hc⟩ := call42 he t ht ch xs hch hall r.ch r.ln r.wd
  unfold Ans
  rw [fn_step (fn_78 e) (show Tryz.f78.body = some _ from rfl)]
  cases hL : lineAt t r.ch r.ln with
  | none =>
    rw [hL] at hc hy
    simp only [LineO] at hy
    subst hy
    have hB : readB t r = false := by unfold readB; rw [hL]
    rw [hB]
    simp -implicitDefEqProofs only [Tryz.f78, rdV, go_sem, ↓reduceIte, Int.reduceEq, Int.reduceLT, Int.reduceLE, List.reduceReplicate, intA, setT_nil, setT_cons, hch.cells, hch.flat, hch.bound, hc, Option.isSome_none]
  | some ln =>
    rw [hL] at hc hy
    have hy : SlOf 1 (strs ln) y := hy
    obtain ⟨cp, hcm, hlm⟩ := lineAt_mem hL
    have hll := ht.words cp hcm ln hlm
    have hw1 : IntKind.i64.wrap ((ln.length : Int) - 1) = (ln.length : Int) - 1 := wrap_in _ (by omega) (by omega)
    have h43 := call43 he r.wd 0 ((ln.length : Int) - 1)
    rw [within_len] at h43
    have h43' := call43 he r.wd 0 (ln.length : Int)
    have hi43 := callI43 he r.wd 0 ((ln.length : Int) - 1)
    rw [within_len] at hi43
    have h61 := call61 he r.word hr.word
    have hi61 := callI61 he r.word hr.word
    have hB : readB t r = (if r.kind = 1 then fits1 ln r else if r.kind = 2 then fits2 ln r else if r.kind = 3 then fits3 ln r else false) := by unfold readB; rw [hL]
    rw [hB]
    cases k1 : decide (r.kind = 1)
    · have n1 : ¬ r.kind = 1 := of_decide_eq_false k1
      rw [if_neg n1]
      cases k2 : decide (r.kind = 2)
      · have n2 : ¬ r.kind = 2 := of_decide_eq_false k2
        rw [if_neg n2]
        cases k3 : decide (r.kind = 3)
        · rw [if_neg (of_decide_eq_false k3)]
          simp -implicitDefEqProofs only [Tryz.f78, rdV, go_sem, ↓reduceIte, Int.reduceEq, Int.reduceLT, Int.reduceLE, List.reduceReplicate, intA, setT_nil, setT_cons, hch.cells, hch.flat, hch.bound, hc, Option.isSome_some, hy.cells, hy.flat, hy.bound, bin_eq8, k1, k2, k3]
        · rw [if_pos (of_decide_eq_true k3)]
          unfold fits3
          simp -implicitDefEqProofs only [Tryz.f78, rdV, go_sem, ↓reduceIte, Int.reduceEq, Int.reduceLT, Int.reduceLE, List.reduceReplicate, intA, setT_nil, setT_cons, hch.cells, hch.flat, hch.bound, hc, Option.isSome_some, hy.cells, hy.flat, hy.bound, bin_eq8, k1, k2, k3]
          refine wp_drawX [([], [], false), ([], [], false), ([], [], false), ([], [], false), ([2], [], false), ([], [], false), ([], [], false), ([], [], false), ([], [], false), ([], [], false), ([], [], false), ([], [], false), ([], [], false), ([], [], false), ([], [], false), ([], [], false), ([], [], false), ([], [], false), ([14], [], false), ([], [], false), ([14], [], false), ([], [], false), ([], [], false), ([], [], false)] (by kernel_rfl) (by kernel_rfl) ?_
          by_cases h1 : 0 ≤ r.wd ∧ r.wd < ln.length
          · rw [decide_eq_true h1] at hi43 ⊢
            obtain ⟨w, hwn⟩ : ∃ n : Nat, r.wd = n := ⟨r.wd.toNat, by omega⟩
            obtain ⟨s, hs⟩ := at_lt ln w (by omega)
            have hi := hy.idx (strs_get hs)
            rw [hwn] at hi43 ⊢
            have ha : at0 ln w = s := by unfold at0; rw [Int.toNat_natCast, hs]; rfl
            cases h2 : wordB r.word
            · rw [h2] at hi61
              simp -implicitDefEqProofs only [go_sem, ↓reduceIte, Int.reduceEq, Int.reduceLT, Int.reduceLE, List.reduceReplicate, intA, setT_nil, setT_cons, hy.len, hy.lenI, strs_len, hw1, hi43, hi61]
            · rw [h2] at hi61
              simp -implicitDefEqProofs only [go_sem, ↓reduceIte, Int.reduceEq, Int.reduceLT, Int.reduceLE, List.reduceReplicate, intA, setT_nil, setT_cons, hy.len, hy.lenI, strs_len, hw1, hi43, hi61, hi, bin_sne, ha]
          · rw [decide_eq_false h1] at hi43 ⊢
            simp -implicitDefEqProofs only [go_sem, ↓reduceIte, Int.reduceEq, Int.reduceLT, Int.reduceLE, List.reduceReplicate, intA, setT_nil, setT_cons, hy.len, hy.lenI, strs_len, hw1, hi43]
      · rw [if_pos (of_decide_eq_true k2)]
        unfold fits2
        cases h1 : withinB 0 ln.length [r.wd]
        · rw [h1] at h43'
          simp -implicitDefEqProofs only [Tryz.f78, rdV, go_sem, ↓reduceIte, Int.reduceEq, Int.reduceLT, Int.reduceLE, List.reduceReplicate, intA, setT_nil, setT_cons, hch.cells, hch.flat, hch.bound, hc, Option.isSome_some, hy.cells, hy.flat, hy.bound, hy.len, strs_len, bin_eq8, k1, k2, h43']
        · rw [h1] at h43'
          simp -implicitDefEqProofs only [Tryz.f78, rdV, go_sem, ↓reduceIte, Int.reduceEq, Int.reduceLT, Int.reduceLE, List.reduceReplicate, intA, setT_nil, setT_cons, hch.cells, hch.flat, hch.bound, hc, Option.isSome_some, hy.cells, hy.flat, hy.bound, hy.len, strs_len, bin_eq8, k1, k2, h43', h61]
    · rw [if_pos (of_decide_eq_true k1)]
      unfold fits1
      cases h1 : decide (0 ≤ r.wd ∧ r.wd < ln.length)
      · rw [h1] at h43
        simp -implicitDefEqProofs only [Tryz.f78, rdV, go_sem, ↓reduceIte, Int.reduceEq, Int.reduceLT, Int.reduceLE, List.reduceReplicate, intA, setT_nil, setT_cons, hch.cells, hch.flat, hch.bound, hc, Option.isSome_some, hy.cells, hy.flat, hy.bound, hy.len, strs_len, bin_eq8, k1, hw1, h43]
      · rw [h1] at h43
        simp -implicitDefEqProofs only [Tryz.f78, rdV, go_sem, ↓reduceIte, Int.reduceEq, Int.reduceLT, Int.reduceLE, List.reduceReplicate, intA, setT_nil, setT_cons, hch.cells, hch.flat, hch.bound, hc, Option.isSome_some, hy.cells, hy.flat, hy.bound, hy.len, strs_len, bin_eq8, k1, hw1, h43, bin_seq]
        rfl
end Go.Ev
namespace Go.Ev
open Go.Proofs
set_option maxRecDepth 100000
set_option linter.unusedSimpArgs false
attribute [local irreducible] Wp WpS
/-! ### a line of a copy, by the reference -/
def refI (k n w : Int) (s : List ByteArray × ByteArray) (r : Rd) : List ByteArray × ByteArray :=
  if r.ch = k ∧ r.ln = n ∧ r.wd = w then if r.kind = 2 then (s.1 ++ [r.word], s.2) else (s.1, r.word) else s
def refW (l : Line) (rs : List Rd) (k n : Int) (ds : List ByteArray) (w : Nat) : List ByteArray :=
  let s := rs.foldl (refI k n w) (ds, (l[w]?).getD emp)
  if s.2 = emp then s.1 else s.1 ++ [s.2]
def refLine (l : Line) (rs : List Rd) (k n : Int) : List ByteArray := (List.range (l.length + 1)).foldl (refW l rs k n) []
structure M79 (id : Int) (x : AV) (H : Heap) (ds : List ByteArray) (out : AV) : Prop where
  lock : H.lock = 0
  size : 2 ≤ H.size
  b1 : H.get 1 = some (.cells 0 0 53 1 false [.v (.int .i64 id), x])
  done : DoneR H ds out
theorem M79.row1 {id : Int} {x : AV} {H : Heap} {ds : List ByteArray} {out : AV} (h : M79 id x H ds out) (E : List (Option AObj)) : (H.plus E).row 1 0 = some (0, 53, 1, false, [.v (.int .i64 id), x]) := by
  rw [rowLo (by have := h.size; omega)]; exact get_row h.b1
theorem M79.plus {id : Int} {x : AV} {H : Heap} {ds : List ByteArray} {out : AV} (h : M79 id x H ds out) (E : List (Option AObj)) : M79 id x (H.plus E) ds out :=
  ⟨h.lock, by have := h.size; rw [plus_size]; omega, (plus_get E (by have := h.size; omega)).trans h.b1, h.done.plus E⟩
theorem M79.trim {id : Int} {x : AV} {H : Heap} {ds : List ByteArray} {out : AV} (h : M79 id x H ds out) {n : Nat} (hn : 2 ≤ n) (hn2 : n ≤ H.size) (vs : List AV) (ms : List Nat) (hv : bound out ≤ boundL vs) : M79 id x (H.trim n vs ms) ds out := by
  refine ⟨trim_lock.trans h.lock, Nat.le_trans hn (trim_size' hn2), (trim_lo (by omega)).trans h.b1, ?_⟩
  rcases h.done with hd | ⟨b, v, h1, h2, rfl, h4⟩
  · exact Or.inl hd
  · unfold Heap.trim
    split
    · rename_i hq
      rw [Bool.and_eq_true, Bool.and_eq_true, Bool.and_eq_true, Nat.ble_eq] at hq
      have h5 := hq.1.1.1
      have hb : b < n := by simp only [bound] at hv; omega
      have hg := (takeH_get (H := H) hb).trans (row_of_get h4)
      exact Or.inr ⟨b, v, h1, get_size hg, rfl, get_row hg⟩
    · exact Or.inr ⟨b, v, h1, h2, rfl, h4⟩
theorem M79.more {id : Int} {x : AV} {H : Heap} {ds : List ByteArray} {b v : Nat} (h : M79 id x H ds (.sl b v 0 ds.length none)) (hb : b < H.size) (hr : H.row b v = some (0, 9, 1, true, strs ds)) (s : List ByteArray) (n : Nat) (hn : n = ds.length + s.length) : M79 id x (H.put b (.cells (v + 1) 0 9 1 true (strs (ds ++ s)))) (ds ++ s) (.sl b (v + 1) 0 n none) := by
  have hne : 1 ≠ b := by
    rintro rfl
    have := (row_of_get hr).symm.trans h.b1
    simp at this
  refine ⟨h.lock, by rw [put_sizeI _ hb]; exact h.size, (put_get_ne _ (by have := h.size; omega) hne).trans h.b1, Or.inr ⟨b, v + 1, ?_, by rw [put_sizeI _ hb]; exact hb, by rw [hn, List.length_append], row_put_same hb⟩⟩
  have := h.lock
  show H.lock ≤ b
  omega
theorem M79.new {id : Int} {x : AV} {H : Heap} {ds : List ByteArray} {out : AV} (h : M79 id x H ds out) {N : Nat} (hN : H.size = N) (E : List (Option AObj)) (k : Nat) (ds' : List ByteArray) (hE : E[k]? = some (some (.cells 0 0 9 1 true (strs ds')))) : M79 id x (H.plus E) ds' (.sl (N + k) 0 0 ds'.length none) := by
  have hk := (List.getElem?_eq_some_iff.1 hE).1
  refine ⟨h.lock, by have := h.size; rw [plus_size]; omega, (plus_get E (by have := h.size; omega)).trans h.b1, Or.inr ⟨N + k, 0, ?_, by rw [plus_size]; omega, rfl, ?_⟩⟩
  · have := h.lock
    show H.lock ≤ _
    omega
  · rw [rowP hN, hE]; rfl
theorem le_boundL {v : AV} : ∀ {vs : List AV}, v ∈ vs → bound v ≤ boundL vs
  | a :: r, h => by
    rw [boundL_cons]
    rcases List.mem_cons.1 h with rfl | h
    · exact Nat.le_max_left _ _
    · exact Nat.le_trans (le_boundL h) (Nat.le_max_right _ _)
theorem fitsA1 : fitsA 16 1 = true := by decide
noncomputable def bodyI79 : Code := ((Tryz.f79.body.map loops).getD [])[1]?.getD .skip
def T79 (ch x lx : AV) (id k n w : Int) (b33 : Bool) (out : AV) (own : ByteArray) (i : Int) : List (Tmp × AV) :=
  [(0, .agg [ch]), (1, .agg [.v (.int .i64 id), x]), (2, .v (.int .i64 k)), (3, .v (.int .i64 n)), (4, .ptr 0 0 0), (5, .ptr 1 0 0), (8, .v (.slice none 0 0)), (9, out), (10, lx), (11, .v (.int .i64 w)), (27, .v (.bool true)), (12, .v (.string own)), (33, .v (.bool b33)), (13, .v (.int .i64 i))]
set_option maxHeartbeats 4000000 in
theorem inner79 {e : Exts} (rs : List Rd) (x : AV) (hx : SlOf 5 (rs.map rdV) x) (ch lx : AV) (id k n w : Int) (b33 : Bool) (ds0 : List ByteArray) (own0 : ByteArray) (K : Post)
    (hK : ∀ H out, M79 id x H (rs.foldl (refI k n w) (ds0, own0)).1 out → AtK K (.exit 2) ⟨86, T79 ch x lx id k n w b33 out (rs.foldl (refI k n w) (ds0, own0)).2 rs.length, []⟩ H)
    (X : Heap) (out0 : AV) (hM0 : M79 id x X ds0 out0) (hlen : ds0.length + rs.length < 2 ^ 32) :
    Lp (Cx e) 79 none [0, 1, 2, 3, 4, 5, 8, 9, 10, 11, 27, 12, 33, 13] bodyI79 ⟨86, T79 ch x lx id k n w b33 out0 own0 0, []⟩ X K := by
  refine Lp_ruleQ (P := fun μ a H => ∃ (i : Nat) (s : List ByteArray × ByteArray) (out : AV), i + μ = rs.length ∧ s = (rs.take i).foldl (refI k n w) (ds0, own0) ∧ s.1.length ≤ ds0.length + i ∧ a = ⟨86, T79 ch x lx id k n w b33 out s.2 i, []⟩ ∧ M79 id x H s.1 out) ?_ rs.length _ _ ⟨0, (ds0, own0), out0, by omega, rfl, Nat.le_refl _, rfl, hM0⟩
  rintro Q KK hQ hKK μ _ Y ⟨i, ⟨ds, own⟩, out, hi0, hs, hsl, rfl, hM⟩
  unfold bodyI79 T79
  simp only [Tryz.f79, loops, Option.map_some, Option.getD_some, List.nil_append, List.append_nil, List.cons_append, List.getElem?_cons_zero, List.getElem?_cons_succ]
  obtain ⟨N, hN⟩ : ∃ N, Y.size = N := ⟨_, rfl⟩
  have hlk : Y.lock ≤ N := by have := hM.lock; omega
  have hr1 := hM.row1
  by_cases hlt : (i : Int) < (rs.length : Int)
  · obtain ⟨r, hr⟩ := at_lt rs i (by omega)
    have hw := wrap_succ i (by omega)
    have hir := hx.idx (rds_get hr)
    unfold rdV at hir
    have ht : (rs.take (i + 1)).foldl (refI k n w) (ds0, own0) = refI k n w (ds, own) r := by
      rw [List.take_add_one, hr, List.foldl_append, ← hs]; rfl
    rw [← plus_nil Y]
    have hn2 : 2 ≤ N := by have := hM.size; omega
    have stay : refI k n w (ds, own) r = (ds, own) → ∀ E : List (Option AObj), Again Q μ ⟨86, T79 ch x lx id k n w b33 out own (i + 1 : Nat), []⟩ ((Y.plus E).trim N ((T79 ch x lx id k n w b33 out own (i + 1 : Nat)).map (·.2)) []) := fun hq E =>
      ⟨μ - 1, by omega, hQ _ _ _ ⟨i + 1, (ds, own), out, by omega, (ht.trans hq).symm, by simp only at hsl ⊢; omega, rfl, (hM.plus E).trim hn2 (by rw [plus_size]; omega) _ _ (le_boundL (by simp [T79]))⟩⟩
    cases h1 : decide (r.ch = k)
    · simp -implicitDefEqProofs only [go_sem, ↓reduceIte, Int.reduceEq, Int.reduceLT, Int.reduceLE, List.reduceReplicate, intA, setT_nil, setT_cons, hr1, hx.len, List.length_map, hlt, hw, hir, h1, sizeP hN, putP0 hN, putP hN, settleP0 hN, settleP hN, rowP0 hN, rowP hN, storeP0 hN hlk, storeP hN hlk, List.length_nil, Nat.add_zero]
      exact stay (by unfold refI; rw [if_neg (fun h => of_decide_eq_false h1 h.1)]) _
    cases h2 : decide (r.ln = n)
    · simp -implicitDefEqProofs only [go_sem, ↓reduceIte, Int.reduceEq, Int.reduceLT, Int.reduceLE, List.reduceReplicate, intA, setT_nil, setT_cons, hr1, hx.len, List.length_map, hlt, hw, hir, h1, h2, sizeP hN, putP0 hN, putP hN, settleP0 hN, settleP hN, rowP0 hN, rowP hN, storeP0 hN hlk, storeP hN hlk, List.length_nil, Nat.add_zero]
      exact stay (by unfold refI; rw [if_neg (fun h => of_decide_eq_false h2 h.2.1)]) _
    cases h3 : decide (r.wd = w)
    · simp -implicitDefEqProofs only [go_sem, ↓reduceIte, Int.reduceEq, Int.reduceLT, Int.reduceLE, List.reduceReplicate, intA, setT_nil, setT_cons, hr1, hx.len, List.length_map, hlt, hw, hir, h1, h2, h3, sizeP hN, putP0 hN, putP hN, settleP0 hN, settleP hN, rowP0 hN, rowP hN, storeP0 hN hlk, storeP hN hlk, List.length_nil, Nat.add_zero]
      exact stay (by unfold refI; rw [if_neg (fun h => of_decide_eq_false h3 h.2.2)]) _
    have hat : r.ch = k ∧ r.ln = n ∧ r.wd = w := ⟨of_decide_eq_true h1, of_decide_eq_true h2, of_decide_eq_true h3⟩
    cases h4 : decide (r.kind = 2)
    · have hq : refI k n w (ds, own) r = (ds, r.word) := by unfold refI; rw [if_pos hat, if_neg (of_decide_eq_false h4)]
      simp -implicitDefEqProofs only [go_sem, ↓reduceIte, Int.reduceEq, Int.reduceLT, Int.reduceLE, List.reduceReplicate, intA, setT_nil, setT_cons, hr1, hx.len, List.length_map, hlt, hw, hir, h1, h2, h3, bin_eq8, h4, sizeP hN, putP0 hN, putP hN, settleP0 hN, settleP hN, rowP0 hN, rowP hN, storeP0 hN hlk, storeP hN hlk, List.length_nil, Nat.add_zero]
      exact ⟨μ - 1, by omega, hQ _ _ _ ⟨i + 1, (ds, r.word), out, by omega, (ht.trans hq).symm, by simp only at hsl ⊢; omega, rfl, (hM.plus _).trim hn2 (by rw [plus_size]; omega) _ _ (le_boundL (by simp))⟩⟩
    have hq : refI k n w (ds, own) r = (ds ++ [r.word], own) := by unfold refI; rw [if_pos hat, if_pos (of_decide_eq_true h4)]
    rcases hM.done with ⟨hd, ho⟩ | ⟨b, v, hb1, hb2, ho, hrow⟩
    · simp only at hd ho
      subst hd ho
      simp -implicitDefEqProofs only [go_sem, ↓reduceIte, Int.reduceEq, Int.reduceLT, Int.reduceLE, List.reduceReplicate, intA, setT_nil, setT_cons, hr1, hx.len, List.length_map, hlt, hw, hir, h1, h2, h3, bin_eq8, h4, fitsA1, List.flatMap_cons, List.flatMap_nil, sizeP hN, putP0 hN, putP hN, settleP0 hN, settleP hN, rowP0 hN, rowP hN, storeP0 hN hlk, storeP hN hlk, List.length_nil, Nat.add_zero]
      have hnew := hM.new hN [some (.cells 0 0 65 1 false [.v (.int .i64 r.ch), .v (.int .i64 r.ln), .v (.int .i64 r.wd), .v (.int .u8 r.kind), .v (.string r.word)]), some (.cells 0 0 9 1 true [.v (.string r.word)])] 1 [r.word] rfl
      exact ⟨μ - 1, by omega, hQ _ _ _ ⟨i + 1, ([] ++ [r.word], own), .sl (N + 1) 0 0 1 none, by omega, (ht.trans hq).symm, by simp only [List.nil_append, List.length_cons, List.length_nil] at hsl ⊢; omega, rfl, hnew.trim hn2 (by rw [plus_size]; omega) _ _ (le_boundL (by simp))⟩⟩
    · simp only at ho hrow
      subst ho
      simp -implicitDefEqProofs only [go_sem, ↓reduceIte, Int.reduceEq, Int.reduceLT, Int.reduceLE, List.reduceReplicate, intA, setT_nil, setT_cons, hr1, hx.len, List.length_map, hlt, hw, hir, h1, h2, h3, bin_eq8, h4, List.flatMap_cons, List.flatMap_nil, sizeP hN, putP0 hN, putP hN, settleP0 hN, settleP hN, rowP0 hN, rowP hN, storeP0 hN hlk, storeP hN hlk, List.length_nil, Nat.add_zero]
      have hrp : ∀ E, (Y.plus E).row b v = some (0, 9, 1, true, strs ds) := fun E => by rw [rowLo hb2]; exact hrow
      have hf : fitsA 16 (ds.length + 1) = true := by unfold fitsA; exact decide_eq_true (by simp only at hsl; omega)
      have hmore := hM.more hb2 hrow [r.word] (ds.length + 1) rfl
      rw [appTo_own (m := 0) (e' := 9) (cs := strs ds) (hrp _) (by rw [strs_len, Nat.mul_one]) hb1 hf (by omega) (by omega)]
      rw [putLo hb2]
      have hNY : (Y.put b (.cells (v + 1) (Nat.max 0 0) 9 1 true (strs ds ++ [.v (.string r.word)]))).size = N := by rw [put_sizeI _ hb2]; exact hN
      have hst : strs (ds ++ [r.word]) = strs ds ++ [.v (.string r.word)] := strs_append _ _
      rw [hst] at hmore
      change M79 id x (Y.put b (.cells (v + 1) (Nat.max 0 0) 9 1 true (strs ds ++ [.v (.string r.word)]))) _ _ at hmore
      change bindO (some (AV.sl b (v + 1) 0 (ds.length + 1) none, (Y.put b (.cells (v + 1) (Nat.max 0 0) 9 1 true (strs ds ++ [.v (.string r.word)]))).plus _)) _
      generalize Y.put b (.cells (v + 1) (Nat.max 0 0) 9 1 true (strs ds ++ [.v (.string r.word)])) = Z at hmore hNY ⊢
      simp -implicitDefEqProofs only [go_sem, ↓reduceIte, Int.reduceEq, Int.reduceLT, Int.reduceLE, List.reduceReplicate, intA, setT_nil, setT_cons, sizeP hNY, settleP0 hNY, settleP hNY]
      exact ⟨μ - 1, by omega, hQ _ _ _ ⟨i + 1, (ds ++ [r.word], own), .sl b (v + 1) 0 (ds.length + 1) none, by omega, (ht.trans hq).symm, by simp only [List.length_append, List.length_cons, List.length_nil] at hsl ⊢; omega, rfl, (hmore.plus _).trim hn2 (by rw [plus_size]; omega) _ _ (le_boundL (by simp))⟩⟩
  · obtain rfl : i = rs.length := by omega
    rw [List.take_length] at hs
    have hc := hK Y out (by rw [← hs]; exact hM)
    rw [← hs] at hc
    unfold T79 at hc
    rw [← plus_nil Y] at hc ⊢
    simp -implicitDefEqProofs only [go_sem, ↓reduceIte, Int.reduceEq, Int.reduceLT, Int.reduceLE, List.reduceReplicate, intA, setT_nil, setT_cons, ↓boolP_bool, ↓iteB_true, ↓iteB_false, hr1, hx.len, List.length_map, Int.lt_irrefl, sizeP hN, settleP0 hN, settleP hN, trimP0 hN, List.length_nil, Nat.add_zero]
    exact hKK _ _ _ hc
end Go.Ev
namespace Go.Ev
open Go.Proofs
set_option maxRecDepth 100000
set_option linter.unusedSimpArgs false
attribute [local irreducible] Wp WpS
theorem M79.trim' {id : Int} {x : AV} {H : Heap} {ds : List ByteArray} {out : AV} (h : M79 id x H ds out) {n : Nat} (hn : 2 ≤ n) (vs : List AV) (ms : List Nat) (hv : bound out ≤ boundL vs) : M79 id x (H.trim n vs ms) ds out := by
  by_cases h2 : n ≤ H.size
  · exact h.trim hn h2 vs ms hv
  · rw [trim_whole (by omega)]; exact h
theorem refI_len (k n w : Int) : ∀ (rs : List Rd) (s : List ByteArray × ByteArray), (rs.foldl (refI k n w) s).1.length ≤ s.1.length + rs.length
  | [], s => Nat.le_refl _
  | r :: rs, s => by
    have h := refI_len k n w rs (refI k n w s r)
    have h2 : (refI k n w s r).1.length ≤ s.1.length + 1 := by
      unfold refI; split
      · split
        · simp
        · exact Nat.le_succ _
      · exact Nat.le_succ _
    simp only [List.foldl_cons, List.length_cons]; omega
theorem refW_len (l : Line) (rs : List Rd) (k n : Int) (w : Nat) (ds : List ByteArray) : (refW l rs k n ds w).length ≤ ds.length + rs.length + 1 := by
  have h := refI_len k n w rs (ds, (l[w]?).getD emp)
  unfold refW
  simp only at h ⊢
  split
  · omega
  · rw [List.length_append]; simp only [List.length_cons, List.length_nil]; omega
theorem refs_len (l : Line) (rs : List Rd) (k n : Int) (hrs : rs.length ≤ 1000) : ∀ w : Nat, ((List.range w).foldl (refW l rs k n) []).length ≤ w * 1001
  | 0 => Nat.le_refl _
  | w + 1 => by
    rw [List.range_succ, List.foldl_append]
    have h := refs_len l rs k n hrs w
    have h2 := refW_len l rs k n w ((List.range w).foldl (refW l rs k n) [])
    show (refW l rs k n _ w).length ≤ _
    omega
set_option maxHeartbeats 2000000 in
theorem ans79 {e : Exts} (t : Txt) (ht : Fits t) (ch : AV) (xs : List AV) (hch : SlOf 2 xs ch) (hall : All2 ChapA t xs) (id : Int) (rs : List Rd) (x : AV) (hx : RdsA rs x) (k n : Nat) (cp : Chap) (hk : t[k]? = some cp) (ln : Line) (hn : cp.2[n]? = some ln) (hlen : ln.length ≤ 1000) (hrs : rs.length ≤ 1000) : ∃ v, SlOf 1 (strs (refLine ln rs k n)) v ∧ Ans (Cx e) 79 [.agg [ch], .agg [intA id, x], intA k, intA n] v := by
  have hx : SlOf 5 (rs.map rdV) x := hx
  obtain ⟨z, hz, l, rfl, lxs, hl, hls⟩ := hall.get hk
  obtain ⟨lx, hlx, hll⟩ := hls.get hn
  have hll : SlOf 1 (strs ln) lx := hll
  have hi := hch.idx hz
  unfold intA at hi
  refine ans_of_P ?_
  rw [fn_step (fn_79 e) (show Tryz.f79.body = some _ from rfl)]
  simp -implicitDefEqProofs only [Tryz.f79, go_sem, ↓reduceIte, Int.reduceEq, Int.reduceLT, Int.reduceLE, List.reduceReplicate, intA, setT_nil, setT_cons, hch.cells, hch.flat, hch.bound, hx.cells, hx.flat, hx.bound, hi, hl.cells, hl.idx hlx, hll.cells, hll.flat]
  refine Lp_rule (P := fun μ a H => ∃ w ds out, w + μ = ln.length + 1 ∧ a = ⟨86, [(0, .agg [ch]), (1, .agg [intA id, x]), (2, intA k), (3, intA n), (4, .ptr 0 0 0), (5, .ptr 1 0 0), (8, .v (.slice none 0 0)), (9, out), (10, lx), (11, intA w)], []⟩ ∧ M79 id x H ds out ∧ ds = (List.range w).foldl (refW ln rs k n) []) ?_ (ln.length + 1) _ _ ⟨0, [], .v (.slice none 0 0), by omega, rfl, ⟨rfl, Nat.le_refl _, rfl, Or.inl ⟨rfl, rfl⟩⟩, rfl⟩
  rintro μ _ X ⟨w, ds, out, hw0, rfl, hM, hds⟩
  have hfit := ht.words cp (List.mem_of_getElem? hk) ln (List.mem_of_getElem? hn)
  by_cases hle : (w : Int) ≤ (ln.length : Int)
  · have hw := wrap_succ w (by omega)
    have hds2 : ds.length ≤ w * 1001 := by rw [hds]; exact refs_len ln rs k n hrs w
    have hNx : ds.length + rs.length < 2 ^ 32 := by omega
    have hstep : (List.range (w + 1)).foldl (refW ln rs k n) [] = refW ln rs k n ds w := by rw [List.range_succ, List.foldl_append, ← hds]; rfl
    by_cases hlt : (w : Int) < (ln.length : Int)
    · obtain ⟨s, hs⟩ := at_lt ln w (by omega)
      have hsi := hll.idx (strs_get hs)
      have how : (ln[w]?).getD emp = s := by rw [hs]; rfl
      simp -implicitDefEqProofs only [go_sem, ↓reduceIte, Int.reduceEq, Int.reduceLT, Int.reduceLE, List.reduceReplicate, intA, setT_nil, setT_cons, ↓boolP_bool, ↓iteB_true, ↓iteB_false, hll.len, strs_len, hle, hlt, hsi]
      refine inner79 rs x hx ch lx id k n w true ds s _ ?_ X out hM hNx
      intro Y o2 hM2
      unfold T79
      obtain ⟨N, hN⟩ : ∃ N, Y.size = N := ⟨_, rfl⟩
      have hlk : Y.lock ≤ N := by have := hM2.lock; omega
      have hl2 := refI_len k n w rs (ds, s)
      have hqW : refW ln rs k n ds w = if (rs.foldl (refI k n w) (ds, s)).2 = emp then (rs.foldl (refI k n w) (ds, s)).1 else (rs.foldl (refI k n w) (ds, s)).1 ++ [(rs.foldl (refI k n w) (ds, s)).2] := by unfold refW; rw [how]
      generalize rs.foldl (refI k n w) (ds, s) = st at hM2 hl2 hqW ⊢
      obtain ⟨ds2, own2⟩ := st
      simp only at hM2 hl2 hqW
      rw [← plus_nil Y]
      by_cases he : own2 = ({ data := #[] } : ByteArray)
      · rw [if_pos (show own2 = emp from he)] at hqW
        have he' : decide (own2 = ({ data := #[] } : ByteArray)) = true := decide_eq_true he
        simp -implicitDefEqProofs only [go_sem, ↓reduceIte, Int.reduceEq, Int.reduceLT, Int.reduceLE, List.reduceReplicate, intA, setT_nil, setT_cons, ↓boolP_bool, ↓iteB_true, ↓iteB_false, bin_sne, he', hw, sizeP hN, settleP0 hN, settleP hN, List.length_nil, Nat.add_zero]
        exact ⟨μ - 1, by omega, w + 1, ds2, o2, by omega, rfl, (hM2.plus _).trim' hM.size _ _ (le_boundL (by simp)), by rw [hstep, hqW]⟩
      · rw [if_neg (show ¬ own2 = emp from he)] at hqW
        have he' : decide (own2 = ({ data := #[] } : ByteArray)) = false := decide_eq_false he
        rcases hM2.done with ⟨hd, ho⟩ | ⟨b, v, hb1, hb2, ho, hrow⟩
        · subst hd ho
          simp -implicitDefEqProofs only [go_sem, ↓reduceIte, Int.reduceEq, Int.reduceLT, Int.reduceLE, List.reduceReplicate, intA, setT_nil, setT_cons, ↓boolP_bool, ↓iteB_true, ↓iteB_false, bin_sne, he', hw, fitsA1, List.flatMap_cons, List.flatMap_nil, sizeP hN, putP0 hN, putP hN, settleP0 hN, settleP hN, rowP0 hN, rowP hN, storeP0 hN hlk, storeP hN hlk, List.length_nil, Nat.add_zero]
          have hnew := hM2.new hN [some (.cells 0 0 9 1 true [.v (.string own2)])] 0 [own2] rfl
          exact ⟨μ - 1, by omega, w + 1, [] ++ [own2], .sl N 0 0 1 none, by omega, rfl, hnew.trim' hM.size _ _ (le_boundL (by simp)), by rw [hstep, hqW]⟩
        · subst ho
          have hrp : ∀ E, (Y.plus E).row b v = some (0, 9, 1, true, strs ds2) := fun E => by rw [rowLo hb2]; exact hrow
          have hf : fitsA 16 (ds2.length + 1) = true := by unfold fitsA; exact decide_eq_true (by omega)
          have hmore := hM2.more hb2 hrow [own2] (ds2.length + 1) rfl
          simp -implicitDefEqProofs only [go_sem, ↓reduceIte, Int.reduceEq, Int.reduceLT, Int.reduceLE, List.reduceReplicate, intA, setT_nil, setT_cons, ↓boolP_bool, ↓iteB_true, ↓iteB_false, bin_sne, he', hw, List.flatMap_cons, List.flatMap_nil, sizeP hN, putP0 hN, putP hN, settleP0 hN, settleP hN, rowP0 hN, rowP hN, storeP0 hN hlk, storeP hN hlk, List.length_nil, Nat.add_zero]
          rw [appTo_own (m := 0) (e' := 9) (cs := strs ds2) (hrp _) (by rw [strs_len, Nat.mul_one]) hb1 hf (by omega) (by omega)]
          rw [putLo hb2]
          have hNY : (Y.put b (.cells (v + 1) (Nat.max 0 0) 9 1 true (strs ds2 ++ [.v (.string own2)]))).size = N := by rw [put_sizeI _ hb2]; exact hN
          have hst : strs (ds2 ++ [own2]) = strs ds2 ++ [.v (.string own2)] := strs_append _ _
          rw [hst] at hmore
          change M79 id x (Y.put b (.cells (v + 1) (Nat.max 0 0) 9 1 true (strs ds2 ++ [.v (.string own2)]))) _ _ at hmore
          change bindO (some (AV.sl b (v + 1) 0 (ds2.length + 1) none, (Y.put b (.cells (v + 1) (Nat.max 0 0) 9 1 true (strs ds2 ++ [.v (.string own2)]))).plus _)) _
          generalize Y.put b (.cells (v + 1) (Nat.max 0 0) 9 1 true (strs ds2 ++ [.v (.string own2)])) = Z at hmore hNY ⊢
          simp -implicitDefEqProofs only [go_sem, ↓reduceIte, Int.reduceEq, Int.reduceLT, Int.reduceLE, List.reduceReplicate, intA, setT_nil, setT_cons, ↓boolP_bool, ↓iteB_true, ↓iteB_false, hw, sizeP hNY, settleP0 hNY, settleP hNY]
          exact ⟨μ - 1, by omega, w + 1, ds2 ++ [own2], .sl b (v + 1) 0 (ds2.length + 1) none, by omega, rfl, (hmore.plus _).trim' hM.size _ _ (le_boundL (by simp)), by rw [hstep, hqW]⟩
    · obtain rfl : w = ln.length := by omega
      simp -implicitDefEqProofs only [go_sem, ↓reduceIte, Int.reduceEq, Int.reduceLT, Int.reduceLE, List.reduceReplicate, intA, setT_nil, setT_cons, ↓boolP_bool, ↓iteB_true, ↓iteB_false, hll.len, strs_len, hle, hlt]
      refine inner79 rs x hx ch lx id k n ln.length false ds emp _ ?_ X out hM hNx
      intro Y o2 hM2
      have how : (ln[ln.length]?).getD emp = emp := by rw [List.getElem?_eq_none_iff.2 (Nat.le_refl _)]; rfl
      unfold T79
      obtain ⟨N, hN⟩ : ∃ N, Y.size = N := ⟨_, rfl⟩
      have hlk : Y.lock ≤ N := by have := hM2.lock; omega
      have hl2 := refI_len k n ln.length rs (ds, emp)
      have hqW : refW ln rs k n ds ln.length = if (rs.foldl (refI k n ln.length) (ds, emp)).2 = emp then (rs.foldl (refI k n ln.length) (ds, emp)).1 else (rs.foldl (refI k n ln.length) (ds, emp)).1 ++ [(rs.foldl (refI k n ln.length) (ds, emp)).2] := by unfold refW; rw [how]
      generalize rs.foldl (refI k n ln.length) (ds, emp) = st at hM2 hl2 hqW ⊢
      obtain ⟨ds2, own2⟩ := st
      simp only at hM2 hl2 hqW
      rw [← plus_nil Y]
      by_cases he : own2 = ({ data := #[] } : ByteArray)
      · rw [if_pos (show own2 = emp from he)] at hqW
        have he' : decide (own2 = ({ data := #[] } : ByteArray)) = true := decide_eq_true he
        simp -implicitDefEqProofs only [go_sem, ↓reduceIte, Int.reduceEq, Int.reduceLT, Int.reduceLE, List.reduceReplicate, intA, setT_nil, setT_cons, ↓boolP_bool, ↓iteB_true, ↓iteB_false, bin_sne, he', hw, sizeP hN, settleP0 hN, settleP hN, List.length_nil, Nat.add_zero]
        exact ⟨μ - 1, by omega, ln.length + 1, ds2, o2, by omega, rfl, (hM2.plus _).trim' hM.size _ _ (le_boundL (by simp)), by rw [hstep, hqW]⟩
      · rw [if_neg (show ¬ own2 = emp from he)] at hqW
        have he' : decide (own2 = ({ data := #[] } : ByteArray)) = false := decide_eq_false he
        rcases hM2.done with ⟨hd, ho⟩ | ⟨b, v, hb1, hb2, ho, hrow⟩
        · subst hd ho
          simp -implicitDefEqProofs only [go_sem, ↓reduceIte, Int.reduceEq, Int.reduceLT, Int.reduceLE, List.reduceReplicate, intA, setT_nil, setT_cons, ↓boolP_bool, ↓iteB_true, ↓iteB_false, bin_sne, he', hw, fitsA1, List.flatMap_cons, List.flatMap_nil, sizeP hN, putP0 hN, putP hN, settleP0 hN, settleP hN, rowP0 hN, rowP hN, storeP0 hN hlk, storeP hN hlk, List.length_nil, Nat.add_zero]
          have hnew := hM2.new hN [some (.cells 0 0 9 1 true [.v (.string own2)])] 0 [own2] rfl
          exact ⟨μ - 1, by omega, ln.length + 1, [] ++ [own2], .sl N 0 0 1 none, by omega, rfl, hnew.trim' hM.size _ _ (le_boundL (by simp)), by rw [hstep, hqW]⟩
        · subst ho
          have hrp : ∀ E, (Y.plus E).row b v = some (0, 9, 1, true, strs ds2) := fun E => by rw [rowLo hb2]; exact hrow
          have hf : fitsA 16 (ds2.length + 1) = true := by unfold fitsA; exact decide_eq_true (by omega)
          have hmore := hM2.more hb2 hrow [own2] (ds2.length + 1) rfl
          simp -implicitDefEqProofs only [go_sem, ↓reduceIte, Int.reduceEq, Int.reduceLT, Int.reduceLE, List.reduceReplicate, intA, setT_nil, setT_cons, ↓boolP_bool, ↓iteB_true, ↓iteB_false, bin_sne, he', hw, List.flatMap_cons, List.flatMap_nil, sizeP hN, putP0 hN, putP hN, settleP0 hN, settleP hN, rowP0 hN, rowP hN, storeP0 hN hlk, storeP hN hlk, List.length_nil, Nat.add_zero]
          rw [appTo_own (m := 0) (e' := 9) (cs := strs ds2) (hrp _) (by rw [strs_len, Nat.mul_one]) hb1 hf (by omega) (by omega)]
          rw [putLo hb2]
          have hNY : (Y.put b (.cells (v + 1) (Nat.max 0 0) 9 1 true (strs ds2 ++ [.v (.string own2)]))).size = N := by rw [put_sizeI _ hb2]; exact hN
          have hst : strs (ds2 ++ [own2]) = strs ds2 ++ [.v (.string own2)] := strs_append _ _
          rw [hst] at hmore
          change M79 id x (Y.put b (.cells (v + 1) (Nat.max 0 0) 9 1 true (strs ds2 ++ [.v (.string own2)]))) _ _ at hmore
          change bindO (some (AV.sl b (v + 1) 0 (ds2.length + 1) none, (Y.put b (.cells (v + 1) (Nat.max 0 0) 9 1 true (strs ds2 ++ [.v (.string own2)]))).plus _)) _
          generalize Y.put b (.cells (v + 1) (Nat.max 0 0) 9 1 true (strs ds2 ++ [.v (.string own2)])) = Z at hmore hNY ⊢
          simp -implicitDefEqProofs only [go_sem, ↓reduceIte, Int.reduceEq, Int.reduceLT, Int.reduceLE, List.reduceReplicate, intA, setT_nil, setT_cons, ↓boolP_bool, ↓iteB_true, ↓iteB_false, hw, sizeP hNY, settleP0 hNY, settleP hNY]
          exact ⟨μ - 1, by omega, ln.length + 1, ds2 ++ [own2], .sl b (v + 1) 0 (ds2.length + 1) none, by omega, rfl, (hmore.plus _).trim' hM.size _ _ (le_boundL (by simp)), by rw [hstep, hqW]⟩
  · have hw1 : w = ln.length + 1 := by omega
    have hfin : ds = refLine ln rs k n := by rw [hds, hw1]; rfl
    rw [hfin] at hM
    obtain ⟨v, hv1, hv2⟩ := freeze_done hM.done hM.lock
    simp -implicitDefEqProofs only [go_sem, ↓reduceIte, Int.reduceEq, Int.reduceLT, Int.reduceLE, List.reduceReplicate, intA, setT_nil, setT_cons, ↓boolP_bool, ↓iteB_true, ↓iteB_false, hll.len, strs_len, hle]
    exact ⟨v, hv2, hv1⟩
end Go.Ev
namespace Go.Ev
open Go.Proofs
set_option maxRecDepth 100000
set_option linter.unusedSimpArgs false
attribute [local irreducible] Wp WpS
theorem call78 {e : Exts} (he : Quiet e) (t : Txt) (ht : Fits t) (ch : AV) (xs : List AV) (hch : SlOf 2 xs ch) (hall : All2 ChapA t xs) (r : Rd) (hr : RdF r) (me : FuncId) (d : Option Tmp) (H : Heap) : callA (Cx e) (lim (Cx e)) me 78 d [.agg [ch], rdV r] H = some (.v (.bool (readB t r)), H) :=
  (ans78 he t ht ch xs hch hall r hr).call (ext_78 he) (pure_78 _ _ _) (by simp only [boundL_cons, bound_agg, hch.bound, rdV_bound, boundL_nil]; rfl) H
theorem call79 {e : Exts} (he : Quiet e) (t : Txt) (ht : Fits t) (ch : AV) (xs : List AV) (hch : SlOf 2 xs ch) (hall : All2 ChapA t xs) (id : Int) (rs : List Rd) (x : AV) (hx : RdsA rs x) (k n : Nat) (cp : Chap) (hk : t[k]? = some cp) (ln : Line) (hn : cp.2[n]? = some ln) (hlen : ln.length ≤ 1000) (hrs : rs.length ≤ 1000) :
    ∃ v, SlOf 1 (strs (refLine ln rs k n)) v ∧ ∀ (me : FuncId) (d : Option Tmp) (H : Heap), callA (Cx e) (lim (Cx e)) me 79 d [.agg [ch], .agg [.v (.int .i64 id), x], .v (.int .i64 k), .v (.int .i64 n)] H = some (v, H) := by
  obtain ⟨v, hv, ha⟩ := ans79 (e := e) t ht ch xs hch hall id rs x hx k n cp hk ln hn hlen hrs
  exact ⟨v, hv, fun me d H => ha.call (ext_79 he) (pure_79 _ _ _) (by simp only [boundL_cons, bound_agg, hch.bound, intA, bound_v, SlOf.bound hx, boundL_nil]; rfl) H⟩
/-- for texts without empty lines the two tests of a reading agree -/
theorem fit_read {t : Txt} {r : Rd} (h : ∀ l, lineAt t r.ch r.ln = some l → l.length ≠ 0) : fitOne t r = readB t r := by
  unfold fitOne readB
  cases hL : lineAt t r.ch r.ln with
  | none => rfl
  | some l =>
    have h0 := h l hL
    have hz : decide (l.length = 0) = false := decide_eq_false h0
    simp only [hz, Bool.not_false, Bool.true_and]
    by_cases h1 : r.kind = 1
    · rw [h1]; rfl
    · by_cases h2 : r.kind = 2
      · rw [h2]; rfl
      · by_cases h3 : r.kind = 3
        · rw [h3]; rfl
        · rw [if_neg h1, if_neg h1, if_neg h2, if_neg h2, if_neg h3]
          have : withinB 1 3 [r.kind] = false := by
            simp only [withinB, List.all_cons, List.all_nil, Bool.and_true, Bool.and_eq_false_iff, decide_eq_false_iff_not]; omega
          rw [this]; rfl
end Go.Ev
namespace Go.Ev
open Go.Proofs
set_option maxRecDepth 100000
set_option linter.unusedSimpArgs false
attribute [local irreducible] Wp WpS
/-! ### a copy, by the reference -/
def pairR (p r : Rd) : Bool := !(beforeB (r.ch, r.ln, r.wd) (p.ch, p.ln, p.wd) || (eqP r.ch r.ln r.wd p.ch p.ln p.wd && !decide (p.kind = 2)))
def rdsB (t : Txt) : Option Rd → List Rd → Bool
  | _, [] => true
  | p, r :: l => readB t r && (match p with | none => true | some p => pairR p r) && rdsB t (some r) l
def linesN (rs : List Rd) (k : Nat) : Nat → List Line → Bool
  | _, [] => true
  | n, l :: r => withinB 1 10 [((refLine l rs k n).length : Int)] && linesN rs k (n + 1) r
def chapsN (rs : List Rd) : Nat → Txt → Bool
  | _, [] => true
  | k, c :: r => linesN rs k 0 c.2 && chapsN rs (k + 1) r
def copyB (t : Txt) (id : Int) (rs : List Rd) : Bool := withinB 0 9999 [id] && !decide (20 < (rs.length : Int)) && (rdsB t none rs && chapsN rs 0 t)
set_option maxHeartbeats 4000000 in
theorem ans57 {e : Exts} (he : Quiet e) (t : Txt) (ht : Fits t) (hlen : ∀ c ∈ t, ∀ l ∈ c.2, l.length ≤ 1000) (ch : AV) (xs : List AV) (hch : SlOf 2 xs ch) (hall : All2 ChapA t xs) (id : Int) (rs : List Rd) (x : AV) (hx : RdsA rs x) (hrf : ∀ r ∈ rs, RdF r) : Ans (Cx e) 57 [.agg [ch], .agg [intA id, x]] (.v (.bool (copyB t id rs))) := by
  have hxr := hx
  have hx : SlOf 5 (rs.map rdV) x := hx
  have hfit := ht.chs
  have h43 := call43 he id 0 9999
  unfold Ans
  rw [fn_step (fn_57 e) (show Tryz.f57.body = some _ from rfl)]
  cases h1 : withinB 0 9999 [id]
  · rw [h1] at h43
    have hB : copyB t id rs = false := by unfold copyB; rw [h1]; rfl
    rw [hB]
    simp -implicitDefEqProofs only [Tryz.f57, go_sem, ↓reduceIte, Int.reduceEq, Int.reduceLT, Int.reduceLE, List.reduceReplicate, intA, setT_nil, setT_cons, ↓boolP_bool, ↓iteB_true, ↓iteB_false, hch.cells, hch.flat, hch.bound, hx.cells, hx.flat, hx.bound, hx.len, List.length_map, h43]
  by_cases h20 : 20 < (rs.length : Int)
  · have h2 : decide (20 < (rs.length : Int)) = true := decide_eq_true h20
    rw [h1] at h43
    have hB : copyB t id rs = false := by unfold copyB; rw [h1, h2]; rfl
    rw [hB]
    simp -implicitDefEqProofs only [Tryz.f57, go_sem, ↓reduceIte, Int.reduceEq, Int.reduceLT, Int.reduceLE, List.reduceReplicate, intA, setT_nil, setT_cons, ↓boolP_bool, ↓iteB_true, ↓iteB_false, hch.cells, hch.flat, hch.bound, hx.cells, hx.flat, hx.bound, hx.len, List.length_map, h43, h2]
  have h2 : decide (20 < (rs.length : Int)) = false := decide_eq_false h20
  rw [h1] at h43
  have hB : copyB t id rs = (rdsB t none rs && chapsN rs 0 t) := by unfold copyB; rw [h1, h2]; rfl
  rw [hB]
  simp -implicitDefEqProofs only [Tryz.f57, go_sem, ↓reduceIte, Int.reduceEq, Int.reduceLT, Int.reduceLE, List.reduceReplicate, intA, setT_nil, setT_cons, ↓boolP_bool, ↓iteB_true, ↓iteB_false, hch.cells, hch.flat, hch.bound, hx.cells, hx.flat, hx.bound, hx.len, List.length_map, h43, h2]
  refine Lp_rule (P := fun μ a H => ∃ j, j + μ = rs.length ∧ a = ⟨97, [(0, .agg [ch]), (1, .agg [intA id, x]), (2, .ptr 0 0 0), (3, .ptr 1 0 0), (4, .v (.bool false)), (18, .v (.bool false)), (5, intA j)], []⟩ ∧ H = ⟨[some (.cells 0 0 24 1 false [ch]), some (.cells 0 0 53 1 false [intA id, x])], 0⟩ ∧ rdsB t none rs = rdsB t (if j = 0 then none else rs[j - 1]?) (rs.drop j)) ?_ rs.length _ _ ⟨0, by omega, rfl, rfl, rfl⟩
  rintro μ _ _ ⟨j, hj, rfl, rfl, ho⟩
  by_cases hlt : (j : Int) < (rs.length : Int)
  · obtain ⟨r, hr⟩ := at_lt rs j (by omega)
    have hw := wrap_succ j (by omega)
    have hir := hx.idx (rds_get hr)
    have hc78 := call78 he t ht ch xs hch hall r (hrf r (List.mem_of_getElem? hr))
    unfold rdV at hir hc78
    rw [drop_eq_cons hr] at ho
    cases hrd : readB t r
    · have hf : rdsB t none rs = false := by rw [ho]; unfold rdsB; rw [hrd, Bool.false_and, Bool.false_and]
      rw [hrd] at hc78
      rw [hf, Bool.false_and]
      simp -implicitDefEqProofs only [go_sem, ↓reduceIte, Int.reduceEq, Int.reduceLT, Int.reduceLE, List.reduceReplicate, intA, setT_nil, setT_cons, ↓boolP_bool, ↓iteB_true, ↓iteB_false, trim_at, hx.bound, hch.bound, hx.len, List.length_map, hch.cells, hx.cells, hlt, hw, hir, hc78]
    rw [hrd] at hc78
    cases j with
    | zero =>
      have hf : rdsB t none rs = rdsB t (some r) (rs.drop 1) := by rw [ho]; show (readB t r && true && _) = _; rw [hrd]; rfl
      simp -implicitDefEqProofs only [go_sem, ↓reduceIte, Int.reduceEq, Int.reduceLT, Int.reduceLE, List.reduceReplicate, intA, setT_nil, setT_cons, ↓boolP_bool, ↓iteB_true, ↓iteB_false, trim_at, hx.bound, hch.bound, hx.len, List.length_map, hch.cells, hx.cells, hlt, hw, hir, hc78]
      refine wp_drawX [([], [], false), ([], [], false), ([], [], false), ([], [], false), ([], [], false), ([], [], false), ([4], [], false), ([], [], false), ([], [], false), ([], [], false), ([], [], false), ([4], [], false), ([], [], false), ([], [], false), ([], [], false), ([], [], false), ([], [], false), ([15], [], false), ([], [], false), ([], [], false), ([], [], false), ([], [], false), ([15], [], false), ([], [], false), ([], [], false), ([], [], false), ([], [], false), ([], [], false), ([], [], false), ([], [], false), ([], [], false), ([], [], false), ([], [], false), ([], [], false), ([], [], false), ([], [], false)] (by kernel_rfl) (by kernel_rfl) ?_
      simp -implicitDefEqProofs only [go_sem, ↓reduceIte, Int.reduceEq, Int.reduceLT, Int.reduceLE, List.reduceReplicate, intA, setT_nil, setT_cons, ↓boolP_bool, ↓iteB_true, ↓iteB_false, trim_at, hx.bound, hch.bound, hx.len, List.length_map, hch.cells, hx.cells, hw, Int.natCast_zero, Int.lt_irrefl, decide_false, show IntKind.i64.wrap (0 + 1) = 1 from rfl]
      exact ⟨μ - 1, by omega, 1, by omega, rfl, rfl, by rw [hf, if_neg (by omega)]; show _ = rdsB t rs[0]? _; rw [hr]⟩
    | succ i => 
      obtain ⟨p, hp⟩ := at_lt rs i (by omega)
      have hip := hx.idx (rds_get hp)
      unfold rdV at hip
      have hw1 : IntKind.i64.wrap (((i + 1 : Nat) : Int) - 1) = (i : Int) := by rw [wrap_in _ (by omega) (by omega)]; omega
      have hpos : (0 : Int) < ((i + 1 : Nat) : Int) := by omega
      have hc18 : ∀ (me : FuncId) (d : Option Tmp), callI (Cx e) me 18 d [.agg [.v (.int .i64 r.ch), .v (.int .i64 r.ln), .v (.int .i64 r.wd)], .agg [.v (.int .i64 p.ch), .v (.int .i64 p.ln), .v (.int .i64 p.wd)]] = some (.v (.bool (beforeB (r.ch, r.ln, r.wd) (p.ch, p.ln, p.wd)))) := fun me d => (ans18 r.ch r.ln r.wd p.ch p.ln p.wd).callI (ext_18 he) (pure_18 _ _ _) rfl
      have hf : rdsB t none rs = (pairR p r && rdsB t (some r) (rs.drop (i + 1 + 1))) := by rw [ho, if_neg (by omega), Nat.add_sub_cancel, hp]; show (readB t r && pairR p r && _) = _; rw [hrd]; rfl
      simp -implicitDefEqProofs only [go_sem, ↓reduceIte, Int.reduceEq, Int.reduceLT, Int.reduceLE, List.reduceReplicate, intA, setT_nil, setT_cons, ↓boolP_bool, ↓iteB_true, ↓iteB_false, trim_at, hx.bound, hch.bound, hx.len, List.length_map, hch.cells, hx.cells, hlt, hw, hir, hc78]
      refine wp_drawX [([], [], false), ([], [], false), ([], [], false), ([], [], false), ([], [], false), ([], [], false), ([4], [], false), ([], [], false), ([], [], false), ([], [], false), ([], [], false), ([4], [], false), ([], [], false), ([], [], false), ([], [], false), ([], [], false), ([], [], false), ([15], [], false), ([], [], false), ([], [], false), ([], [], false), ([], [], false), ([15], [], false), ([], [], false), ([], [], false), ([], [], false), ([], [], false), ([], [], false), ([], [], false), ([], [], false), ([], [], false), ([], [], false), ([], [], false), ([], [], false), ([], [], false), ([], [], false)] (by kernel_rfl) (by kernel_rfl) ?_
      cases k1 : beforeB (r.ch, r.ln, r.wd) (p.ch, p.ln, p.wd)
      · cases k2 : eqP r.ch r.ln r.wd p.ch p.ln p.wd
        · have hpr : pairR p r = true := by unfold pairR; rw [k1, k2]; rfl
          rw [k1] at hc18
          simp -implicitDefEqProofs only [go_sem, ↓reduceIte, Int.reduceEq, Int.reduceLT, Int.reduceLE, List.reduceReplicate, intA, setT_nil, setT_cons, ↓boolP_bool, ↓iteB_true, ↓iteB_false, trim_at, hx.bound, hch.bound, hx.len, List.length_map, hch.cells, hx.cells, hw, hw1, hpos, hip, hc18, eq32, k2]
          exact ⟨μ - 1, by omega, i + 1 + 1, by omega, rfl, rfl, by rw [hf, hpr, Bool.true_and, if_neg (by omega), Nat.add_sub_cancel, hr]⟩
        · cases k3 : decide (p.kind = 2)
          · have hpr : pairR p r = false := by unfold pairR; rw [k1, k2, k3]; rfl
            rw [k1] at hc18
            rw [hf, hpr, Bool.false_and, Bool.false_and]
            simp -implicitDefEqProofs only [go_sem, ↓reduceIte, Int.reduceEq, Int.reduceLT, Int.reduceLE, List.reduceReplicate, intA, setT_nil, setT_cons, ↓boolP_bool, ↓iteB_true, ↓iteB_false, trim_at, hx.bound, hch.bound, hx.len, List.length_map, hch.cells, hx.cells, hw, hw1, hpos, hip, hc18, eq32, k2, bin_neq8, k3]
          · have hpr : pairR p r = true := by unfold pairR; rw [k1, k2, k3]; rfl
            rw [k1] at hc18
            simp -implicitDefEqProofs only [go_sem, ↓reduceIte, Int.reduceEq, Int.reduceLT, Int.reduceLE, List.reduceReplicate, intA, setT_nil, setT_cons, ↓boolP_bool, ↓iteB_true, ↓iteB_false, trim_at, hx.bound, hch.bound, hx.len, List.length_map, hch.cells, hx.cells, hw, hw1, hpos, hip, hc18, eq32, k2, bin_neq8, k3]
            exact ⟨μ - 1, by omega, i + 1 + 1, by omega, rfl, rfl, by rw [hf, hpr, Bool.true_and, if_neg (by omega), Nat.add_sub_cancel, hr]⟩
      · have hpr : pairR p r = false := by unfold pairR; rw [k1]; rfl
        rw [k1] at hc18
        rw [hf, hpr, Bool.false_and, Bool.false_and]
        simp -implicitDefEqProofs only [go_sem, ↓reduceIte, Int.reduceEq, Int.reduceLT, Int.reduceLE, List.reduceReplicate, intA, setT_nil, setT_cons, ↓boolP_bool, ↓iteB_true, ↓iteB_false, trim_at, hx.bound, hch.bound, hx.len, List.length_map, hch.cells, hx.cells, hw, hw1, hpos, hip, hc18]
  · have hdone : rdsB t none rs = true := by rw [ho, show rs.drop j = [] from List.drop_eq_nil_of_le (by omega)]; rfl
    rw [hdone, Bool.true_and]
    simp -implicitDefEqProofs only [go_sem, ↓reduceIte, Int.reduceEq, Int.reduceLT, Int.reduceLE, List.reduceReplicate, intA, setT_nil, setT_cons, ↓boolP_bool, ↓iteB_true, ↓iteB_false, trim_at, hx.bound, hch.bound, hx.len, List.length_map, hch.cells, hx.cells, hlt]
    have hj5 : j = rs.length := by omega
    subst hj5
    refine Lp_rule (P := fun μ a H => ∃ k, k + μ = t.length ∧ a = ⟨97, [(0, .agg [ch]), (1, .agg [intA id, x]), (2, .ptr 0 0 0), (3, .ptr 1 0 0), (4, .v (.bool false)), (18, .v (.bool false)), (5, intA rs.length), (7, intA k)], []⟩ ∧ H = ⟨[some (.cells 0 0 24 1 false [ch]), some (.cells 0 0 53 1 false [intA id, x])], 0⟩ ∧ chapsN rs 0 t = chapsN rs k (t.drop k)) ?_ t.length _ _ ⟨0, by omega, rfl, rfl, rfl⟩
    rintro μ2 _ _ ⟨k, hk, rfl, rfl, hok⟩
    by_cases hltk : (k : Int) < (t.length : Int)
    · obtain ⟨cp, hcp⟩ := at_lt t k (by omega)
      have hwk := wrap_succ k (by omega)
      obtain ⟨z, hz, l, rfl, lxs, hll, hls⟩ := hall.get hcp
      have hik := hch.idx hz
      unfold intA at hik
      have hcm := List.mem_of_getElem? hcp
      have hfl := ht.lines cp hcm
      rw [drop_eq_cons hcp] at hok
      simp -implicitDefEqProofs only [go_sem, ↓reduceIte, Int.reduceEq, Int.reduceLT, Int.reduceLE, List.reduceReplicate, intA, setT_nil, setT_cons, ↓boolP_bool, ↓iteB_true, ↓iteB_false, trim_at, hx.bound, hch.bound, hx.len, List.length_map, hch.cells, hx.cells, hch.len, ← hall.1, hltk]
      refine Lp_rule (P := fun μ a H => ∃ n, n + μ = cp.2.length ∧ a = ⟨97, [(0, .agg [ch]), (1, .agg [intA id, x]), (2, .ptr 0 0 0), (3, .ptr 1 0 0), (4, .v (.bool false)), (18, .v (.bool false)), (5, intA rs.length), (7, intA k), (75, .v (.bool true)), (8, intA n)], []⟩ ∧ H = ⟨[some (.cells 0 0 24 1 false [ch]), some (.cells 0 0 53 1 false [intA id, x])], 0⟩ ∧ linesN rs k 0 cp.2 = linesN rs k n (cp.2.drop n)) ?_ cp.2.length _ _ ⟨0, by omega, rfl, rfl, rfl⟩
      rintro μ3 _ _ ⟨n, hn, rfl, rfl, hon⟩
      by_cases hltn : (n : Int) < (cp.2.length : Int)
      · obtain ⟨ln, hln⟩ := at_lt cp.2 n (by omega)
        have hwn := wrap_succ n (by omega)
        obtain ⟨v, hv, h79⟩ := call79 he t ht ch xs hch hall id rs x hxr k n cp hcp ln hln (hlen cp hcm ln (List.mem_of_getElem? hln)) (by omega)
        have hv : SlOf 1 (strs (refLine ln rs k n)) v := hv
        have hw10 := call43 he ((refLine ln rs k n).length : Int) 1 10
        rw [drop_eq_cons hln] at hon
        cases h10 : withinB 1 10 [((refLine ln rs k n).length : Int)]
        · rw [h10] at hw10
          have hf : chapsN rs 0 t = false := by rw [hok]; show (linesN rs k 0 cp.2 && _) = _; rw [hon]; show ((withinB 1 10 _ && _) && _) = _; rw [h10]; rfl
          rw [hf]
          simp -implicitDefEqProofs only [go_sem, ↓reduceIte, Int.reduceEq, Int.reduceLT, Int.reduceLE, List.reduceReplicate, intA, setT_nil, setT_cons, ↓boolP_bool, ↓iteB_true, ↓iteB_false, trim_at, hx.bound, hch.bound, hx.len, List.length_map, hch.cells, hx.cells, hch.len, ← hall.1, hik, hll.len, hll.cells, ← hls.1, hltn, h79, hv.len, hv.flat, strs_len, hw10]
        · rw [h10] at hw10
          simp -implicitDefEqProofs only [go_sem, ↓reduceIte, Int.reduceEq, Int.reduceLT, Int.reduceLE, List.reduceReplicate, intA, setT_nil, setT_cons, ↓boolP_bool, ↓iteB_true, ↓iteB_false, trim_at, hx.bound, hch.bound, hx.len, List.length_map, hch.cells, hx.cells, hch.len, ← hall.1, hik, hll.len, hll.cells, ← hls.1, hltn, h79, hv.len, hv.flat, strs_len, hw10, hwn]
          exact ⟨μ3 - 1, by omega, n + 1, by omega, rfl, rfl, by rw [hon]; show (withinB 1 10 _ && _) = _; rw [h10]; rfl⟩
      · have hf : linesN rs k 0 cp.2 = true := by rw [hon, show cp.2.drop n = [] from List.drop_eq_nil_of_le (by omega)]; rfl
        simp -implicitDefEqProofs only [go_sem, ↓reduceIte, Int.reduceEq, Int.reduceLT, Int.reduceLE, List.reduceReplicate, intA, setT_nil, setT_cons, ↓boolP_bool, ↓iteB_true, ↓iteB_false, trim_at, hx.bound, hch.bound, hx.len, List.length_map, hch.cells, hx.cells, hch.len, ← hall.1, hik, hll.len, hll.cells, ← hls.1, hltn, hwk]
        exact ⟨μ2 - 1, by omega, k + 1, by omega, rfl, rfl, by rw [hok]; show (linesN rs k 0 cp.2 && _) = _; rw [hf]; rfl⟩
    · have hf : chapsN rs 0 t = true := by rw [hok, show t.drop k = [] from List.drop_eq_nil_of_le (by omega)]; rfl
      rw [hf]
      simp -implicitDefEqProofs only [go_sem, ↓reduceIte, Int.reduceEq, Int.reduceLT, Int.reduceLE, List.reduceReplicate, intA, setT_nil, setT_cons, ↓boolP_bool, ↓iteB_true, ↓iteB_false, trim_at, hx.bound, hch.bound, hx.len, List.length_map, hch.cells, hx.cells, hch.len, ← hall.1, hltk]
end Go.Ev
namespace Go.Ev
open Go.Proofs
set_option maxRecDepth 100000
set_option linter.unusedSimpArgs false
attribute [local irreducible] Wp WpS
def rightB (t : Txt) (id : Int) (rs : List Rd) : Bool := !greatCB rs && copyB t id rs
set_option maxHeartbeats 2000000 in
theorem ans28 {e : Exts} (he : Quiet e) (t : Txt) (ht : Fits t) (hlen : ∀ c ∈ t, ∀ l ∈ c.2, l.length ≤ 1000) (ch : AV) (xs : List AV) (hch : SlOf 2 xs ch) (hall : All2 ChapA t xs) (id : Int) (rs : List Rd) (x : AV) (hx : RdsA rs x) (hrf : ∀ r ∈ rs, RdF r) : Ans (Cx e) 28 [.agg [ch], .agg [intA id, x]] (.v (.bool (rightB t id rs))) := by
  have hxr := hx
  have hx : SlOf 5 (rs.map rdV) x := hx
  have h56 := call56 he id rs x hxr
  have h57 : ∀ (me : FuncId) (d : Option Tmp) (H : Heap), callA (Cx e) (lim (Cx e)) me 57 d [.agg [ch], .agg [.v (.int .i64 id), x]] H = some (.v (.bool (copyB t id rs)), H) := fun me d H =>
    (ans57 he t ht hlen ch xs hch hall id rs x hxr hrf).call (ext_57 he) (pure_57 _ _ _) (by simp only [boundL_cons, bound_agg, hch.bound, intA, bound_v, SlOf.bound hx, boundL_nil]; rfl) H
  unfold Ans
  rw [fn_step (fn_28 e) (show Tryz.f28.body = some _ from rfl)]
  cases h1 : greatCB rs
  · have hB : rightB t id rs = copyB t id rs := by unfold rightB; rw [h1]; rfl
    rw [h1] at h56
    rw [hB]
    simp -implicitDefEqProofs only [Tryz.f28, go_sem, ↓reduceIte, Int.reduceEq, Int.reduceLT, Int.reduceLE, List.reduceReplicate, intA, setT_nil, setT_cons, ↓boolP_bool, ↓iteB_true, ↓iteB_false, hch.cells, hch.flat, hch.bound, hx.cells, hx.flat, hx.bound, h56, h57]
  · have hB : rightB t id rs = false := by unfold rightB; rw [h1]; rfl
    rw [h1] at h56
    rw [hB]
    simp -implicitDefEqProofs only [Tryz.f28, go_sem, ↓reduceIte, Int.reduceEq, Int.reduceLT, Int.reduceLE, List.reduceReplicate, intA, setT_nil, setT_cons, ↓boolP_bool, ↓iteB_true, ↓iteB_false, hch.cells, hch.flat, hch.bound, hx.cells, hx.flat, hx.bound, h56]
end Go.Ev
namespace Go.Ev
open Go.Proofs
set_option maxRecDepth 100000
set_option linter.unusedSimpArgs false
attribute [local irreducible] Wp WpS
/-- the copy is one of the text, as hasCopy has it -/
def Has58 (e : Exts) (ch : AV) (id : Int) (x : AV) (b : Bool) : Prop := ∀ (me : FuncId) (d : Option Tmp) (H : Heap), callA (Cx e) (lim (Cx e)) me 58 d [.agg [ch], .agg [.v (.int .i64 id), x]] H = some (.v (.bool b), H)
set_option maxHeartbeats 2000000 in
theorem ans54 {e : Exts} (he : Quiet e) (t : Txt) (ht : Fits t) (htx : textB t = true) (ch : AV) (xs : List AV) (hch : SlOf 2 xs ch) (hall : All2 ChapA t xs) (id : Int) (rs : List Rd) (x : AV) (hx : RdsA rs x) (h58 : Has58 e ch id x true) : Ans (Cx e) 54 [.agg [ch], .agg [intA id, x]] (.tup [.agg [ch], intA 0]) := by
  have hx : SlOf 5 (rs.map rdV) x := hx
  have h40 := call40 he t ht ch ⟨xs, hch, hall⟩
  rw [htx, if_pos rfl] at h40
  unfold intA at h40
  unfold Has58 at h58
  unfold Ans
  rw [fn_step (fn_54 e) (show Tryz.f54.body = some _ from rfl)]
  simp -implicitDefEqProofs only [Tryz.f54, go_sem, ↓reduceIte, Int.reduceEq, Int.reduceLT, Int.reduceLE, List.reduceReplicate, intA, setT_nil, setT_cons, ↓boolP_bool, ↓iteB_true, ↓iteB_false, hch.cells, hch.flat, hch.bound, hx.cells, hx.flat, hx.bound, h40, h58]
  rcases hch with ⟨rfl, -⟩ | ⟨cap, rfl⟩ <;> rfl
theorem call54 {e : Exts} (he : Quiet e) (t : Txt) (ht : Fits t) (htx : textB t = true) (ch : AV) (xs : List AV) (hch : SlOf 2 xs ch) (hall : All2 ChapA t xs) (id : Int) (rs : List Rd) (x : AV) (hx : RdsA rs x) (h58 : Has58 e ch id x true) (me : FuncId) (d : Option Tmp) (H : Heap) : callA (Cx e) (lim (Cx e)) me 54 d [.agg [ch], .agg [.v (.int .i64 id), x]] H = some (.tup [.agg [ch], .v (.int .i64 0)], H) :=
  (ans54 he t ht htx ch xs hch hall id rs x hx h58).call (ext_54 he) (pure_54 _ _ _) (by simp only [boundL_cons, bound_agg, hch.bound, intA, bound_v, SlOf.bound hx, boundL_nil]; rfl) H
def takesB (a b c : Int) (r : Rd) : Bool := eqP r.ch r.ln r.wd a b c && !decide (r.kind = 2)
def standL (rs : List Rd) (a b c : Int) (own : ByteArray) : ByteArray := match rs.find? (takesB a b c) with | some r => r.word | none => own
end Go.Ev
namespace Go.Ev
open Go.Proofs Go.Sort
set_option maxRecDepth 100000
set_option linter.unusedSimpArgs false
attribute [local irreducible] Wp WpS
/-! ### the word of a place -/
/-! ### the places of a copy that are in doubt -/
def plsV : List P3 → AV
  | [] => .v (.slice none 0 0)
  | p :: l => .vs 3 ((p :: l).map p3V) none
theorem chunk_pls : ∀ f : List P3, chunk 3 f.length (clP f) = f.map p3V
  | [] => rfl
  | r :: f => by
    rw [clP_cons, List.length_cons, List.map_cons, ← chunk_pls f]; rfl
def In59 (id : Int) (x : AV) (n j : Nat) (f : List P3) (a : AAct) (H : Heap) : Prop :=
  (f = [] ∧ a = ⟨23, [(0, .agg [intA id, x]), (1, .ptr 0 0 0), (2, .v (.slice none 0 0)), (3, .v (.slice none 0 0)), (7, x), (8, intA n), (9, intA j)], []⟩ ∧ H = ⟨[some (.cells 0 0 53 1 false [intA id, x])], 0⟩) ∨
  ∃ c1 v, f ≠ [] ∧ a = ⟨23, [(0, .agg [intA id, x]), (1, .ptr 0 0 0), (2, .v (.slice none 0 0)), (3, .sl 2 v 0 f.length none), (7, x), (8, intA n), (9, intA j)], []⟩ ∧ H = ⟨[some (.cells 0 0 53 1 false [intA id, x]), some (.cells 0 0 65 1 false c1), some (.cells v 0 32 3 true (clP f))], 0⟩
theorem freeze_pls (H : Heap) (b v : Nat) (f : List P3) (hf : f ≠ []) (hk : H.lock = 0) (hr : H.row b v = some (0, 32, 3, true, clP f)) : freezeV H 1000000 (.sl b v 0 f.length none) = some (plsV f) := by
  have : plsV f = .vs 3 (f.map p3V) none := by cases f with | nil => exact absurd rfl hf | cons r f => rfl
  rw [this, ← chunk_pls f]
  unfold freezeV
  simp only [hr, hk]
  rw [if_neg (by omega), if_pos ⟨by rw [clP_len]; omega, by omega⟩, if_pos trivial, List.drop_zero, List.take_of_length_le (by rw [clP_len]; omega)]
theorem dbtL_step (l : List Rd) {j : Nat} {r : Rd} (hr : l[j]? = some r) : dbtL (l.take (j + 1)) = dbtL (l.take j) ++ if r.kind = 2 then [] else [atR r] := by
  unfold dbtL
  rw [List.take_add_one, hr, List.filter_append, List.map_append]
  by_cases h : r.kind = 2 <;> simp [h]
set_option maxHeartbeats 1000000 in
theorem ans59 {e : Exts} (_he : Quiet e) (id : Int) (l : List Rd) (x : AV) (hx : RdsA l x) (hn : l.length < 2 ^ 33) : Ans (Cx e) 59 [.agg [intA id, x]] (plsV (dbtL l)) := by
  have hx : SlOf 5 (l.map rdV) x := hx
  unfold Ans
  rw [fn_step (fn_59 e) (show Tryz.f59.body = some _ from rfl)]
  simp -implicitDefEqProofs only [Tryz.f59, go_sem, ↓reduceIte, Int.reduceEq, Int.reduceLT, Int.reduceLE, List.reduceReplicate, intA, setT_nil, setT_cons, hx.len, hx.cells, hx.flat, hx.bound, List.length_map]
  refine Lp_rule (P := fun μ a H => ∃ j, j + μ = l.length ∧ In59 id x l.length j (dbtL (l.take j)) a H) ?_ l.length _ _ ⟨0, by omega, Or.inl ⟨rfl, rfl, rfl⟩⟩
  rintro μ _ _ ⟨j, hj, ⟨hf, rfl, rfl⟩ | ⟨c1, v, hf, rfl, rfl⟩⟩
  · cases μ with
    | zero =>
      obtain rfl : j = l.length := by omega
      rw [List.take_of_length_le (Nat.le_refl _)] at hf
      rw [hf]
      simp -implicitDefEqProofs only [go_sem, ↓reduceIte, Int.reduceEq, Int.reduceLT, Int.reduceLE, List.reduceReplicate, intA, setT_nil, setT_cons, Int.lt_irrefl, plsV]
    | succ μ =>
      obtain ⟨r, hr⟩ := at_lt l j (by omega)
      have hlt : (j : Int) < (l.length : Int) := by omega
      have hw := wrap_succ j (by omega)
      have hir := hx.idx (rds_get hr)
      unfold rdV at hir
      have ht := dbtL_step l hr
      rw [hf] at ht
      cases h1 : decide (r.kind = 2)
      · have hf24 : fitsA 24 1 = true := by decide
        rw [if_neg (of_decide_eq_false h1)] at ht
        simp -implicitDefEqProofs only [go_sem, ↓reduceIte, Int.reduceEq, Int.reduceLT, Int.reduceLE, List.reduceReplicate, intA, setT_nil, setT_cons, hlt, hw, hir, bin_neq8, h1, trim_at, hx.bound, hf24, List.flatMap_cons, List.flatMap_nil, trim_not, bound_sl]
        exact ⟨μ, by omega, j + 1, by omega, Or.inr ⟨_, 0, by rw [ht]; simp, by rw [ht]; simp [intA], by rw [ht]; simp [clP, flatE, encP, atR]; exact ⟨rfl, rfl⟩⟩⟩
      · rw [if_pos (of_decide_eq_true h1)] at ht
        simp -implicitDefEqProofs only [go_sem, ↓reduceIte, Int.reduceEq, Int.reduceLT, Int.reduceLE, List.reduceReplicate, intA, setT_nil, setT_cons, hlt, hw, hir, bin_neq8, h1, trim_at, hx.bound]
        exact ⟨μ, by omega, j + 1, by omega, Or.inl ⟨by rw [ht]; rfl, rfl, rfl⟩⟩
  · cases μ with
    | zero =>
      obtain rfl : j = l.length := by omega
      rw [List.take_of_length_le (Nat.le_refl _)] at hf ⊢
      simp -implicitDefEqProofs only [go_sem, ↓reduceIte, Int.reduceEq, Int.reduceLT, Int.reduceLE, List.reduceReplicate, intA, setT_nil, setT_cons, Int.lt_irrefl]
      exact freeze_pls _ 2 v _ hf rfl (by simp [Heap.row, Heap.get])
    | succ μ =>
      obtain ⟨r, hr⟩ := at_lt l j (by omega)
      have hlt : (j : Int) < (l.length : Int) := by omega
      have hw := wrap_succ j (by omega)
      have hir := hx.idx (rds_get hr)
      unfold rdV at hir
      have ht := dbtL_step l hr
      have hfl : (dbtL (l.take j)).length ≤ l.length := Nat.le_trans (dbtL_len _) (by rw [List.length_take]; omega)
      generalize dbtL (l.take j) = f at *
      cases h1 : decide (r.kind = 2)
      · rw [if_neg (of_decide_eq_false h1)] at ht
        simp -implicitDefEqProofs only [go_sem, ↓reduceIte, Int.reduceEq, Int.reduceLT, Int.reduceLE, List.reduceReplicate, intA, setT_nil, setT_cons, hlt, hw, hir, bin_neq8, h1, trim_at, hx.bound, bound_sl, List.flatMap_cons, List.flatMap_nil]
        rw [appTo_own (m := 0) (e' := 32) (cs := clP f) (by simp [Heap.row, Heap.get]) (by rw [clP_len]) (Nat.zero_le _) (by unfold fitsA; exact decide_eq_true (by omega)) (by omega) (by omega)]
        simp -implicitDefEqProofs only [go_sem, ↓reduceIte, Int.reduceEq, Int.reduceLT, Int.reduceLE, List.reduceReplicate, intA, setT_nil, setT_cons, trim_at, hx.bound, bound_sl]
        exact ⟨μ, by omega, j + 1, by omega, Or.inr ⟨c1, v + 1, by rw [ht]; simp, by rw [ht]; simp [intA], by rw [ht]; simp [clP_append]; simp [clP, flatE, encP, atR]; rfl⟩⟩
      · rw [if_pos (of_decide_eq_true h1), List.append_nil] at ht
        simp -implicitDefEqProofs only [go_sem, ↓reduceIte, Int.reduceEq, Int.reduceLT, Int.reduceLE, List.reduceReplicate, intA, setT_nil, setT_cons, hlt, hw, hir, bin_neq8, h1, trim_at, hx.bound, bound_sl]
        exact ⟨μ, by omega, j + 1, by omega, Or.inr ⟨c1, v, by rw [ht]; exact hf, by rw [ht]; simp [intA], by rw [ht]; simp [intA]⟩⟩
theorem plsV_bound (l : List P3) : bound (plsV l) = 0 := by cases l <;> rfl
end Go.Ev
namespace Go.Ev
open Go.Proofs Go.Sort
set_option maxRecDepth 100000
set_option linter.unusedSimpArgs false
attribute [local irreducible] Wp WpS
/-! ### Places -/
def getT (w : ByteArray) : TbW → List P3
  | [] => []
  | x :: r => if x.1 = w then x.2 else getT w r
def placesL (w : ByteArray) (l : List (Plc × ByteArray)) : List P3 := (l.filter fun y => decide (y.2 = w)).map fun y => plI y.1
theorem get_add (w w' : ByteArray) (p : P3) : ∀ s : TbW, getT w (addT w' p s) = if w' = w then getT w s ++ [p] else getT w s
  | [] => by
    unfold addT getT
    by_cases h : w' = w
    · rw [if_pos h, if_pos h]; rfl
    · rw [if_neg h, if_neg h]; rfl
  | x :: r => by
    have ih := get_add w w' p r
    unfold addT
    by_cases h : x.1 = w'
    · rw [if_pos h]
      by_cases h2 : w' = w
      · rw [if_pos h2]
        show (if x.1 = w then x.2 ++ [p] else _) = (if x.1 = w then x.2 else _) ++ [p]
        rw [if_pos (h.trans h2), if_pos (h.trans h2)]
      · rw [if_neg h2]
        show (if x.1 = w then _ else getT w r) = (if x.1 = w then _ else getT w r)
        rw [if_neg (fun e => h2 (h.symm.trans e)), if_neg (fun e => h2 (h.symm.trans e))]
    · rw [if_neg h]
      show (if x.1 = w then x.2 else getT w (addT w' p r)) = _
      rw [ih]
      by_cases h2 : w' = w
      · rw [if_pos h2, if_pos h2]
        show _ = (if x.1 = w then x.2 else getT w r) ++ [p]
        rw [if_neg (fun e => h (e.trans h2.symm)), if_neg (fun e => h (e.trans h2.symm))]
      · rw [if_neg h2, if_neg h2]; rfl
theorem get_tab (w : ByteArray) : ∀ (l : List (Plc × ByteArray)) (s : TbW), getT w (tabW l s) = getT w s ++ placesL w l
  | [], s => by show getT w s = _ ++ []; rw [List.append_nil]
  | y :: r, s => by
    show getT w (tabW r (addT y.2 (plI y.1) s)) = _
    rw [get_tab w r, get_add]
    unfold placesL
    by_cases h : y.2 = w
    · rw [if_pos h, List.filter_cons, if_pos (decide_eq_true h), List.append_assoc]; rfl
    · rw [if_neg h, List.filter_cons, if_neg (by simp [h])]
theorem getT_in (w : ByteArray) (ps : List P3) (b : TbW) : ∀ a : TbW, w ∉ a.map (·.1) → getT w (a ++ (w, ps) :: b) = ps
  | [], _ => by show (if w = w then _ else _) = _; rw [if_pos rfl]
  | x :: a, h => by
    simp only [List.map_cons, List.mem_cons, not_or] at h
    show (if x.1 = w then _ else getT w (a ++ (w, ps) :: b)) = _
    rw [if_neg (fun e => h.1 e.symm), getT_in w ps b a h.2]
theorem getT_out (w : ByteArray) : ∀ a : TbW, w ∉ a.map (·.1) → getT w a = []
  | [], _ => rfl
  | x :: a, h => by
    simp only [List.map_cons, List.mem_cons, not_or] at h
    show (if x.1 = w then _ else getT w a) = _
    rw [if_neg (fun e => h.1 e.symm), getT_out w a h.2]
/-- what is looked up in the map that is left behind -/
theorem look_tab {G : Heap} {tb : TbW} {es : List (AV × AV × Nat)} {rows : Fm} {mb mx c : Nat} (hT : TabM tb es rows) (hg : G.get mb = some (.map mx es c)) (hr : Has rows G) (w : ByteArray) :
    (getT w tb = [] ∧ w ∉ tb.map (·.1) ∧ lookupA Tryz.prog G 90 (.mp mb) (strK w) false = some (.v (.slice none 0 0))) ∨
    (getT w tb ≠ [] ∧ w ∈ tb.map (·.1) ∧ ∃ b v, keyIn b rows ∧ G.row b v = some (0, 32, 3, true, clP (getT w tb)) ∧ lookupA Tryz.prog G 90 (.mp mb) (strK w) false = some (.sl b v 0 (getT w tb).length none)) := by
  by_cases hin : w ∈ tb.map (·.1)
  · right
    obtain ⟨tb1, x, tb2, es1, en, es2, r1, r, r2, rfl, rfl, hn1, rfl, rfl, hT1, hTx, hT2⟩ := hT.split w hin
    obtain ⟨hk, hps, ver, hv, hrr⟩ := hTx
    obtain ⟨w, ps⟩ := x
    obtain ⟨k', v', c'⟩ := en
    obtain ⟨b, ob⟩ := r
    simp only at hk hps hv hrr
    subst hk hv hrr
    rw [getT_in w ps tb2 tb1 hn1]
    have hfind : findKeyA Tryz.prog 9 (strK w) (es1 ++ (strK w, .sl b ver 0 ps.length none, c') :: es2) 0 = some (some (es1.length, .sl b ver 0 ps.length none)) := by
      rw [find_skip Tryz.prog 9 w es1 (tb1.map (·.1)) 0 _ (by rw [hT1.keys, List.map_map]; rfl) hn1, find_here, Nat.zero_add]
    refine ⟨hps, hin, b, ver, ⟨(b, .cells ver 0 32 3 true (clP ps)), by simp, rfl⟩, ?_, look_in hg hfind false⟩
    exact get_row (hr (b, .cells ver 0 32 3 true (clP ps)) (by simp))
  · left
    have hfind : findKeyA Tryz.prog 9 (strK w) es 0 = some none := by
      have h := find_skip Tryz.prog 9 w es (tb.map (·.1)) 0 [] (by rw [hT.keys, List.map_map]; rfl) hin
      rw [List.append_nil] at h
      exact h
    exact ⟨getT_out w tb hin, hin, look_out hg hfind false⟩
theorem freeze_plsK (H : Heap) (b v : Nat) (f : List P3) (hf : f ≠ []) (hk : H.lock = 0) (hr : H.row b v = some (0, 32, 3, true, clP f)) (k : Nat) : freezeV H (k + 1) (.sl b v 0 f.length none) = some (plsV f) := by
  have : plsV f = .vs 3 (f.map p3V) none := by cases f with | nil => exact absurd rfl hf | cons r f => rfl
  rw [this, ← chunk_pls f]
  unfold freezeV
  simp only [hr, hk]
  rw [if_neg (by omega), if_pos ⟨by rw [clP_len]; omega, by omega⟩, if_pos trivial, List.drop_zero, List.take_of_length_le (by rw [clP_len]; omega)]
theorem freeze_two {H : Heap} {x y : AV} (h : ∀ k, freezeV H (k + 1) x = some y) : freezeV H 1000000 (.tup [x, .v (.int .i64 0)]) = some (.tup [y, .v (.int .i64 0)]) := by
  have e1 : freezeL H 999999 [x, .v (.int .i64 0)] = some [y, .v (.int .i64 0)] := by
    show (match freezeV H (999997 + 1) x, freezeL H 999998 [.v (.int .i64 0)] with | some y, some ys => some (y :: ys) | _, _ => none) = _
    rw [h]; rfl
  show (freezeL H 999999 [x, .v (.int .i64 0)]).map AV.tup = _
  rw [e1]; rfl
set_option maxHeartbeats 2000000 in
theorem ans21 {e : Exts} (he : Quiet e) {t : Txt} (ht : Fits t) (htx : textB t = true) {ch : AV} {xs : List AV} (hch : SlOf 2 xs ch) (hall : All2 ChapA t xs) (w : ByteArray) (hws : w.size < 2 ^ 63) (hwb : wordB w = true) :
    Ans (Cx e) 21 [.agg [ch], .v (.string w)] (.tup [plsV (placesL w (wordsT 0 t)), .v (.int .i64 0)]) := by
  have hs := small_of htx
  have h40 := call40 he t ht ch ⟨xs, hch, hall⟩
  rw [htx, if_pos rfl] at h40
  have h49 := fun me d H => (ans49 he w hws).call (me := me) (d := d) (ext_49 he) (pure_49 _ _ _) rfl H
  rw [hwb] at h49
  have hlx : xs.length < 2 ^ 63 := by rw [← hall.1]; exact ht.chs
  have hwn : (wordsT 0 t).length < 2 ^ 31 := by have := wordsT_small hs; omega
  unfold Ans
  rw [fn_step (fn_21 e) (show Tryz.f21.body = some _ from rfl)]
  simp -implicitDefEqProofs only [Tryz.f21, go_sem, ↓reduceIte, Int.reduceEq, Int.reduceLT, Int.reduceLE, List.reduceReplicate, intA, setT_nil, setT_cons, ↓boolP_bool, ↓iteB_true, ↓iteB_false, hch.cells, hch.flat, hch.bound, h40, h49]
  obtain ⟨Y, hc, -, hYl, hYs, hYlo, es, mx, c, rows, hT, hlo, hnd, hg, hr⟩ := call46 he hch hall (okCh2_of ht hall) hlx hwn { objs := [some (AObj.cells 0 0 24 1 false [ch]), some (AObj.cells 0 0 79 1 false [ch])], lock := 0 } (Nat.zero_le _) 21 (some 20)
  have hgt := get_tab w (wordsT 0 t) []
  rw [show getT w [] = [] from rfl, List.nil_append] at hgt
  have hlt := look_tab hT hg hr w
  rw [hgt] at hlt
  unfold strK at hlt
  generalize placesL w (wordsT 0 t) = ps at hlt ⊢
  rcases hlt with ⟨rfl, -, h1⟩ | ⟨h0, -, b, v, hk, hrow, h1⟩
  · simp only [hc, h1, bindO_some]
    rfl
  · simp only [hc, h1, bindO_some]
    have hb : b < Y.size := get_ltS (row_of_get hrow)
    have hrow2 : (Heap.mk (settleH 2 Y).objs 0).row b v = some (0, 32, 3, true, clP ps) := by
      have hH : Has [(b, .cells v 0 32 3 true (clP ps))] Y := fun p hp => by obtain rfl := List.mem_singleton.1 hp; exact row_of_get hrow
      exact get_row ((hH.settle 2) (b, .cells v 0 32 3 true (clP ps)) (List.mem_cons_self ..))
    show freezeV (Heap.mk (settleH 2 Y).objs 0) 1000000 (.tup [.sl b v 0 ps.length none, .v (.int .i64 0)]) = _
    exact freeze_two fun k => freeze_plsK _ b v ps h0 rfl hrow2 k
end Go.Ev
namespace Go.Ev
open Go.Proofs Go.Sort
set_option maxRecDepth 100000
set_option linter.unusedSimpArgs false
attribute [local irreducible] Wp WpS
instance lawBA : LawfulBEq ByteArray where
  eq_of_beq {a b} h := by
    obtain ⟨a⟩ := a
    obtain ⟨b⟩ := b
    have h' : (a == b) = true := h
    rw [eq_of_beq h']
  rfl {a} := by
    obtain ⟨a⟩ := a
    show (a == a) = true
    exact beq_self_eq_true a
/-! ### rows of words -/
def clW (ws : List ByteArray) : List AV := ws.map strK
theorem clW_len (ws : List ByteArray) : (clW ws).length = ws.length := by unfold clW; rw [List.length_map]
theorem clW_flat (ws : List ByteArray) : (clW ws).all AV.flat = true := List.all_eq_true.2 fun x hx => by
  obtain ⟨y, -, rfl⟩ := List.mem_map.1 hx
  rfl
theorem clW_bound (ws : List ByteArray) : boundL (clW ws) = 0 := Nat.le_zero.1 (boundL_le.2 fun x hx => by
  obtain ⟨y, -, rfl⟩ := List.mem_map.1 hx
  exact Nat.le_refl _)
def wdsV (ws : List ByteArray) : AV := match ws with | [] => .v (.slice none 0 0) | _ => .vs 1 (clW ws) none
theorem wdsV_sl (ws : List ByteArray) : SlOf 1 (strs ws) (wdsV ws) := by
  cases ws with
  | nil => exact Or.inl ⟨rfl, rfl⟩
  | cons p r => exact Or.inr ⟨none, rfl⟩
theorem app41 (H : Heap) (slot : Nat) (s x : AV) : appendA Tryz.prog H slot [41, 41] [s, x] = appG 9 1 16 H slot s (cellsFrom H 1 x) := app_eq2 (by kernel_rfl) (by kernel_rfl) (by kernel_rfl) (by kernel_rfl) (by decide) (by decide) H slot s x
theorem eqNil41 (t : Tmp) (b v o l : Nat) (c : Option Nat) : binA Tryz.prog .eql 41 (.tmp t) (.const (.slice none 0 0)) (.sl b v o l c) (.v (.slice none 0 0)) = some (.v (.bool false)) := by
  unfold binA nilEq
  rw [und_41]; rfl
theorem eqNil41n (t : Tmp) : binA Tryz.prog .eql 41 (.tmp t) (.const (.slice none 0 0)) (.v (.slice none 0 0)) (.v (.slice none 0 0)) = some (.v (.bool true)) := by
  unfold binA nilEq
  rw [und_41]; rfl
/-! ### each word once -/
abbrev St20 := List ByteArray × List ByteArray
def onceW (s : St20) (w : ByteArray) : St20 := if w ∈ s.1 then (s.1.erase w, s.2 ++ [w]) else s
def wI (x : List AV) : ByteArray := match x with | [_, .v (.string w)] => w | _ => ByteArray.empty
def stp20 (s : St20) (x : List AV) : AExit × St20 := (.normal, onceW s (wI x))
def ok20 (s : St20) (x : List AV) : Prop := (∃ y : Plc × ByteArray, x = itW y) ∧ s.2.length < 2 ^ 31
def onceAll (l : List (Plc × ByteArray)) (s : St20) : St20 := l.foldl (fun s y => onceW s y.2) s
theorem onceW_len (s : St20) (w : ByteArray) : (onceW s w).2.length ≤ s.2.length + 1 := by
  unfold onceW
  split
  · simp
  · simp
theorem run20 : ∀ (l : List (Plc × ByteArray)) (s : St20), s.2.length + l.length < 2 ^ 31 → okRun (fun s x => (isGo (stp20 s x).1, (stp20 s x).2)) ok20 (l.map itW) s ∧ foldE stp20 (l.map itW) s = (.normal, onceAll l s)
  | [], s, _ => ⟨trivial, rfl⟩
  | y :: r, s, h => by
    rw [List.length_cons] at h
    have h1 := onceW_len s y.2
    have ih := run20 r (onceW s y.2) (by omega)
    rw [List.map_cons]
    refine ⟨⟨⟨⟨y, rfl⟩, by omega⟩, fun _ => ih.1⟩, ?_⟩
    rw [foldE_go rfl]
    exact ih.2
/-- of all words each that is asked for comes once -/
theorem once_all : ∀ (l : List (Plc × ByteArray)) (s : St20), (s.2 ++ s.1).Nodup → (onceAll l s).2.Nodup ∧ ∀ w, w ∈ (onceAll l s).2 ↔ w ∈ s.2 ∨ (w ∈ s.1 ∧ w ∈ l.map (·.2))
  | [], s, h => ⟨(List.nodup_append.1 h).1, fun w => by simp [onceAll]⟩
  | y :: r, s, h => by
    have hn : ((onceW s y.2).2 ++ (onceW s y.2).1).Nodup := by
      unfold onceW
      split
      · rename_i hin
        obtain ⟨h1, h2, h3⟩ := List.nodup_append.1 h
        refine List.nodup_append.2 ⟨?_, h2.erase _, ?_⟩
        · refine List.nodup_append.2 ⟨h1, by simp, fun a ha b hb => ?_⟩
          obtain rfl := List.mem_singleton.1 hb
          exact h3 a ha _ hin
        · intro a ha b hb
          rcases List.mem_append.1 ha with ha | ha
          · exact h3 a ha b (List.mem_of_mem_erase hb)
          · obtain rfl := List.mem_singleton.1 ha
            intro e
            exact (h2.mem_erase_iff.1 hb).1 e.symm
      · exact h
    obtain ⟨i1, i2⟩ := once_all r (onceW s y.2) hn
    refine ⟨i1, fun w => ?_⟩
    show w ∈ (onceAll r (onceW s y.2)).2 ↔ _
    rw [i2]
    have h2 := (List.nodup_append.1 h).2.1
    unfold onceW
    by_cases hin : y.2 ∈ s.1
    · rw [if_pos hin]
      simp only [List.mem_append, List.map_cons, List.mem_cons, List.not_mem_nil, or_false, h2.mem_erase_iff]
      constructor
      · rintro ((h | rfl) | ⟨⟨h3, h4⟩, h5⟩)
        · exact Or.inl h
        · exact Or.inr ⟨hin, Or.inl rfl⟩
        · exact Or.inr ⟨h4, Or.inr h5⟩
      · rintro (h | ⟨h3, h4 | h4⟩)
        · exact Or.inl (Or.inl h)
        · exact Or.inl (Or.inr h4)
        · by_cases e : w = y.2
          · exact Or.inl (Or.inr e)
          · exact Or.inr ⟨⟨e, h3⟩, h4⟩
    · rw [if_neg hin]
      simp only [List.map_cons, List.mem_cons]
      constructor
      · rintro (h | ⟨h3, h4⟩)
        · exact Or.inl h
        · exact Or.inr ⟨h3, Or.inr h4⟩
      · rintro (h | ⟨h3, h4 | h4⟩)
        · exact Or.inl h
        · exact absurd (h4 ▸ h3) hin
        · exact Or.inr ⟨h3, h4⟩
/-! the keys of the map -/
theorem keys_add (w : ByteArray) (p : P3) : ∀ s : TbW, (addT w p s).map (·.1) = if w ∈ s.map (·.1) then s.map (·.1) else s.map (·.1) ++ [w]
  | [] => rfl
  | x :: r => by
    have ih := keys_add w p r
    unfold addT
    by_cases h : x.1 = w
    · rw [if_pos h, if_pos (by simp [h])]; rfl
    · rw [if_neg h, List.map_cons, ih]
      by_cases h2 : w ∈ r.map (·.1)
      · rw [if_pos h2, if_pos (by rw [List.map_cons]; exact List.mem_cons_of_mem _ h2)]; rfl
      · rw [if_neg h2, if_neg (by rw [List.map_cons, List.mem_cons]; rintro (e | e); exact h e.symm; exact h2 e)]; rfl
theorem keys_tab : ∀ (l : List (Plc × ByteArray)) (s : TbW), (s.map (·.1)).Nodup → ((tabW l s).map (·.1)).Nodup ∧ ∀ w, w ∈ (tabW l s).map (·.1) ↔ w ∈ s.map (·.1) ∨ w ∈ l.map (·.2)
  | [], s, h => ⟨h, fun w => by simp [tabW]⟩
  | y :: r, s, h => by
    have hk := keys_add y.2 (plI y.1) s
    have hn : ((addT y.2 (plI y.1) s).map (·.1)).Nodup := by
      rw [hk]
      split
      · exact h
      · rename_i hn
        refine List.nodup_append.2 ⟨h, by simp, fun a ha b hb => ?_⟩
        obtain rfl := List.mem_singleton.1 hb
        exact fun e => hn (e ▸ ha)
    obtain ⟨i1, i2⟩ := keys_tab r (addT y.2 (plI y.1) s) hn
    refine ⟨i1, fun w => ?_⟩
    show w ∈ (tabW r (addT y.2 (plI y.1) s)).map (·.1) ↔ _
    rw [i2, hk]
    simp only [List.map_cons, List.mem_cons]
    split
    · rename_i hin
      constructor
      · rintro (h | h)
        · exact Or.inl h
        · exact Or.inr (Or.inr h)
      · rintro (h | h | h)
        · exact Or.inl h
        · exact Or.inl (h ▸ hin)
        · exact Or.inr h
    · rw [List.mem_append, List.mem_singleton]
      constructor
      · rintro ((h | h) | h)
        · exact Or.inl h
        · exact Or.inr (Or.inl h)
        · exact Or.inr (Or.inr h)
      · rintro (h | h | h)
        · exact Or.inl (Or.inl h)
        · exact Or.inl (Or.inr h)
        · exact Or.inr h
/-! what is taken out of a map -/
theorem del_in {G : Heap} {mb mx c : Nat} {es : List (AV × AV × Nat)} (hg : G.get mb = some (.map mx es c)) (hl : G.lock ≤ mb) {w : ByteArray} {i : Nat} {v : AV} (hf : findKeyA Tryz.prog 9 (strK w) es 0 = some (some (i, v))) :
    deleteA Tryz.prog G [90, 9] [.mp mb, strK w] = some (G.put mb (.map mx (es.eraseIdx i) c)) := by
  unfold deleteA
  simp only [mapOk90, hg, hl, if_true, hf]
theorem split_keys (w : ByteArray) : ∀ (ks : List ByteArray) (es : List (AV × AV × Nat)), es.map (·.1) = ks.map strK → w ∈ ks → ∃ k1 k2 es1 v c es2, ks = k1 ++ w :: k2 ∧ w ∉ k1 ∧ es = es1 ++ (strK w, v, c) :: es2 ∧ es1.map (·.1) = k1.map strK ∧ es2.map (·.1) = k2.map strK
  | [], _, _, h => by cases h
  | k :: ks, [], h, _ => by cases h
  | k :: ks, (a, v, c) :: es, h, hin => by
    simp only [List.map_cons, List.cons.injEq] at h
    by_cases hk : k = w
    · subst hk
      exact ⟨[], ks, [], v, c, es, rfl, by simp, by rw [h.1]; rfl, rfl, h.2⟩
    · obtain ⟨k1, k2, es1, v', c', es2, rfl, h2, rfl, h3, h4⟩ := split_keys w ks es h.2 ((List.mem_cons.1 hin).resolve_left fun e => hk e.symm)
      exact ⟨k :: k1, k2, (a, v, c) :: es1, v', c', es2, rfl, by simp only [List.mem_cons, not_or]; exact ⟨fun e => hk e.symm, h2⟩, rfl, by rw [List.map_cons, List.map_cons, h3, h.1], h4⟩
end Go.Ev
namespace Go.Ev
open Go.Proofs Go.Sort
set_option maxRecDepth 100000
set_option linter.unusedSimpArgs false
attribute [local irreducible] Wp WpS
/-! ### sorting words -/
def srtW (ws : List ByteArray) : List ByteArray := sortL ltW ws
theorem srtW_len (ws : List ByteArray) : (srtW ws).length = ws.length := (sortL_perm _ ws).length_eq
theorem srtW_mem {l : List ByteArray} {w : ByteArray} : w ∈ srtW l ↔ w ∈ l := (sortL_perm _ l).mem_iff
theorem clW_flatE (ws : List ByteArray) : (flatE encW ws).map AV.v = clW ws := by
  unfold flatE clW encW strK
  induction ws with
  | nil => rfl
  | cons a r ih => rw [List.flatMap_cons, List.map_append, ih]; rfl
theorem takeW (ws : List ByteArray) : takeE 1 decW ws.length (clW ws) = some ws := by
  have := takeE_flat codedW [] ws
  rw [List.append_nil, clW_flatE] at this
  exact this
theorem callW66_nil (X : Heap) (me : FuncId) (d : Option Tmp) : callA (Cx eA) (lim (Cx eA)) me 66 d [.v (.slice none 0 0)] X = some (.v (.slice none 0 0), X) := by
  refine callA_rawX (ext_66 quietA) (by simp [Cx, pureF, impF, impC]) ?_
  rw [fn_step (fn_66 eA) (show Tryz.f66.body = some _ from rfl)]
  generalize hKK : rawX X _ _ = KK
  simp -implicitDefEqProofs only [Tryz.f66, go_sem, ↓reduceIte, Int.reduceEq, Int.reduceLT, Int.reduceLE, List.reduceReplicate, intA, setT_nil, setT_cons, ↓boolP_bool, ↓iteB_true, ↓iteB_false, eqNil41n]
  rw [← hKK]
  exact rawX_same _ _ rfl
set_option maxHeartbeats 1000000 in
theorem callW66 {X : Heap} {N : Nat} (hN : X.size = N) (ws : List ByteArray) (h0 : ws ≠ []) (hn : ws.length < 2 ^ 33) (b v : Nat) (hb : b < N) (hr : X.row b v = some (0, 9, 1, true, clW ws)) (me : FuncId) (d : Option Tmp) :
    callA (Cx eA) (lim (Cx eA)) me 66 d [.sl b v 0 ws.length none] X = some (.sl N 0 0 ws.length none, X.plus [some (.cells 0 0 9 1 true (clW ws))]) := by
  refine callA_rawX (ext_66 quietA) (by simp [Cx, pureF, impF, impC]) ?_
  rw [fn_step (fn_66 eA) (show Tryz.f66.body = some _ from rfl)]
  have hv0 : ws.length ≠ 0 := fun h => h0 (List.length_eq_zero_iff.1 h)
  have hf : fitsA 16 ws.length = true := by unfold fitsA; exact decide_eq_true (by omega)
  have hrow : ∀ E, (X.plus E).row b v = some (0, 9, 1, true, clW ws) := fun E => by rw [rowLo (by omega), hr]
  have hl3 := clW_len ws
  generalize hKK : rawX X _ _ = KK
  rw [← plus_nil X]
  simp -implicitDefEqProofs only [Tryz.f66, go_sem, ↓reduceIte, Int.reduceEq, Int.reduceLT, Int.reduceLE, List.reduceReplicate, intA, setT_nil, setT_cons, ↓boolP_bool, ↓iteB_true, ↓iteB_false, eqNil41, sizeP hN, putP0 hN, putP hN, settleP0 hN, settleP hN, List.length_nil, Nat.add_zero, app41, hrow, hl3, List.take_of_length_le (Nat.le_of_eq hl3), clW_flat, clW_bound, hv0, hf, appTo_vs0]
  rw [← hKK]
  exact rawX_far hN _ _ rfl (Nat.lt_succ_self _)
theorem pureA_67 (me : FuncId) (d : Option Tmp) : (Cx eA).pure me 67 d = false := by simp [Cx, pureF, impF, impC]
theorem callW67 {X : Heap} {N : Nat} (hN : X.size = N) (hlk : X.lock ≤ N) (ws : List ByteArray) (h0 : ws ≠ []) (hn : ws.length < 2 ^ 33) (me : FuncId) (d : Option Tmp) :
    callA (Cx eA) (lim (Cx eA)) me 67 d [.sl N 0 0 ws.length none, .fn (.func 48) [] []] (X.plus [some (.cells 0 0 9 1 true (clW ws))]) = some (.tup [], X.plus [some (.cells 0 0 9 1 true (clW (srtW ws)))]) := by
  have hv0 : ws.length ≠ 0 := fun h => h0 (List.length_eq_zero_iff.1 h)
  have hrow := rowP0 hN [some (.cells 0 0 9 1 true (clW ws))] 0
  have hst := storeP0 hN hlk [some (.cells 0 0 9 1 true (clW ws))] 0 0 (clW (srtW ws))
  have h3 : (clW (srtW ws)).length = (clW ws).length := by rw [clW_len, clW_len, srtW_len]
  have hanti : antiB (ltF cmpW) eqvW ws = true := by rw [ltF_W]; exact antiW ws
  have hg : sortSt67 [.sl N 0 0 ws.length none, .fn (.func 48) [] []] (X.plus [some (.cells 0 0 9 1 true (clW ws))]) = some (.tup [], X.plus [some (.cells 0 0 9 1 true (clW (srtW ws)))]) := by
    unfold sortSt67 sortH
    simp only [if_true, hv0, if_false, hrow, List.getElem?_cons_zero, Option.join_some, objRow_cells]
    rw [if_pos (by omega), List.drop_zero, takeW]
    simp only [hanti, if_true]
    rw [ltF_W, show (flatE encW (sortL ltW ws)).map AV.v = clW (srtW ws) from clW_flatE _, hst]
    simp only [List.getElem?_cons_zero, Option.join_some, stP_cells]
    rw [if_pos (show True ∧ 0 + (clW (srtW ws)).length ≤ (clW ws).length ∧ (clW (srtW ws)).all AV.flat = true from ⟨trivial, by omega, clW_flat _⟩)]
    simp only [Option.map_some, sop_zero, clW_bound]
    rw [show splice 0 (clW (srtW ws)) (clW ws) = clW (srtW ws) from by unfold splice; rw [List.take_zero, List.nil_append, Nat.zero_add, h3, List.drop_length, List.append_nil]]
    rfl
  have hk : callKind (Cx eA) me 67 d [.sl N 0 0 ws.length none, .fn (.func 48) [] []] = 0 := by unfold callKind; rw [pureA_67]; rfl
  have hl : lim (Cx eA) (.call 67 [.sl N 0 0 ws.length none, .fn (.func 48) [] []] (X.plus [some (.cells 0 0 9 1 true (clW ws))])) = some (.ret (.tup []) (X.plus [some (.cells 0 0 9 1 true (clW (srtW ws)))])) := by
    rw [lim_eq]
    have hla : (Cx eA).lay 67 = some sortSt67 := rfl
    simp only [taskA, hla, hg, Option.map_some]
  unfold callA
  rw [ext_67 quietA]
  unfold callB
  simp only [hk, hl]
  rw [show (X.plus [some (.cells 0 0 9 1 true (clW ws))]).size = (X.plus [some (.cells 0 0 9 1 true (clW (srtW ws)))]).size by rw [sizeP hN, sizeP hN]; rfl, trim_size]
theorem callW67_nil (X : Heap) (g : FuncId) (hg : g = 48) (me : FuncId) (d : Option Tmp) : callA (Cx eA) (lim (Cx eA)) me 67 d [.v (.slice none 0 0), .fn (.func g) [] []] X = some (.tup [], X) := by
  subst hg
  have hk : callKind (Cx eA) me 67 d [.v (.slice none 0 0), .fn (.func 48) [] []] = 0 := by unfold callKind; rw [pureA_67]; rfl
  have hl : lim (Cx eA) (.call 67 [.v (.slice none 0 0), .fn (.func 48) [] []] X) = some (.ret (.tup []) X) := by
    rw [lim_eq]
    have hla : (Cx eA).lay 67 = some sortSt67 := rfl
    simp only [taskA, hla]
    rfl
  unfold callA
  rw [ext_67 quietA]
  unfold callB
  simp only [hk, hl]
  rw [trim_size]
/-- in order -/
theorem callW47_nil (X : Heap) (me : FuncId) (d : Option Tmp) : callA (Cx eA) (lim (Cx eA)) me 47 d [.v (.slice none 0 0), .fn (.func 48) [] []] X = some (.v (.slice none 0 0), X) := by
  refine callA_rawX (ext_47 quietA) (by simp [Cx, pureF, impF, impC]) ?_
  rw [fn_step (fn_47 eA) (show Tryz.f47.body = some _ from rfl)]
  generalize hKK : rawX X _ _ = KK
  simp -implicitDefEqProofs only [Tryz.f47, go_sem, ↓reduceIte, Int.reduceEq, Int.reduceLT, Int.reduceLE, List.reduceReplicate, intA, setT_nil, setT_cons, ↓boolP_bool, ↓iteB_true, ↓iteB_false, callW66_nil, callW67_nil]
  rw [← hKK]
  exact rawX_same _ _ rfl
theorem callW47 {X : Heap} {N : Nat} (hN : X.size = N) (hlk : X.lock ≤ N) (ws : List ByteArray) (h0 : ws ≠ []) (hn : ws.length < 2 ^ 33) (b v : Nat) (hb : b < N) (hr : X.row b v = some (0, 9, 1, true, clW ws)) (me : FuncId) (d : Option Tmp) :
    callA (Cx eA) (lim (Cx eA)) me 47 d [.sl b v 0 ws.length none, .fn (.func 48) [] []] X = some (.sl N 0 0 ws.length none, X.plus [some (.cells 0 0 9 1 true (clW (srtW ws)))]) := by
  refine callA_rawX (ext_47 quietA) (by simp [Cx, pureF, impF, impC]) ?_
  rw [fn_step (fn_47 eA) (show Tryz.f47.body = some _ from rfl)]
  have h66 := callW66 hN ws h0 hn b v hb hr
  have h67 := callW67 hN hlk ws h0 hn
  have hb1 : ltB b N = true := by unfold ltB; simp; omega
  rw [← plus_nil X] at h66 ⊢
  generalize hKK : rawX (X.plus []) _ _ = KK
  simp -implicitDefEqProofs only [Tryz.f47, go_sem, ↓reduceIte, Int.reduceEq, Int.reduceLT, Int.reduceLE, List.reduceReplicate, intA, setT_nil, setT_cons, ↓boolP_bool, ↓iteB_true, ↓iteB_false, h66, h67, sizeP hN, putP0 hN, putP hN, settleP0 hN, settleP hN, List.length_nil, Nat.add_zero]
  rw [← hKK, plus_nil]
  exact rawX_far hN _ _ rfl (Nat.lt_succ_self _)
end Go.Ev
namespace Go.Ev
open Go.Proofs Go.Sort
set_option maxRecDepth 100000
set_option linter.unusedSimpArgs false
attribute [local irreducible] Wp WpS
/-! ### Vocabulary -/
def vocL (t : Txt) : List ByteArray := srtW (onceAll (wordsT 0 t) ((tabW (wordsT 0 t) []).map (·.1), [])).2
theorem voc_mem {t : Txt} {w : ByteArray} : w ∈ vocL t ↔ w ∈ (wordsT 0 t).map (·.2) := by
  unfold vocL
  obtain ⟨k1, k2⟩ := keys_tab (wordsT 0 t) [] (by simp)
  obtain ⟨h1, h2⟩ := once_all (wordsT 0 t) ((tabW (wordsT 0 t) []).map (·.1), []) (by simpa using k1)
  rw [srtW_mem, h2]
  simp only [List.not_mem_nil, false_or, k2, List.map_nil]
  exact ⟨fun h => h.2, fun h => ⟨h, h⟩⟩
theorem voc_nodup (t : Txt) : (vocL t).Nodup := by
  unfold vocL
  obtain ⟨k1, k2⟩ := keys_tab (wordsT 0 t) [] (by simp)
  obtain ⟨h1, h2⟩ := once_all (wordsT 0 t) ((tabW (wordsT 0 t) []).map (·.1), []) (by simpa using k1)
  exact (sortL_perm _ _).nodup_iff.2 h1
/-! what memory holds while the words are gone through -/
def L20 (D : Nat) (l : List ByteArray) (lv : AV) (m3 : Nat) (rows : Fm) : Prop := (l = [] ∧ lv = .v (.slice none 0 0) ∧ rows = []) ∨ ∃ b v, l ≠ [] ∧ lv = .sl b v 0 l.length none ∧ D ≤ b ∧ b < m3 ∧ rows = [(b, .cells v 0 9 1 true (clW l))]
def base20 (B : Nat) (mx : Nat) (es : List (AV × AV × Nat)) (c m2 : Nat) (m3 : Nat) (lv : AV) : Fm := [(3, .map mx es c), (B, .cells 0 m2 90 1 false [.mp 3]), (B + 1, .cells 0 m3 41 1 false [lv])]
def R20 (B m2 : Nat) (s : St20) (m : Fm) : Prop := ∃ es mx c lv m3 rows, es.map (·.1) = s.1.map strK ∧ L20 (B + 4) s.2 lv m3 rows ∧ m = base20 B mx es c m2 m3 lv ++ rows
theorem L20.lo {D : Nat} {l : List ByteArray} {lv : AV} {m3 : Nat} {rows : Fm} (h : L20 D l lv m3 rows) {p : Nat × AObj} (hp : p ∈ rows) : D ≤ p.1 ∧ p.1 < m3 := by
  rcases h with ⟨-, -, rfl⟩ | ⟨b, v, -, -, h5, hb, rfl⟩
  · exact nomatch hp
  · rw [List.mem_singleton.1 hp]; exact ⟨h5, hb⟩
theorem base20_lt {B mx c m2 m3 : Nat} {es : List (AV × AV × Nat)} {lv : AV} (hB : 3 < B) {p : Nat × AObj} (h : p ∈ base20 B mx es c m2 m3 lv) : p.1 < B + 2 := by
  unfold base20 at h
  simp only [List.mem_cons, List.not_mem_nil, or_false] at h
  rcases h with rfl | rfl | rfl <;> (simp only; omega)
theorem R20_anch {B m2 : Nat} (hB : 3 < B) (s : St20) (m : Fm) (h : R20 B m2 s m) : Anch (B + 2) m := by
  obtain ⟨es, mx, c, lv, m3, rows, -, hl, rfl⟩ := h
  rintro n hn ⟨p, hp, hnp⟩
  refine ⟨(B + 1, .cells 0 m3 41 1 false [lv]), List.mem_append_left _ (by unfold base20; simp), by show B + 1 < n; omega, ?_⟩
  show n < m3
  rcases List.mem_append.1 hp with hp | hp
  · have := base20_lt hB hp; omega
  · have := hl.lo hp; omega
theorem R20_free {B m2 : Nat} (hB : 3 < B) (s : St20) (m : Fm) (h : R20 B m2 s m) : ¬ keyIn (B + 2) m ∧ ¬ keyIn (B + 3) m := by
  obtain ⟨es, mx, c, lv, m3, rows, -, hl, rfl⟩ := h
  have key : ∀ p ∈ base20 B mx es c m2 m3 lv ++ rows, p.1 ≠ B + 2 ∧ p.1 ≠ B + 3 := by
    intro p hp
    rcases List.mem_append.1 hp with hp | hp
    · have := base20_lt hB hp; omega
    · have := hl.lo hp; omega
  exact ⟨fun ⟨p, hp, he⟩ => (key p hp).1 he, fun ⟨p, hp, he⟩ => (key p hp).2 he⟩
theorem fin20 {B M m2 mx c m3 mx' c' m3' : Nat} {s' : St20} {es es' : List (AV × AV × Nat)} {lv lv' : AV} {rows rows' : Fm} {H' W : Heap} {L' : ALoop} (_hB : 3 < B) (hM : H'.size = M) (_hBM : B + 4 ≤ M) (hl : W.lock = H'.lock) (hs : M ≤ W.size) (h3 : W.get 3 = some (.map mx' es' c')) (h90 : W.get B = some (.cells 0 m2 90 1 false [.mp 3])) (h41 : W.get (B + 1) = some (.cells 0 m3' 41 1 false [lv'])) (h4 : W.get (B + 2 + 1) = some (.loop L'))
    (hr : Has rows' W) (hk : es'.map (·.1) = s'.1.map strK) (hL : L20 (B + 4) s'.2 lv' m3' rows') (hb : ∀ p ∈ rows', M ≤ p.1 ∨ keyIn p.1 rows) (ho : ∀ b, b < M → b ≠ 3 → b ≠ B + 1 → b ≠ B + 2 + 1 → ¬ keyIn b rows' → W.get b = H'.get b) :
    ∃ m', R20 B m2 s' m' ∧ Has m' W ∧ loopObj W (B + 2 + 1) = some L' ∧ Moves ((B + 2 + 1, .loop L') :: (base20 B mx es c m2 m3 lv ++ rows)) H' ((B + 2 + 1, .loop L') :: m') W := by
  have hm : ∀ q ∈ base20 B mx es c m2 m3 lv, keyIn q.1 ((B + 2 + 1, AObj.loop L') :: (base20 B mx es c m2 m3 lv ++ rows)) := fun q hq => ⟨q, List.mem_cons_of_mem _ (List.mem_append_left _ hq), rfl⟩
  have hm3 := hm (3, .map mx es c) (by unfold base20; simp)
  have hmB := hm (B, .cells 0 m2 90 1 false [.mp 3]) (by unfold base20; simp)
  have hmB1 := hm (B + 1, .cells 0 m3 41 1 false [lv]) (by unfold base20; simp)
  refine ⟨base20 B mx' es' c' m2 m3' lv' ++ rows', ⟨es', mx', c', lv', m3', rows', hk, hL, rfl⟩, fun p hp => ?_, get_loopObj h4, hl, by omega, fun b hbb hnb => ?_, fun p hp => ?_⟩
  · rcases List.mem_append.1 hp with hp | hp
    · unfold base20 at hp
      simp only [List.mem_cons, List.not_mem_nil, or_false] at hp
      rcases hp with rfl | rfl | rfl
      · exact h3
      · exact h90
      · exact h41
    · exact hr p hp
  · refine ho b (by omega) (fun e => hnb (by rw [e]; exact hm3)) (fun e => hnb (by rw [e]; exact hmB1)) (fun e => hnb ⟨_, List.mem_cons_self .., e.symm⟩) fun ⟨p, hp, he⟩ => ?_
    rcases hb p hp with h | ⟨q, hq, he2⟩
    · omega
    · exact hnb ⟨q, List.mem_cons_of_mem _ (List.mem_append_right _ hq), by omega⟩
  · rcases List.mem_cons.1 hp with rfl | hp
    · exact Or.inl ⟨_, List.mem_cons_self .., rfl⟩
    · rcases List.mem_append.1 hp with hp | hp
      · unfold base20 at hp
        simp only [List.mem_cons, List.not_mem_nil, or_false] at hp
        rcases hp with rfl | rfl | rfl
        · exact Or.inl hm3
        · exact Or.inl hmB
        · exact Or.inl hmB1
      · rcases hb p hp with h | ⟨q, hq, he⟩
        · exact Or.inr (by omega)
        · exact Or.inl ⟨q, List.mem_cons_of_mem _ (List.mem_append_right _ hq), he⟩
theorem store_low {X : Heap} {b m e : Nat} {g : Bool} {y : AV} (h : X.get b = some (.cells 0 m e 1 g [y])) (hl : X.lock ≤ b) (x : AV) (hx : x.flat = true) (F : List (Option AObj)) : storeCells (X.plus F) b 0 0 [x] = some ((X.put b (.cells 0 (Nat.max m (boundL [x])) e 1 g [x])).plus F) := by
  have hb := get_ltS h
  have hr := row_of (v := 0) ((plus_get F hb).trans h)
  unfold storeCells
  rw [hr]
  simp only [if_true]
  rw [if_pos ⟨by show X.lock ≤ b; exact hl, by simp, by simp [hx]⟩, putLo hb]
  rfl
theorem freeze_wdsK {H : Heap} {b v : Nat} (ws : List ByteArray) (h0 : ws ≠ []) (hk : H.lock = 0) (hr : H.row b v = some (0, 9, 1, true, clW ws)) (k : Nat) : freezeV H (k + 1) (.sl b v 0 ws.length none) = some (wdsV ws) := by
  have : wdsV ws = .vs 1 (clW ws) none := by cases ws with | nil => exact absurd rfl h0 | cons r f => rfl
  have hl := clW_len ws
  rw [this]
  unfold freezeV
  simp only [hr, hk]
  rw [if_neg (by omega), if_pos ⟨by omega, by omega⟩, if_pos trivial, List.drop_zero, List.take_of_length_le (by omega), ← hl, chunk_one]
theorem settle_keep {n b : Nat} {H : Heap} {o : AObj} (h : H.get b = some o) (hn : n ≤ b) : settleH n H = H := by
  unfold settleH
  rw [if_neg]
  intro ha
  have h1 := get_objs h
  have h2 : (H.objs.drop n)[b - n]? = some (some o) := by rw [List.getElem?_drop, show n + (b - n) = b by omega]; exact h1
  have h3 := List.all_eq_true.1 ha _ (List.mem_of_getElem? h2)
  cases h3
set_option maxHeartbeats 8000000 in
theorem ans20 {t : Txt} (ht : Fits t) (htx : textB t = true) {ch : AV} {xs : List AV} (hch : SlOf 2 xs ch) (hall : All2 ChapA t xs) :
    Ans (Cx eA) 20 [.agg [ch]] (.tup [wdsV (vocL t), .v (.int .i64 0)]) := by
  have hs := small_of htx
  have h40 := call40 quietA t ht ch ⟨xs, hch, hall⟩
  rw [htx, if_pos rfl] at h40
  have hlx : xs.length < 2 ^ 63 := by rw [← hall.1]; exact ht.chs
  have hwn : (wordsT 0 t).length < 2 ^ 31 := by have := wordsT_small hs; omega
  have hok := okCh2_of ht hall
  unfold Ans
  rw [fn_step (fn_20 eA) (show Tryz.f20.body = some _ from rfl)]
  simp -implicitDefEqProofs only [Tryz.f20, go_sem, ↓reduceIte, Int.reduceEq, Int.reduceLT, Int.reduceLE, List.reduceReplicate, intA, setT_nil, setT_cons, ↓boolP_bool, ↓iteB_true, ↓iteB_false, hch.cells, hch.flat, hch.bound, h40]
  obtain ⟨Y, hc, -, hYl, hYs, hYlo, es, mx, c, rows, hT, hlo, hnd, hg, hr⟩ := call46 quietA hch hall hok hlx hwn { objs := [some (AObj.cells 0 0 24 1 false [ch]), some (AObj.cells 0 0 79 1 false [ch])], lock := 0 } (Nat.zero_le _) 20 (some 21)
  change callA _ _ 20 46 _ _ _ = some (.mp 3, Y) at hc
  change Y.get 3 = _ at hg
  change Y.lock = 0 at hYl
  change 5 ≤ Y.size at hYs
  have hkeys : es.map (·.1) = ((tabW (wordsT 0 t) []).map (·.1)).map strK := by rw [hT.keys, List.map_map]; rfl
  obtain ⟨B, hB⟩ : ∃ B, Y.size = B := ⟨_, rfl⟩
  have hlkB : Y.lock ≤ B := by omega
  have hcY : callA (Cx eA) (lim (Cx eA)) 20 46 (some 21) [.agg [ch]] { objs := [some (AObj.cells 0 0 24 1 false [ch]), some (AObj.cells 0 0 79 1 false [ch])], lock := 0 } = some (.mp 3, Y.plus []) := by rw [plus_nil]; exact hc
  have hs2 : ∀ E, settleH 2 (Y.plus E) = Y.plus E := fun E => settle_keep ((plus_get E (by omega)).trans hg) (by omega)
  have hr1 : ∀ E, (Y.plus E).row 1 0 = some (0, 79, 1, false, [ch]) := fun E => by
    rw [rowLo (by omega)]
    exact get_row (hYlo 1 (Nat.lt_succ_self 1))
  have hnz : ((3 + 1 ≤ 0) : Prop) = False := by simp
  simp -implicitDefEqProofs only [go_sem, ↓reduceIte, Int.reduceEq, Int.reduceLT, Int.reduceLE, List.reduceReplicate, intA, setT_nil, setT_cons, ↓boolP_bool, ↓iteB_true, ↓iteB_false, hcY, hs2, hr1, hch.cells, hch.flat, hch.bound, call41 quietA ch xs hch, hnz, Nat.zero_le, sizeP hB, putP0 hB, putP hB, settleP0 hB, settleP hB, rowP0 hB, rowP hB, storeP0 hB hlkB, storeP hB hlkB, List.length_nil, List.length_cons, Nat.add_zero, Nat.zero_add]
  obtain ⟨G, hG⟩ : ∃ G, Y.plus [some (AObj.cells 0 4 90 1 false [AV.mp 3]), some (AObj.cells 0 0 41 1 false [AV.v (Value.slice none 0 0)])] = G := ⟨_, rfl⟩
  have hGs : G.size = B + 2 := by rw [← hG, plus_size, hB]; rfl
  have hGB : G.get B = some (.cells 0 4 90 1 false [.mp 3]) := by rw [← hG]; exact plus_mid_get hB [] _ _
  have hGB1 : G.get (B + 1) = some (.cells 0 0 41 1 false [.v (.slice none 0 0)]) := by rw [← hG]; exact plus_mid_get hB [some (AObj.cells 0 4 90 1 false [AV.mp 3])] _ _
  have hG3 : G.get 3 = some (.map mx es c) := by rw [← hG]; exact (plus_get _ (by omega)).trans hg
  have hGl : G.lock = 0 := by rw [← hG]; exact hYl
  rw [hG]
  have hB3 : 3 < B := by omega
  have hy : Yields2 (Cx eA) 63 [.ro (.agg [ch]) 0] ((wordsT 0 t).map itW) := by rw [← allIts_eq hall]; exact yields2_63 quietA ch xs hch hok hlx
  have hrun := run20 (wordsT 0 t) ((tabW (wordsT 0 t) []).map (·.1), []) (by show 0 + _ < _; omega)
  refine wp_range2 hy rfl (R20 B 4) stp20 (fun _ => True) ok20 (n0 := B + 2) (k := 0) (by rw [hGs]; exact Nat.le_refl _) (by omega) (fun x hx => ?_) (R20_anch hB3) (fun s m h => by rw [hGs]; exact R20_free hB3 s m h) (fun _ _ _ _ _ => trivial) ?_ ((tabW (wordsT 0 t) []).map (·.1), []) (base20 B mx es c 4 0 (.v (.slice none 0 0)) ++ []) hrun.1 trivial ⟨es, mx, c, _, 0, [], hkeys, Or.inl ⟨rfl, rfl, rfl⟩, rfl⟩ ?_ hGl ?_
  · obtain ⟨y, -, rfl⟩ := List.mem_map.1 hx
    rfl
  · rw [hGs]
    clear hkeys hG3 hg hr hlo hnd hT hrun
    rintro L L' s m x H' - - ⟨⟨⟨⟨p1, p2, p3⟩, w⟩, rfl⟩, hcnt⟩ - ⟨es, mx, c, lv, m3, rows, hke, hl, rfl⟩ hHm hd0 hlp hlk' hsz'
    obtain ⟨M, hM⟩ : ∃ M, H'.size = M := ⟨_, rfl⟩
    have hp1 : stp20 s (itW ((p1, p2, p3), w)) = (.normal, onceW s w) := rfl
    generalize stp20 s (itW ((p1, p2, p3), w)) = p20 at hp1 ⊢
    simp -implicitDefEqProofs only [go_sem, ↓reduceIte, Int.reduceEq, Int.reduceLT, Int.reduceLE, List.reduceReplicate, intA, setT_nil, setT_cons, ↓boolP_bool, ↓iteB_true, ↓iteB_false, itW, plN, List.zip_cons_cons, List.zip_nil_right, List.zip_nil_left, hM, settle_eqN hM, trim_eqN hM]
    refine ⟨rfl, hlp, ?_⟩
    obtain ⟨Y', hY'⟩ : ∃ Y', H'.put (B + 2 + 1) (.loop L') = Y' := ⟨_, rfl⟩
    have hYs' : Y'.size = M := by rw [← hY', put_sizeI _ (by omega)]; exact hM
    have hYg : ∀ b, b ≠ B + 2 + 1 → b ≤ M → Y'.get b = H'.get b := fun b hb hb2 => by rw [← hY']; exact put_get_ne _ (by omega) hb
    have hYl' : Y'.lock = 0 := by rw [← hY']; exact hlk'
    have hlkY : Y'.lock ≤ M := by omega
    have hYL : Y'.get (B + 2 + 1) = some (.loop L') := by rw [← hY']; exact put_get_eq _ (by omega)
    have hYb : ∀ q ∈ base20 B mx es c 4 m3 lv, Y'.get q.1 = some q.2 := fun q hq => by
      have := base20_lt hB3 hq
      rw [hYg _ (by omega) (by omega)]
      exact hHm q (List.mem_append_left _ hq)
    have hY3 : Y'.get 3 = some (.map mx es c) := hYb (3, _) (by unfold base20; simp)
    have hYB : Y'.get B = some (.cells 0 4 90 1 false [.mp 3]) := hYb (B, _) (by unfold base20; simp)
    have hYB1 : Y'.get (B + 1) = some (.cells 0 m3 41 1 false [lv]) := hYb (B + 1, _) (by unfold base20; simp)
    have hrM : ∀ p ∈ rows, p.1 < M := fun p hp => by have := get_ltS (hHm p (List.mem_append_right _ hp)); omega
    have hYr : Has rows Y' := fun p hp => by
      have := hl.lo hp
      have h2 := hrM p hp
      rw [hYg _ (by omega) (by omega)]
      exact hHm p (List.mem_append_right _ hp)
    have hr90 : ∀ F, (Y'.plus F).row B 0 = some (4, 90, 1, false, [.mp 3]) := fun F => get_row ((plus_get _ (by omega)).trans hYB)
    have hr41 : ∀ F, (Y'.plus F).row (B + 1) 0 = some (m3, 41, 1, false, [lv]) := fun F => get_row ((plus_get _ (by omega)).trans hYB1)
    have hf1 : fitsA 16 1 = true := by decide
    rw [hY', ← plus_nil Y']
    by_cases hin : w ∈ s.1
    · obtain ⟨k1, k2, es1, v0, c0, es2, hks, hn1, rfl, hk1, hk2⟩ := split_keys w s.1 es hke hin
      have hfind : findKeyA Tryz.prog 9 (strK w) (es1 ++ (strK w, v0, c0) :: es2) 0 = some (some (es1.length, v0)) := by
        rw [find_skip Tryz.prog 9 w es1 k1 0 _ hk1 hn1, find_here, Nat.zero_add]
      have hlook : ∀ F, lookupA Tryz.prog (Y'.plus F) 90 (.mp 3) (.v (.string w)) true = some (.tup [v0, .v (.bool true)]) := fun F => look_in ((plus_get F (by omega)).trans hY3) hfind true
      have herase : s.1.erase w = k1 ++ k2 := by rw [hks, List.erase_append_right _ hn1, List.erase_cons_head]
      have hei : (es1 ++ (strK w, v0, c0) :: es2).eraseIdx es1.length = es1 ++ es2 := by
        rw [List.eraseIdx_append_of_length_le (Nat.le_refl _), Nat.sub_self]; rfl
      have hkn : (es1 ++ es2).map (·.1) = (s.1.erase w).map strK := by rw [herase, List.map_append, List.map_append, hk1, hk2]
      unfold onceW at hp1
      rw [if_pos hin] at hp1
      subst hp1
      -- what is left of memory P in which the word lies behind the others
      have tail : ∀ (P : Heap) (bb vv : Nat) (rows' : Fm) (F : List (Option AObj)), P.size = M → P.lock = 0 → P.get 3 = some (.map mx (es1 ++ (strK w, v0, c0) :: es2) c) → P.get (B + 1) = some (.cells 0 m3 41 1 false [lv]) → P.get B = some (.cells 0 4 90 1 false [.mp 3]) → P.get (B + 2 + 1) = some (.loop L') → rows' = [(bb, .cells vv 0 9 1 true (clW (s.2 ++ [w])))] → B + 4 ≤ bb →
          (P.plus F).get bb = some (.cells vv 0 9 1 true (clW (s.2 ++ [w]))) → (M ≤ bb ∨ keyIn bb rows) → (∀ b, b < M → b ≠ bb → b ≠ B + 2 + 1 → P.get b = H'.get b) →
          ∃ (Z1 Z2 : Heap), (∀ E, storeCells (P.plus E) (B + 1) 0 0 [.sl bb vv 0 (s.2.length + 1) none] = some (Z1.plus E)) ∧ (∀ E, deleteA Tryz.prog (Z1.plus E) [90, 9] [.mp 3, .v (.string w)] = some (Z2.plus E)) ∧ Z1.size = M ∧ Z2.size = M ∧ (∀ E, (Z1.plus E).row B 0 = some (4, 90, 1, false, [.mp 3])) ∧
            ∃ m', R20 B 4 (s.1.erase w, s.2 ++ [w]) m' ∧ Has m' (Z2.plus F) ∧ loopObj (Z2.plus F) (B + 2 + 1) = some L' ∧ Moves ((B + 2 + 1, .loop L') :: (base20 B mx (es1 ++ (strK w, v0, c0) :: es2) c 4 m3 lv ++ rows)) H' ((B + 2 + 1, .loop L') :: m') (Z2.plus F) := by
        intro P bb vv rows' F hPs hPl hP3 hP41 hP90 hPL hrw hbb hPbb hkb hPo
        obtain ⟨Z1, hZ1⟩ : ∃ Z1, P.put (B + 1) (.cells 0 (Nat.max m3 (boundL [.sl bb vv 0 (s.2.length + 1) none])) 41 1 false [.sl bb vv 0 (s.2.length + 1) none]) = Z1 := ⟨_, rfl⟩
        have hZ1s : Z1.size = M := by rw [← hZ1, put_sizeI _ (by omega)]; exact hPs
        have hZ1g : ∀ b, b ≠ B + 1 → b ≤ M → Z1.get b = P.get b := fun b hb hb2 => by rw [← hZ1]; exact put_get_ne _ (by omega) hb
        have hZ13 : Z1.get 3 = some (.map mx (es1 ++ (strK w, v0, c0) :: es2) c) := (hZ1g _ (by omega) (by omega)).trans hP3
        have hZ1l : Z1.lock = 0 := by rw [← hZ1]; exact hPl
        obtain ⟨Z2, hZ2⟩ : ∃ Z2, Z1.put 3 (.map mx (es1 ++ es2) c) = Z2 := ⟨_, rfl⟩
        have hZ2s : Z2.size = M := by rw [← hZ2, put_sizeI _ (by omega)]; exact hZ1s
        have hZ2g : ∀ b, b ≠ 3 → b ≤ M → Z2.get b = Z1.get b := fun b hb hb2 => by rw [← hZ2]; exact put_get_ne _ (by omega) hb
        have hZg : ∀ b, b ≠ 3 → b ≠ B + 1 → b ≤ M → Z2.get b = P.get b := fun b hb hb1 hb2 => (hZ2g b hb hb2).trans (hZ1g b hb1 hb2)
        have hpl : ∀ b, b < M → (Z2.plus F).get b = Z2.get b := fun b hb => plus_get _ (by omega)
        refine ⟨Z1, Z2, fun E => (store_low hP41 (by omega) _ rfl E).trans (by rw [hZ1]), fun E => ?_, hZ1s, hZ2s, fun E => get_row ((plus_get _ (by omega)).trans ((hZ1g _ (by omega) (by omega)).trans hP90)), ?_⟩
        · refine (del_in (G := Z1.plus E) ((plus_get E (by omega)).trans hZ13) (by show Z1.lock ≤ _; omega) hfind).trans ?_
          rw [hei, putLo (by omega), hZ2]
        · refine fin20 hB3 hM (by omega) ?_ (by rw [plus_size]; omega) ((hpl _ (by omega)).trans (by rw [← hZ2]; exact put_get_eq _ (by omega))) ((hpl _ (by omega)).trans ((hZg _ (by omega) (by omega) (by omega)).trans hP90)) ((hpl _ (by omega)).trans ((hZ2g _ (by omega) (by omega)).trans (by rw [← hZ1]; exact put_get_eq _ (by omega)))) ((hpl _ (by omega)).trans ((hZg _ (by omega) (by omega) (by omega)).trans hPL)) (rows' := rows') ?_ hkn (Or.inr ⟨bb, vv, by simp, by simp, hbb, ?_, hrw⟩) ?_ ?_
          · show Z2.lock = _
            rw [← hZ2]
            exact hZ1l.trans hlk'.symm
          · intro p hp
            rw [hrw] at hp
            obtain rfl := List.mem_singleton.1 hp
            rcases Nat.lt_or_ge bb M with h | h
            · rw [hpl _ h, hZg _ (by omega) (by omega) (by omega)]
              rw [plus_get _ (by omega)] at hPbb
              exact hPbb
            · simp only
              rw [plus_get_hi _ (by omega)] at hPbb ⊢
              rw [hPs] at hPbb
              rw [hZ2s]; exact hPbb
          · have : boundL [AV.sl bb vv 0 (s.2.length + 1) none] = bb + 1 := by show Nat.max (bb + 1) 0 = _; exact Nat.max_eq_left (Nat.zero_le _)
            rw [this]
            exact Nat.lt_of_lt_of_le (Nat.lt_succ_self _) (Nat.le_max_right _ _)
          · intro p hp
            rw [hrw] at hp
            obtain rfl := List.mem_singleton.1 hp
            exact hkb
          · intro b hb h3 hb1 hb4 hnk
            rw [hpl _ hb, hZg b h3 hb1 (by omega)]
            exact hPo b hb (fun e => hnk (by rw [hrw, e]; exact ⟨_, List.mem_singleton.2 rfl, rfl⟩)) hb4
      have hcv : AV.cells (.v (.string w)) = [.v (.string w)] := rfl
      rcases hl with ⟨he0, rfl, rfl⟩ | ⟨b, v, h0, rfl, hb1, hb2, rfl⟩
      · obtain ⟨Z1, Z2, hst, hdel, hZ1s, hZ2s, hrZ, hfin⟩ := tail Y' M 0 _ [some (.cells 0 0 9 1 true [.v (.string w)])] hYs' hYl' hY3 hYB1 hYB hYL rfl (by omega) (by rw [he0]; exact plus_mid_get hYs' [] [] _) (Or.inl (Nat.le_refl _)) (fun b hb hbb hb4 => hYg b hb4 (by omega))
        rw [he0] at hst
        simp only [List.length_nil, Nat.zero_add] at hst
        simp -implicitDefEqProofs only [go_sem, ↓reduceIte, Int.reduceEq, Int.reduceLT, Int.reduceLE, List.reduceReplicate, intA, setT_nil, setT_cons, ↓boolP_bool, ↓iteB_true, ↓iteB_false, hr90, hr41, hlook, hf1, app41, appTo_vs0, hst, hdel, hrZ, hcv, List.flatMap_cons, List.flatMap_nil, sizeP hZ1s, settleP0 hZ1s, settleP hZ1s, sizeP hZ2s, settleP0 hZ2s, settleP hZ2s, sizeP hYs', putP0 hYs', putP hYs', settleP0 hYs', settleP hYs', rowP0 hYs', rowP hYs', storeP0 hYs' hlkY, storeP hYs' hlkY, List.length_nil, Nat.add_zero, bd2K_at']
        rw [List.append_nil] at hfin
        exact hfin
      · have hbM := hrM (b, .cells v 0 9 1 true (clW s.2)) (by simp)
        simp only at hbM
        have hlen1 : s.2.length < 2 ^ 31 := hcnt
        have hfi : fitsA 16 (s.2.length + 1) = true := by unfold fitsA; exact decide_eq_true (by omega)
        have hYbb : Y'.get b = some (.cells v 0 9 1 true (clW s.2)) := hYr (b, _) (by simp)
        have hrb : ∀ F, (Y'.plus F).row b v = some (0, 9, 1, true, clW s.2) := fun F => by
          rw [rowLo (by omega)]
          have h := row_of (v := v) hYbb
          rw [if_pos rfl] at h; exact h
        simp -implicitDefEqProofs only [go_sem, ↓reduceIte, Int.reduceEq, Int.reduceLT, Int.reduceLE, List.reduceReplicate, intA, setT_nil, setT_cons, ↓boolP_bool, ↓iteB_true, ↓iteB_false, hr90, hr41, hlook, hf1, app41, appTo_vs0, hcv, List.flatMap_cons, List.flatMap_nil, sizeP hYs', putP0 hYs', putP hYs', settleP0 hYs', settleP hYs', rowP0 hYs', rowP hYs', storeP0 hYs' hlkY, storeP hYs' hlkY, List.length_nil, Nat.add_zero, bd2K_at']
        rw [appTo_own (m := 0) (e' := 9) (cs := clW s.2) (hrb _) (by rw [clW_len, Nat.mul_one]) (by show Y'.lock ≤ b; omega) hfi (by omega) (by omega)]
        rw [putLo (by omega), show Nat.max 0 (boundL [AV.v (.string w)]) = 0 from rfl, show clW s.2 ++ [AV.v (.string w)] = clW (s.2 ++ [w]) by unfold clW; rw [List.map_append]; rfl]
        obtain ⟨W, hW⟩ : ∃ W, Y'.put b (.cells (v + 1) 0 9 1 true (clW (s.2 ++ [w]))) = W := ⟨_, rfl⟩
        have hWs : W.size = M := by rw [← hW, put_sizeI _ (by omega)]; exact hYs'
        have hWg : ∀ q, q ≠ b → q ≤ M → W.get q = Y'.get q := fun q hq hq2 => by rw [← hW]; exact put_get_ne _ (by omega) hq
        have hWl : W.lock = 0 := by rw [← hW]; exact hYl'
        have hWb : W.get b = some (.cells (v + 1) 0 9 1 true (clW (s.2 ++ [w]))) := by rw [← hW]; exact put_get_eq _ (by omega)
        obtain ⟨Z1, Z2, hst, hdel, hZ1s, hZ2s, hrZ, hfin⟩ := tail W b (v + 1) _ [] hWs hWl ((hWg _ (by omega) (by omega)).trans hY3) ((hWg _ (by omega) (by omega)).trans hYB1) ((hWg _ (by omega) (by omega)).trans hYB) ((hWg _ (by omega) (by omega)).trans hYL) rfl hb1 ((plus_get _ (by omega)).trans hWb) (Or.inr ⟨(b, .cells v 0 9 1 true (clW s.2)), by simp, rfl⟩) (fun q hq hqb hq4 => (hWg q hqb (by omega)).trans (hYg q hq4 (by omega)))
        rw [hW]
        simp -implicitDefEqProofs only [go_sem, ↓reduceIte, Int.reduceEq, Int.reduceLT, Int.reduceLE, List.reduceReplicate, intA, setT_nil, setT_cons, ↓boolP_bool, ↓iteB_true, ↓iteB_false, hst, hdel, hrZ, sizeP hWs, settleP0 hWs, settleP hWs, sizeP hZ1s, settleP0 hZ1s, settleP hZ1s, sizeP hZ2s, settleP0 hZ2s, settleP hZ2s, List.length_nil, Nat.add_zero, bd2K_at']
        exact hfin
    · have hfind : findKeyA Tryz.prog 9 (strK w) es 0 = some none := by
        have h := find_skip Tryz.prog 9 w es s.1 0 [] hke hin
        rw [List.append_nil] at h
        exact h
      have hlook : ∀ F, lookupA Tryz.prog (Y'.plus F) 90 (.mp 3) (.v (.string w)) true = some (.tup [.v (.slice none 0 0), .v (.bool false)]) := fun F => look_out ((plus_get F (by omega)).trans hY3) hfind true
      unfold onceW at hp1
      rw [if_neg hin] at hp1
      subst hp1
      simp -implicitDefEqProofs only [go_sem, ↓reduceIte, Int.reduceEq, Int.reduceLT, Int.reduceLE, List.reduceReplicate, intA, setT_nil, setT_cons, ↓boolP_bool, ↓iteB_true, ↓iteB_false, hr90, hlook, sizeP hYs', putP0 hYs', putP hYs', settleP0 hYs', settleP hYs', rowP0 hYs', rowP hYs', storeP0 hYs' hlkY, storeP hYs' hlkY, List.length_nil, Nat.add_zero, bd2K_at']
      rw [plus_nil]
      exact fin20 hB3 hM (by omega) (hYl'.trans hlk'.symm) (Nat.le_of_eq hYs'.symm) hY3 hYB hYB1 hYL hYr hke hl (fun p hp => Or.inr ⟨p, hp, rfl⟩) (fun b hb h3 hb1 hb4 _ => hYg b hb4 (by omega))
  · intro p hp
    rw [List.append_nil] at hp
    unfold base20 at hp
    simp only [List.mem_cons, List.not_mem_nil, or_false] at hp
    rcases hp with rfl | rfl | rfl
    · exact hG3
    · exact hGB
    · exact hGB1
  · rw [hGs, hrun.2]
    rintro m' H' ⟨es', mx', c', lv, m3, rows', hke, hl, rfl⟩ hH1 hd hdd hmv hsz'
    have hv : vocL t = srtW (onceAll (wordsT 0 t) ((tabW (wordsT 0 t) []).map (·.1), [])).2 := rfl
    rw [hv]
    have hln : (onceAll (wordsT 0 t) ((tabW (wordsT 0 t) []).map (·.1), [])).2.length < 2 ^ 33 := by
      have : ∀ (l : List (Plc × ByteArray)) (s : St20), (onceAll l s).2.length ≤ s.2.length + l.length := fun l => by
        induction l with
        | nil => intro s; exact Nat.le_refl _
        | cons y r ih =>
          intro s
          have h1 := ih (onceW s y.2)
          have h2 := onceW_len s y.2
          show (onceAll r (onceW s y.2)).2.length ≤ _
          rw [List.length_cons]; omega
      have := this (wordsT 0 t) ((tabW (wordsT 0 t) []).map (·.1), [])
      simp only [List.length_nil] at this
      omega
    simp only at hl
    generalize (onceAll (wordsT 0 t) ((tabW (wordsT 0 t) []).map (·.1), [])).2 = l at hl hln ⊢
    have hkl : H'.lock = 0 := by rw [hmv.lock]; exact hGl
    obtain ⟨U, hU⟩ : ∃ U, H'.size = U := ⟨_, rfl⟩
    have hlkU : H'.lock ≤ U := by omega
    have hr41 : ∀ F, (H'.plus F).row (B + 1) 0 = some (m3, 41, 1, false, [lv]) := fun F => get_row ((plus_get _ (by omega)).trans (hH1 (B + 1, .cells 0 m3 41 1 false [lv]) (List.mem_append_left _ (by unfold base20; simp))))
    have hkill : ∀ F, killAll [B + 2] (H'.plus F) = some ((H'.put (B + 2) .dead).plus F) := fun F => by
      unfold killAll
      rw [plus_get _ (by omega), hd]
      simp only
      rw [if_pos (by show H'.lock ≤ _; omega), putLo (by omega)]
      unfold killAll; rfl
    rw [← plus_nil H']
    rcases hl with ⟨rfl, rfl, rfl⟩ | ⟨b, v, h0, rfl, hb1, hb2, rfl⟩
    · have h47 := callW47_nil
      simp -implicitDefEqProofs only [go_sem, ↓reduceIte, Int.reduceEq, Int.reduceLT, Int.reduceLE, List.reduceReplicate, intA, setT_nil, setT_cons, ↓boolP_bool, ↓iteB_true, ↓iteB_false, hr41, h47, hkill, sizeP hU, settleP0 hU, settleP hU, List.length_nil, Nat.add_zero]
      rfl
    · have hbU : b < U := by have := get_ltS (hH1 (b, .cells v 0 9 1 true (clW l)) (by simp)); omega
      have hrb : H'.row b v = some (0, 9, 1, true, clW l) := get_row (hH1 (b, .cells v 0 9 1 true (clW l)) (by simp))
      have h47 := callW47 hU hlkU l h0 hln b v hbU hrb
      rw [← plus_nil H', plus_plus, List.nil_append] at h47
      simp -implicitDefEqProofs only [go_sem, ↓reduceIte, Int.reduceEq, Int.reduceLT, Int.reduceLE, List.reduceReplicate, intA, setT_nil, setT_cons, ↓boolP_bool, ↓iteB_true, ↓iteB_false, hr41, h47, hkill, sizeP hU, settleP0 hU, settleP hU, List.length_nil, Nat.add_zero]
      have hsl := srtW_len l
      have h0' : srtW l ≠ [] := fun e => h0 (List.length_eq_zero_iff.1 (by rw [← hsl, e]; rfl))
      have hPs : (H'.put (B + 2) .dead).size = U := by rw [put_sizeI _ (by omega)]; exact hU
      refine freeze_two fun k => ?_
      rw [← hsl]
      refine freeze_wdsK (srtW l) h0' rfl ?_ k
      show Heap.row (Heap.mk ((H'.put (B + 2) .dead).plus [some (AObj.cells 0 0 9 1 true (clW (srtW l)))]).objs 0) U 0 = _
      refine get_row ?_
      exact plus_mid_get hPs [] [] (some (AObj.cells 0 0 9 1 true (clW (srtW l))))
end Go.Ev
namespace Go.Ev
open Go.Proofs Go.Sort
set_option maxRecDepth 100000
set_option linter.unusedSimpArgs false
attribute [local irreducible] Wp WpS
variable {C : Cfg} {me : FuncId} {a : AAct} {H : Heap} {s : Nat} {K : PostO} {d : Option Tmp}
@[go_sem ↓] theorem wpO_clear (args : Array Operand) (ts : Array TypeId) : WpO C me d (.call ⟨.builtin .clear, args, ts⟩) a H s K = bindO (evals a args.toList) fun l => bindO (clearA C.P H ts.toList l) fun H' => AtO K (.tup []) H' := by
  unfold WpO; simp only [opA]
  rcases evals a args.toList with _ | l
  · rfl
  · simp only [bindO_some]; cases clearA C.P H ts.toList l <;> rfl
@[go_sem] theorem slLen_sl (b v o len : Nat) (c : Option Nat) : slLen (.sl b v o len c) = some (.v (.int .i64 len)) := rfl
theorem slIdx_at (sz b v o len : Nat) (c : Option Nat) (i : Nat) (h : i < len) : slIdx sz (.sl b v o len c) (.v (.int .i64 (i : Int))) = some (.ptr b v (o + i * sz)) := by
  unfold slIdx
  simp only [Int.toNat_natCast]
  rw [if_pos (by omega)]
theorem clP_at : ∀ {L : List P3} {k : Nat} {p : P3}, L[k]? = some p → ((clP L).drop (k * 3)).take 3 = [intA p.1, intA p.2.1, intA p.2.2]
  | q :: L, 0, p, h => by
    simp only [List.getElem?_cons_zero, Option.some.injEq] at h
    subst h
    rw [Nat.zero_mul, List.drop_zero, clP_cons]; rfl
  | q :: L, k + 1, p, h => by
    rw [clP_cons, Nat.succ_mul, ← List.drop_drop, show k * 3 = k * 3 from rfl]
    have h2 := clP_at (L := L) (k := k) (p := p) (by simpa using h)
    rw [List.drop_drop, Nat.add_comm, ← List.drop_drop]
    exact h2
theorem clP_set : ∀ {L : List P3} {k : Nat} (p : P3), k < L.length → splice (k * 3) [intA p.1, intA p.2.1, intA p.2.2] (clP L) = clP (L.set k p)
  | q :: L, 0, p, h => by
    unfold splice
    rw [List.set_cons_zero, clP_cons, clP_cons]; rfl
  | q :: L, k + 1, p, h => by
    have h2 := clP_set (L := L) (k := k) p (by simpa using h)
    have e : ∀ (r : P3) (M : List P3), clP (r :: M) = intA r.1 :: intA r.2.1 :: intA r.2.2 :: clP M := fun r M => clP_cons r M
    rw [List.set_cons_succ, e, e, ← h2]
    unfold splice
    rw [show (k + 1) * 3 = k * 3 + 1 + 1 + 1 by omega, List.take_succ_cons, List.take_succ_cons, List.take_succ_cons, show k * 3 + 1 + 1 + 1 + [intA p.1, intA p.2.1, intA p.2.2].length = (k * 3 + [intA p.1, intA p.2.1, intA p.2.2].length) + 1 + 1 + 1 by omega, List.drop_succ_cons, List.drop_succ_cons, List.drop_succ_cons]
    simp only [List.cons_append]
theorem eqP_iff (p q : P3) : eqP p.1 p.2.1 p.2.2 q.1 q.2.1 q.2.2 = decide (p = q) := by
  unfold eqP
  obtain ⟨a, b, c⟩ := p
  obtain ⟨x, y, z⟩ := q
  simp only [Prod.mk.injEq]
  by_cases h1 : a = x <;> by_cases h2 : b = y <;> by_cases h3 : c = z <;> simp [h1, h2, h3]
theorem slice_lo {H : Heap} {b v o len m e : Nat} {g : Bool} {cs : List AV} (hr : H.row b v = some (m, e, 3, g, cs)) {k : Nat} (hk : k < len) : sliceA Tryz.prog H 47 (.sl b v o len none) (some (.v (.int .i64 (k : Int)))) none none = some (.sl b v (o + k * 3) (len - k) none) := by
  unfold sliceA boundA
  have h1 : (0 : Int) ≤ (k : Int) ∧ (k : Int) ≤ (len : Int) := by omega
  simp [und_47, size32, hr, h1]
  omega
theorem slice_hi {H : Heap} {b v o len m e : Nat} {g : Bool} {cs : List AV} (hr : H.row b v = some (m, e, 3, g, cs)) {k : Nat} (hk : k ≤ len) (h0 : len ≠ 0) : sliceA Tryz.prog H 47 (.sl b v o len none) none (some (.v (.int .i64 (k : Int)))) none = some (.sl b v o k none) := by
  unfold sliceA boundA
  have h1 : (0 : Int) ≤ (k : Int) ∧ (k : Int) ≤ (len : Int) := by omega
  simp [und_47, size32, hr, h1]
  omega
theorem neq32 (x y : Operand) (a b c a' b' c' : Int) : binA Tryz.prog .neq 32 x y (.agg [.v (.int .i64 a), .v (.int .i64 b), .v (.int .i64 c)]) (.agg [.v (.int .i64 a'), .v (.int .i64 b'), .v (.int .i64 c')]) = some (.v (.bool (!eqP a b c a' b' c'))) := by
  have := (bin_struct (P := Tryz.prog) (t := 32) (us := [.int .i64 a, .int .i64 b, .int .i64 c]) (ws := [.int .i64 a', .int .i64 b', .int .i64 c']) (n := 3) (by kernel_rfl) (by decide) (by kernel_rfl) (by kernel_rfl) x y).2
  rw [eqP_cells] at this
  exact this
theorem clear_pl {H : Heap} {b v o len : Nat} {c : Option Nat} (h : 0 < len) : clearA Tryz.prog H [47] [.sl b v o len c] = storeCells H b v o (repeatCells [.v (.int .i64 0), .v (.int .i64 0), .v (.int .i64 0)] len) := by
  unfold clearA
  simp only [und_47, size32, zero_32, h, if_true]
  rfl
theorem clP_take : ∀ (L : List P3) (k : Nat), (clP L).take (k * 3) = clP (L.take k)
  | [], k => by simp [clP, flatE]
  | q :: L, 0 => by simp [clP, flatE]
  | q :: L, k + 1 => by
    rw [List.take_succ_cons, clP_cons, clP_cons, ← clP_take L k, show (k + 1) * 3 = 3 + k * 3 by omega, show (3 : Nat) + k * 3 = [intA q.1, intA q.2.1, intA q.2.2].length + k * 3 from rfl, List.take_length_add_append]
def rowO (cs : List AV) : List (Option AObj) := [some (.cells 0 0 32 3 true cs)]
/-- what is left of a row: these things in front -/
def CmpQ (X : Heap) (l : List P3) (Y : Heap) : Prop := ∃ cs, Y = X.plus (rowO cs) ∧ l.length * 3 ≤ cs.length ∧ cs.take (l.length * 3) = clP l ∧ cs.all AV.flat = true ∧ boundL cs = 0
set_option maxHeartbeats 4000000 in
theorem call83 {X : Heap} {N : Nat} (hN : X.size = N) (hlk : X.lock ≤ N) (L : List P3) (h0 : L ≠ []) (hn : L.length < 2 ^ 33) (me : FuncId) (d : Option Tmp) :
    ∃ Y, callA Cs (lim Cs) me 83 d [.sl N 0 0 L.length none] (X.plus (rowO (clP L))) = some (.sl N 0 0 (onceL L).length none, Y) ∧ CmpQ X (onceL L) Y := by
  refine callA_rawT extS_83 (pureS_83 _ _) ?_
  rw [fn_step fnS_83 (show Tryz.f83.body = some _ from rfl)]
  generalize hKK : rawT _ _ _ = KK
  have hpos : 0 < L.length := List.length_pos_iff.2 h0
  by_cases hlt2 : (L.length : Int) < 2
  · simp -implicitDefEqProofs only [Tryz.f83, go_sem, ↓reduceIte, Int.reduceEq, Int.reduceLT, Int.reduceLE, List.reduceReplicate, intA, setT_nil, setT_cons, ↓boolP_bool, ↓iteB_true, ↓iteB_false, hlt2]
    obtain ⟨p, rfl⟩ : ∃ p, L = [p] := by
      match L, hpos, hlt2 with
      | [p], _, _ => exact ⟨p, rfl⟩
      | p :: q :: r, _, h => simp at h; omega
    rw [← hKK]
    refine ⟨rfl, clP [p], trim_size _ _ _, by rw [clP_len]; exact Nat.le_refl _, by rw [List.take_of_length_le (by rw [clP_len]; exact Nat.le_refl _)]; rfl, clP_flat _, clP_bound _⟩
  · simp -implicitDefEqProofs only [Tryz.f83, go_sem, ↓reduceIte, Int.reduceEq, Int.reduceLT, Int.reduceLE, List.reduceReplicate, intA, setT_nil, setT_cons, ↓boolP_bool, ↓iteB_true, ↓iteB_false, hlt2]
    refine Lp_rule (P := fun μ a H => ∃ k : Nat, 1 ≤ k ∧ k + μ = L.length ∧ (∀ i a b, i + 1 < k → L[i]? = some a → L[i + 1]? = some b → a ≠ b) ∧ a = ⟨61, [(0, .sl N 0 0 L.length none), (2, .v (.slice none 0 0)), (8, .v (.bool false)), (3, intA k)], []⟩ ∧ H = X.plus (rowO (clP L))) ?_ (L.length - 1) _ _ ⟨1, Nat.le_refl _, by omega, fun i a b hi _ _ => by omega, rfl, rfl⟩
    rintro μ _ _ ⟨k, hk1, hk, hne, rfl, rfl⟩
    by_cases hlt : (k : Int) < (L.length : Int)
    · have hkl : k < L.length := by omega
      have hk0 : k - 1 < L.length := by omega
      obtain ⟨p, hp⟩ := at_lt L k hkl
      obtain ⟨q, hq⟩ := at_lt L (k - 1) hk0
      have hwm : IntKind.i64.wrap ((k : Int) - 1) = ((k - 1 : Nat) : Int) := by rw [wrap_in _ (by omega) (by omega)]; omega
      have hw := wrap_succ k (by omega)
      have hi1 := slIdx_at 3 N 0 0 L.length none k hkl
      have hi2 := slIdx_at 3 N 0 0 L.length none (k - 1) hk0
      have hc1 := clP_at hp
      have hc2 := clP_at hq
      have hl1 : k * 3 + 3 ≤ (clP L).length := by rw [clP_len]; omega
      have hl2 : (k - 1) * 3 + 3 ≤ (clP L).length := by rw [clP_len]; omega
      have hsl := fun (E : List (Option AObj)) => slice_lo (b := N) (v := 0) (o := 0) (len := L.length) (H := X.plus (some (.cells 0 0 32 3 true (clP L)) :: E)) (m := 0) (e := 32) (g := true) (cs := clP L) (rowP0 hN _ _) hkl
      have htr : ∀ (cs : List AV) (vs : List AV) (ms : List Nat), (X.plus [some (.cells 0 0 32 3 true cs)]).trim (N + 1) vs ms = X.plus [some (.cells 0 0 32 3 true cs)] := fun cs vs ms => by
        have h := trim_size (X.plus [some (.cells 0 0 32 3 true cs)]) vs ms
        rw [sizeP hN] at h
        exact h
      simp -implicitDefEqProofs only [go_sem, ↓reduceIte, Int.reduceEq, Int.reduceLT, Int.reduceLE, List.reduceReplicate, intA, setT_nil, setT_cons, ↓boolP_bool, ↓iteB_true, ↓iteB_false, hlt, rowO]
      refine wp_drawX [([], [], false), ([], [], false), ([], [], false), ([], [], false), ([], [], false), ([], [], false), ([], [], false), ([], [], false), ([3], [], false), ([], [], false)] (by kernel_rfl) (by kernel_rfl) ?_
      cases hpq : decide (p = q)
      · simp -implicitDefEqProofs only [go_sem, ↓reduceIte, Int.reduceEq, Int.reduceLT, Int.reduceLE, List.reduceReplicate, intA, setT_nil, setT_cons, ↓boolP_bool, ↓iteB_true, ↓iteB_false, hlt, hwm, hw, hi1, hi2, hl1, hl2, hc1, hc2, Nat.zero_add, rowP0 hN, rowP hN, sizeP hN, settleP0 hN, settleP hN, List.length_cons, List.length_nil, ltB_hi, eq32, eqP_iff, hpq, rowO]
        refine ⟨μ - 1, by omega, k + 1, by omega, by omega, fun i a b hi ha hb => ?_, rfl, htr _ _ _⟩
        by_cases h : i + 1 < k
        · exact hne i a b h ha hb
        · obtain rfl : i = k - 1 := by omega
          rw [show k - 1 + 1 = k by omega, hp] at hb
          rw [hq] at ha
          cases ha; cases hb
          exact fun e => of_decide_eq_false hpq e.symm
      · simp -implicitDefEqProofs only [go_sem, ↓reduceIte, Int.reduceEq, Int.reduceLT, Int.reduceLE, List.reduceReplicate, intA, setT_nil, setT_cons, ↓boolP_bool, ↓iteB_true, ↓iteB_false, hlt, hwm, hw, hi1, hi2, hl1, hl2, hc1, hc2, Nat.zero_add, rowP0 hN, rowP hN, sizeP hN, settleP0 hN, settleP hN, List.length_cons, List.length_nil, ltB_hi, eq32, eqP_iff, hpq, rowO, hsl]
        obtain rfl : p = q := of_decide_eq_true hpq
        have hbase : onceL (L.take (k + 1)) = L.take k := by
          rw [onceL_take hk1 hq hp, if_pos rfl]
          refine onceL_id fun i a b ha hb => ?_
          have h1 := (List.getElem?_eq_some_iff.1 hb).1
          rw [List.length_take] at h1
          rw [List.getElem?_take_of_lt (by omega)] at ha hb
          exact hne i a b (by omega) ha hb
        refine Lp_rule (P := fun μ a H => ∃ (k2 kk : Nat) (M : List P3), 1 ≤ k2 ∧ k2 + μ = L.length - k ∧ M.length = L.length ∧ kk = (onceL (L.take (k + k2))).length ∧ kk ≤ k + k2 - 1 ∧ M.take kk = onceL (L.take (k + k2)) ∧ M.drop (k + k2 - 1) = L.drop (k + k2 - 1) ∧ a = ⟨61, [(0, .sl N 0 0 L.length none), (2, .v (.slice none 0 0)), (8, .v (.bool false)), (3, intA kk), (13, .v (.bool true)), (25, .v (.bool true)), (4, .sl N 0 (k * 3) (L.length - k) none), (5, intA k2)], []⟩ ∧ H = X.plus [some (.cells 0 0 32 3 true (clP M))]) ?_ (L.length - k - 1) _ _ ⟨1, k, L, Nat.le_refl _, by omega, rfl, by rw [hbase, List.length_take]; omega, by omega, hbase.symm, rfl, rfl, rfl⟩
        rintro μ2 _ _ ⟨k2, kk, M, hk21, hk2, hML, hkk, hkkle, hMt, hMd, rfl, rfl⟩
        by_cases hlt3 : (k2 : Int) < ((L.length - k : Nat) : Int)
        · have hil : k + k2 < L.length := by omega
          obtain ⟨p2, hp2⟩ := at_lt L (k + k2) hil
          obtain ⟨q2, hq2⟩ := at_lt L (k + k2 - 1) (by omega)
          have hMp : M[k + k2]? = some p2 := by
            have := congrArg (fun l => l[1]?) hMd
            simp only [List.getElem?_drop] at this
            rw [show k + k2 - 1 + 1 = k + k2 by omega] at this
            rw [this, hp2]
          have hMq : M[k + k2 - 1]? = some q2 := by
            have := congrArg (fun l => l[0]?) hMd
            simp only [List.getElem?_drop, Nat.add_zero] at this
            rw [this, hq2]
          have hwm2 : IntKind.i64.wrap ((k2 : Int) - 1) = ((k2 - 1 : Nat) : Int) := by rw [wrap_in _ (by omega) (by omega)]; omega
          have hw2 := wrap_succ k2 (by omega)
          have hwk := wrap_succ kk (by omega)
          have hj1 := slIdx_at 3 N 0 (k * 3) (L.length - k) none k2 (by omega)
          have hj2 := slIdx_at 3 N 0 (k * 3) (L.length - k) none (k2 - 1) (by omega)
          have hj3 := slIdx_at 3 N 0 0 L.length none kk (by omega)
          have hd1 := clP_at hMp
          have hd2 := clP_at hMq
          rw [show (k + k2) * 3 = k * 3 + k2 * 3 by omega] at hd1
          rw [show (k + k2 - 1) * 3 = k * 3 + (k2 - 1) * 3 by omega] at hd2
          have hm1 : k * 3 + k2 * 3 + 3 ≤ (clP M).length := by rw [clP_len]; omega
          have hm2 : k * 3 + (k2 - 1) * 3 + 3 ≤ (clP M).length := by rw [clP_len]; omega
          have hm3 : kk * 3 + 3 ≤ (clP M).length := by rw [clP_len]; omega
          have hset : List.take (kk * 3) (clP M) ++ [.v (.int .i64 p2.1), .v (.int .i64 p2.2.1), .v (.int .i64 p2.2.2)] ++ List.drop (kk * 3 + 3) (clP M) = clP (M.set kk p2) := clP_set (L := M) (k := kk) p2 (by omega)
          have hMd2 : M.drop (k + (k2 + 1) - 1) = L.drop (k + (k2 + 1) - 1) := by
            rw [show k + (k2 + 1) - 1 = (k + k2 - 1) + 1 by omega, ← List.drop_drop, ← List.drop_drop, hMd]
          have hst := onceL_take (by omega) hq2 hp2
          simp -implicitDefEqProofs only [go_sem, ↓reduceIte, Int.reduceEq, Int.reduceLT, Int.reduceLE, List.reduceReplicate, intA, setT_nil, setT_cons, ↓boolP_bool, ↓iteB_true, ↓iteB_false, hlt3]
          refine wp_drawX [([], [], false), ([], [], false), ([], [], false), ([], [], false), ([], [], false), ([], [], false), ([], [], false), ([], [], false), ([3], [], false), ([], [], false)] (by kernel_rfl) (by kernel_rfl) ?_
          cases hpq2 : decide (p2 = q2)
          · have hne2 : ¬ q2 = p2 := fun e => of_decide_eq_false hpq2 e.symm
            rw [if_neg hne2] at hst
            simp -implicitDefEqProofs only [go_sem, ↓reduceIte, Int.reduceEq, Int.reduceLT, Int.reduceLE, List.reduceReplicate, intA, setT_nil, setT_cons, ↓boolP_bool, ↓iteB_true, ↓iteB_false, hwm2, hw2, hwk, hj1, hj2, hj3, hd1, hd2, hm1, hm2, hm3, hset, Nat.zero_add, rowP0 hN, rowP hN, sizeP hN, settleP0 hN, settleP hN, storeP0 hN hlk, List.length_cons, List.length_nil, ltB_hi, neq32, eqP_iff, hpq2, Bool.not_false]
            refine ⟨μ2 - 1, by omega, k2 + 1, kk + 1, M.set kk p2, by omega, by omega, by rw [List.length_set]; exact hML, ?_, by omega, ?_, ?_, rfl, htr _ _ _⟩
            · rw [← Nat.add_assoc, hst, List.length_append, ← hkk]; rfl
            · rw [← Nat.add_assoc, hst, ← hMt, List.take_add_one, List.getElem?_set_self (by omega), List.take_set_of_le (Nat.le_refl kk)]; rfl
            · rw [List.drop_set_of_lt (by omega)]; exact hMd2
          · have he2 : q2 = p2 := (of_decide_eq_true hpq2).symm
            rw [if_pos he2] at hst
            simp -implicitDefEqProofs only [go_sem, ↓reduceIte, Int.reduceEq, Int.reduceLT, Int.reduceLE, List.reduceReplicate, intA, setT_nil, setT_cons, ↓boolP_bool, ↓iteB_true, ↓iteB_false, hwm2, hw2, hwk, hj1, hj2, hj3, hd1, hd2, hm1, hm2, hm3, hset, Nat.zero_add, rowP0 hN, rowP hN, sizeP hN, settleP0 hN, settleP hN, storeP0 hN hlk, List.length_cons, List.length_nil, ltB_hi, neq32, eqP_iff, hpq2, Bool.not_true]
            exact ⟨μ2 - 1, by omega, k2 + 1, kk, M, by omega, by omega, hML, by rw [← Nat.add_assoc, hst]; exact hkk, by omega, by rw [← Nat.add_assoc, hst]; exact hMt, hMd2, rfl, htr _ _ _⟩
        · have hk2e : k + k2 = L.length := by omega
          rw [hk2e, List.take_length] at hkk hMt
          have hkl2 : kk < L.length := by omega
          have hsl2 := fun (E : List (Option AObj)) => slice_lo (b := N) (v := 0) (o := 0) (len := L.length) (H := X.plus (some (.cells 0 0 32 3 true (clP M)) :: E)) (m := 0) (e := 32) (g := true) (cs := clP M) (rowP0 hN _ _) hkl2
          rw [Nat.zero_add] at hsl2
          have hcl := fun (E : List (Option AObj)) => clear_pl (H := X.plus (some (.cells 0 0 32 3 true (clP M)) :: E)) (b := N) (v := 0) (o := kk * 3) (len := L.length - kk) (c := none) (by omega)
          have hrl : (repeatCells [.v (.int .i64 0), .v (.int .i64 0), .v (.int .i64 0)] (L.length - kk)).length = (L.length - kk) * 3 := repeat_len _ _
          have hrf : (repeatCells [.v (.int .i64 0), .v (.int .i64 0), .v (.int .i64 0)] (L.length - kk)).all AV.flat = true := repeat_flat rfl _
          have hrb : boundL (repeatCells [.v (.int .i64 0), .v (.int .i64 0), .v (.int .i64 0)] (L.length - kk)) = 0 := repeat_bound rfl _
          generalize repeatCells [.v (.int .i64 0), .v (.int .i64 0), .v (.int .i64 0)] (L.length - kk) = zs at hcl hrl hrf hrb
          have hle : kk * 3 + (L.length - kk) * 3 ≤ (clP M).length := by rw [clP_len]; omega
          have hsh := fun (cs : List AV) (E : List (Option AObj)) => slice_hi (b := N) (v := 0) (o := 0) (len := L.length) (H := X.plus (some (.cells 0 0 32 3 true cs) :: E)) (m := 0) (e := 32) (g := true) (cs := cs) (rowP0 hN _ _) (k := kk) (by omega) (by omega)
          simp -implicitDefEqProofs only [go_sem, ↓reduceIte, Int.reduceEq, Int.reduceLT, Int.reduceLE, List.reduceReplicate, intA, setT_nil, setT_cons, ↓boolP_bool, ↓iteB_true, ↓iteB_false, hlt3, htr, hsl2, hcl, hrl, hrf, hrb, hle, hsh, Nat.zero_add, rowP0 hN, rowP hN, sizeP hN, settleP0 hN, settleP hN, storeP0 hN hlk, List.length_cons, List.length_nil]
          rw [← hKK, hkk]
          have hlM : (List.take (kk * 3) (clP M)).length = kk * 3 := by rw [List.length_take, clP_len]; omega
          refine ⟨rfl, _, by rw [show (X.plus (rowO (clP L))).size = N + 1 from by rw [sizeP hN]; rfl]; exact htr _ _ _, ?_, ?_, ?_, ?_⟩
          · rw [← hkk, List.length_append, List.length_append, hlM]; omega
          · rw [← hkk, List.append_assoc, List.take_append_of_le_length (Nat.le_of_eq hlM.symm), List.take_of_length_le (Nat.le_of_eq hlM), clP_take, hMt]
          · have h1 := clP_flat M
            rw [List.all_eq_true] at h1 hrf ⊢
            intro x hx
            rcases List.mem_append.1 hx with hx | hx
            · rcases List.mem_append.1 hx with hx | hx
              · exact h1 x (List.mem_of_mem_take hx)
              · exact hrf x hx
            · exact h1 x (List.mem_of_mem_drop hx)
          · refine Nat.le_zero.1 (boundL_le.2 fun x hx => ?_)
            have h1 := boundL_le.1 (Nat.le_of_eq (clP_bound M))
            have h2 := boundL_le.1 (Nat.le_of_eq hrb)
            rcases List.mem_append.1 hx with hx | hx
            · rcases List.mem_append.1 hx with hx | hx
              · exact h1 x (List.mem_of_mem_take hx)
              · exact h2 x hx
            · exact h1 x (List.mem_of_mem_drop hx)
    · simp -implicitDefEqProofs only [go_sem, ↓reduceIte, Int.reduceEq, Int.reduceLT, Int.reduceLE, List.reduceReplicate, intA, setT_nil, setT_cons, ↓boolP_bool, ↓iteB_true, ↓iteB_false, hlt]
      obtain rfl : k = L.length := by omega
      have hid : onceL L = L := onceL_id fun i a b ha hb => hne i a b (List.getElem?_eq_some_iff.1 hb).1 ha hb
      rw [← hKK, hid]
      exact ⟨rfl, clP L, trim_size _ _ _, by rw [clP_len]; exact Nat.le_refl _, by rw [List.take_of_length_le (by rw [clP_len]; exact Nat.le_refl _)], clP_flat _, clP_bound _⟩
end Go.Ev
namespace Go.Ev
open Go.Proofs Go.Sort
set_option maxRecDepth 100000
set_option linter.unusedSimpArgs false
attribute [local irreducible] Wp WpS
/-- a call on live memory, whose answer is frozen -/
theorem callA_fz {C : Cfg} {me f : FuncId} {d : Option Tmp} {args : List AV} {X : Heap} {w : AV} (hx : C.ext f = none) (hp : C.pure me f d = true) (hy : args.any isYld = false) (hb : boundL args ≠ 0)
    (h2 : Fn' C f args { X with lock := X.size } (fun v H' => freezeV { H' with lock := X.size } 1000000 v = some w)) : callA C (lim C) me f d args X = some (w, X) := by
  unfold callA callB callKind
  rw [hx]
  simp only [hp, if_true]
  unfold Fn' at h2
  rw [bindO_iff] at h2
  obtain ⟨o, h3, h4⟩ := h2
  rw [if_neg (fun h => hb (Nat.eq_of_beq_eq_true h)), hy]
  simp only [Bool.false_eq_true, if_false]
  cases o with
  | ret v H => 
    have h5 : freezeV { H with lock := X.size } 1000000 v = some w := h4
    simp only [h3, h5]; rfl
  | _ => exact h4.elim
theorem fn_mono {C : Cfg} {f : FuncId} {args : List AV} {H : Heap} {K K' : PostO} (h : Fn' C f args H K) (hk : ∀ v H', K v H' → K' v H') : Fn' C f args H K' := by
  unfold Fn' at h ⊢
  rw [bindO_iff] at h ⊢
  obtain ⟨o, h1, h2⟩ := h
  refine ⟨o, h1, ?_⟩
  cases o with
  | ret v H' => exact hk v H' h2
  | _ => exact h2.elim
theorem onceL_ne {l : List P3} (h : l ≠ []) : onceL l ≠ [] := fun e => by
  cases l with
  | nil => exact h rfl
  | cons p r =>
    have := (onceL_mem (p :: r) p).2 List.mem_cons_self
    rw [e] at this; cases this
theorem srtP_ne {l : List P3} (h : l ≠ []) : srtP l ≠ [] := fun e => h (List.length_eq_zero_iff.1 (by rw [← srtP_len, e]; rfl))
/-- each once, in order -/
theorem ans60_nil : Ans Cs 60 [.v (.slice none 0 0)] (.v (.slice none 0 0)) := by
  have h83 : ∀ (X : Heap) (me : FuncId) (d : Option Tmp), callA Cs (lim Cs) me 83 d [.v (.slice none 0 0)] X = some (.v (.slice none 0 0), X) := fun X me d => by
    refine callA_rawX extS_83 (pureS_83 _ _) ?_
    rw [fn_step fnS_83 (show Tryz.f83.body = some _ from rfl)]
    generalize hKK : rawX X _ _ = KK
    simp -implicitDefEqProofs only [Tryz.f83, go_sem, ↓reduceIte, Int.reduceEq, Int.reduceLT, Int.reduceLE, List.reduceReplicate, intA, setT_nil, setT_cons, ↓boolP_bool, ↓iteB_true, ↓iteB_false]
    rw [← hKK]
    exact rawX_same _ _ rfl
  unfold Ans
  rw [fn_step fnS_60 (show Tryz.f60.body = some _ from rfl)]
  simp -implicitDefEqProofs only [Tryz.f60, go_sem, ↓reduceIte, Int.reduceEq, Int.reduceLT, Int.reduceLE, List.reduceReplicate, intA, setT_nil, setT_cons, ↓boolP_bool, ↓iteB_true, ↓iteB_false, call84_nil, h83]
theorem call60_nil (me : FuncId) (d : Option Tmp) (H : Heap) : callA Cs (lim Cs) me 60 d [.v (.slice none 0 0)] H = some (.v (.slice none 0 0), H) :=
  ans60_nil.call extS_60 (pureS_60 _ _) rfl H
set_option maxHeartbeats 1000000 in
theorem call60 {X : Heap} (ps : List P3) (h0 : ps ≠ []) (hn : ps.length < 2 ^ 33) (b v : Nat) (hb : b < X.size) (hr : X.row b v = some (0, 32, 3, true, clP ps)) (me : FuncId) (d : Option Tmp) :
    callA Cs (lim Cs) me 60 d [.sl b v 0 ps.length none] X = some (plsV (onceL (srtP ps)), X) := by
  refine callA_fz extS_60 (pureS_60 _ _) rfl (fun h => ?_) ?_
  · have : Nat.max (b + 1) 0 = 0 := h
    have h1 := Nat.le_max_left (b + 1) 0
    have h2 : b + 1 ≤ 0 := this ▸ h1
    omega
  rw [fn_step fnS_60 (show Tryz.f60.body = some _ from rfl)]
  generalize hX : ({ X with lock := X.size } : Heap) = X'
  have hN : X'.size = X.size := by rw [← hX]; rfl
  have hlk : X'.lock ≤ X.size := by rw [← hX]; exact Nat.le_refl _
  have hr' : X'.row b v = some (0, 32, 3, true, clP ps) := by rw [← hX]; exact hr
  have h84 := call84 hN hlk ps h0 hn b v hb hr'
  obtain ⟨Y, h83, cs, rfl, hc1, hc2, hc3, hc4⟩ := call83 hN hlk (srtP ps) (srtP_ne h0) (by rw [srtP_len]; exact hn) 60 (some 5)
  rw [srtP_len] at h83
  have hb1 : ltB b X.size = true := by unfold ltB; simp; omega
  unfold rowO at h83
  generalize hKK : (fun (v : AV) (H' : Heap) => freezeV { H' with lock := X.size } 1000000 v = some (plsV (onceL (srtP ps)))) = KK
  simp -implicitDefEqProofs only [Tryz.f60, go_sem, ↓reduceIte, Int.reduceEq, Int.reduceLT, Int.reduceLE, List.reduceReplicate, intA, setT_nil, setT_cons, ↓boolP_bool, ↓iteB_true, ↓iteB_false, h84, h83, rowO, sizeP hN, putP0 hN, putP hN, settleP0 hN, settleP hN, List.length_nil, Nat.add_zero]
  rw [← hKK]
  have hne := onceL_ne (srtP_ne h0)
  have e1 : plsV (onceL (srtP ps)) = .vs 3 ((onceL (srtP ps)).map p3V) none := by
    generalize onceL (srtP ps) = f at hne
    cases f with | nil => exact absurd rfl hne | cons r f => rfl
  show freezeV _ 1000000 (.sl X.size 0 0 (onceL (srtP ps)).length none) = _
  rw [e1, ← chunk_pls]
  unfold freezeV
  have hrow : ∀ k, Heap.row { X'.plus [some (.cells 0 0 32 3 true cs)] with lock := k } X.size 0 = some (0, 32, 3, true, cs) := fun k => rowP0 hN [some (.cells 0 0 32 3 true cs)] 0
  have hse : settleH X'.size (X'.plus [some (.cells 0 0 32 3 true cs)]) = X'.plus [some (.cells 0 0 32 3 true cs)] := by rw [hN, settleP0 hN]; rfl
  simp only [hse, hrow]
  rw [if_neg (Nat.lt_irrefl _), if_pos ⟨by omega, by omega⟩, if_pos trivial, List.drop_zero, hc2]
end Go.Ev
namespace Go.Ev
open Go.Proofs Go.Sort
set_option maxRecDepth 100000
set_option linter.unusedSimpArgs false
attribute [local irreducible] Wp WpS
/-! ### lists of copies: closed, or in memory -/
/-- a list that can be gone through wherever this memory is -/
structure Rdb (X : Heap) (zs : List AV) (lx : AV) : Prop where
  len : slLen lx = some (.v (.int .i64 zs.length))
  yld : isYld lx = false
  get : ∀ (i : Nat) (z : AV), zs[i]? = some z → ∃ p, slIdx 2 lx (.v (.int .i64 (i : Int))) = some p ∧ ∀ H : Heap, (∀ b, b < X.size → H.get b = X.get b) → loadA Tryz.prog H 53 p = some z
theorem rdb_closed {zs : List AV} {lx : AV} (h : SlOf 2 zs lx) (hz : ∀ z ∈ zs, ∃ a b, z = .agg [a, b]) (X : Heap) : Rdb X zs lx := by
  refine ⟨h.len, ?_, fun i z hi => ⟨.ro z 0, h.idx hi .i64, fun H _ => ?_⟩⟩
  · rcases h with ⟨rfl, -⟩ | ⟨c, rfl⟩ <;> rfl
  · obtain ⟨a, b, rfl⟩ := hz z (List.mem_of_getElem? hi)
    have e1 : isAggT Tryz.prog 53 = some true := isagg_53
    have e2 : sizeT Tryz.prog 53 = some 2 := size_53
    unfold loadA partOf
    rw [e1, e2]
    rfl
/-- what is told of the copies of a list -/
structure CpsOk (ch : AV) (cs : List (Int × List Rd)) (zs : List AV) : Prop where
  len : cs.length = zs.length
  get : ∀ (i : Nat) (c : Int × List Rd), cs[i]? = some c → ∃ y, zs[i]? = some (.agg [intA c.1, y]) ∧ RdsA c.2 y ∧ c.2.length ≤ 20 ∧
    (∀ (me : FuncId) (d : Option Tmp) (H : Heap), callA Cs (lim Cs) me 58 d [.agg [ch], .agg [intA c.1, y]] H = some (.v (.bool true), H)) ∧
    ∀ (me : FuncId) (d : Option Tmp) (H : Heap), callA Cs (lim Cs) me 59 d [.agg [intA c.1, y]] H = some (plsV (dbtL c.2), H)
/-! ### memory behind which places are laid -/
structure MP (X : Heap) (ch : AV) (H : Heap) (ps : List P3) (out : AV) : Prop where
  lock : H.lock = X.lock
  size : X.size + 2 ≤ H.size
  low : ∀ b, b < X.size → H.get b = X.get b
  b1 : H.get X.size = some (.cells 0 0 24 1 false [ch])
  b2 : H.get (X.size + 1) = some (.cells 0 0 79 1 false [ch])
  done : (ps = [] ∧ out = .v (.slice none 0 0)) ∨ (ps ≠ [] ∧ ∃ b v, X.size + 2 ≤ b ∧ b < H.size ∧ out = .sl b v 0 ps.length none ∧ H.row b v = some (0, 32, 3, true, clP ps))
theorem MP.plus {X : Heap} {ch : AV} {H : Heap} {ps : List P3} {out : AV} (h : MP X ch H ps out) (E : List (Option AObj)) : MP X ch (H.plus E) ps out := by
  have hs := h.size
  refine ⟨h.lock, by rw [plus_size]; omega, fun b hb => (plus_get E (by omega)).trans (h.low b hb), (plus_get E (by omega)).trans h.b1, (plus_get E (by omega)).trans h.b2, ?_⟩
  rcases h.done with hd | ⟨h0, b, v, h1, h2, h3, h4⟩
  · exact Or.inl hd
  · exact Or.inr ⟨h0, b, v, h1, by rw [plus_size]; omega, h3, by rw [rowLo h2]; exact h4⟩
theorem MP.trim {X : Heap} {ch : AV} {H : Heap} {ps : List P3} {out : AV} (h : MP X ch H ps out) {n : Nat} (hn : X.size + 2 ≤ n) (hn2 : n ≤ H.size) (vs : List AV) (ms : List Nat) (hv : bound out ≤ boundL vs) : MP X ch (H.trim n vs ms) ps out := by
  refine ⟨trim_lock.trans h.lock, Nat.le_trans hn (trim_size' hn2), fun b hb => (trim_lo (by omega)).trans (h.low b hb), (trim_lo (by omega)).trans h.b1, (trim_lo (by omega)).trans h.b2, ?_⟩
  rcases h.done with hd | ⟨h0, b, v, h1, h2, rfl, h4⟩
  · exact Or.inl hd
  · unfold Heap.trim
    split
    · rename_i hq
      rw [Bool.and_eq_true, Bool.and_eq_true, Bool.and_eq_true, Nat.ble_eq] at hq
      have h5 := hq.1.1.1
      have hb : b < n := by simp only [bound] at hv; omega
      have hg := (takeH_get (H := H) hb).trans (row_of_get h4)
      exact Or.inr ⟨h0, b, v, h1, get_size hg, rfl, get_row hg⟩
    · exact Or.inr ⟨h0, b, v, h1, h2, rfl, h4⟩
theorem MP.more {X : Heap} {ch : AV} {H : Heap} {ps : List P3} {b v : Nat} (h : MP X ch H ps (.sl b v 0 ps.length none)) (h0 : ps ≠ []) (h1 : X.size + 2 ≤ b) (hb : b < H.size) (s : List P3) (n : Nat) (hn : n = ps.length + s.length) : MP X ch (H.put b (.cells (v + 1) 0 32 3 true (clP (ps ++ s)))) (ps ++ s) (.sl b (v + 1) 0 n none) := by
  have hs := h.size
  refine ⟨h.lock, by rw [put_sizeI _ hb]; omega, fun c hc => (put_get_ne _ (by omega) (by omega)).trans (h.low c hc), (put_get_ne _ (by omega) (by omega)).trans h.b1, (put_get_ne _ (by omega) (by omega)).trans h.b2, Or.inr ⟨fun e => h0 (List.append_eq_nil_iff.1 e).1, b, v + 1, h1, by rw [put_sizeI _ hb]; exact hb, by rw [hn, List.length_append], row_put_same hb⟩⟩
theorem MP.new {X : Heap} {ch : AV} {H : Heap} {ps : List P3} {out : AV} (h : MP X ch H ps out) {N : Nat} (hN : H.size = N) (E : List (Option AObj)) (k : Nat) (qs : List P3) (h0 : qs ≠ []) (hE : E[k]? = some (some (.cells 0 0 32 3 true (clP qs)))) : MP X ch (H.plus E) qs (.sl (N + k) 0 0 qs.length none) := by
  have hk := (List.getElem?_eq_some_iff.1 hE).1
  have hs := h.size
  refine ⟨h.lock, by rw [plus_size]; omega, fun b hb => (plus_get E (by omega)).trans (h.low b hb), (plus_get E (by omega)).trans h.b1, (plus_get E (by omega)).trans h.b2, Or.inr ⟨h0, N + k, 0, by omega, by rw [plus_size]; omega, rfl, ?_⟩⟩
  rw [rowP hN, hE]; rfl
theorem call40S {t : Txt} (ht : Fits t) (htx : textB t = true) {ch : AV} {xs : List AV} (hch : SlOf 2 xs ch) (hall : All2 ChapA t xs) (me : FuncId) (d : Option Tmp) (H : Heap) : callA Cs (lim Cs) me 40 d [.agg [ch]] H = some (.tup [.agg [ch], .v (.int .i64 0)], H) := by
  have h := ans40 quietA t ht ch ⟨xs, hch, hall⟩
  rw [htx, if_pos rfl] at h
  exact told rfl h (by simp only [boundL_cons, bound_agg, hch.bound, boundL_nil]; rfl) me d H
theorem plsV_cells (H : Heap) (l : List P3) : cellsFrom H 3 (plsV l) = some (l.length, clP l) := by
  cases l with
  | nil => rfl
  | cons p r =>
    show cellsFrom H 3 (.vs 3 ((p :: r).map p3V) none) = _
    rw [cells_vs', if_pos rfl, List.length_map]
    congr 2
    unfold clP flatE
    rw [List.flatMap_map, List.map_flatMap]
    rfl
set_option maxHeartbeats 4000000 in
theorem fn32 {X : Heap} (hlk : X.lock ≤ X.size) {t : Txt} (ht : Fits t) (htx : textB t = true) {ch : AV} {xs : List AV} (hch : SlOf 2 xs ch) (hall : All2 ChapA t xs) {cs : List (Int × List Rd)} {zs : List AV} (hcs : CpsOk ch cs zs) (hc5 : cs.length ≤ 5) {lx : AV} (hr : Rdb X zs lx) :
    Fn' Cs 32 [.agg [ch], lx] X (fun v _ => v = .tup [plsV (doubtL cs), .v (.int .i64 0)]) := by
  obtain ⟨N, hN⟩ : ∃ N, X.size = N := ⟨_, rfl⟩
  have h40 := call40S ht htx hch hall
  have hl := hr.len
  rw [← hcs.len] at hl
  rw [hN] at hlk
  generalize hKK : (fun (v : AV) (_ : Heap) => v = .tup [plsV (doubtL cs), .v (.int .i64 0)]) = KK
  rw [fn_step fnS_32 (show Tryz.f32.body = some _ from rfl), ← plus_nil X]
  have hnot : ¬ 5 < (cs.length : Int) := by omega
  simp -implicitDefEqProofs only [Tryz.f32, go_sem, ↓reduceIte, Int.reduceEq, Int.reduceLT, Int.reduceLE, List.reduceReplicate, intA, setT_nil, setT_cons, ↓boolP_bool, ↓iteB_true, ↓iteB_false, hch.cells, hch.flat, hch.bound, h40, hl, hnot, sizeP hN, putP0 hN, putP hN, settleP0 hN, settleP hN, rowP0 hN, rowP hN, storeP0 hN hlk, storeP hN hlk, List.length_nil, List.length_cons, Nat.add_zero, Nat.zero_add]
  refine Lp_rule (P := fun μ a H => ∃ (i : Nat) (ps : List P3) (out : AV), i + μ = cs.length ∧ ps = allD (cs.take i) ∧ ps.length ≤ i * 20 ∧ a = ⟨39, [(0, .agg [ch]), (1, lx), (2, .ptr N 0 0), (4, .v (.slice none 0 0)), (5, intA 0), (6, .ptr (N + 1) 0 0), (7, intA 0), (17, .v (.bool false)), (21, .v (.bool false)), (8, out), (22, lx), (23, intA cs.length), (24, intA i)], []⟩ ∧ MP X ch H ps out) ?_ cs.length _ _ ⟨0, [], _, by omega, rfl, Nat.le_refl _, rfl, ?_⟩
  · rintro μ _ H ⟨i, ps, out, hi, hps, hpl, rfl, hM⟩
    obtain ⟨M, hMs⟩ : ∃ M, H.size = M := ⟨_, rfl⟩
    have hsz := hM.size
    have hlkM : H.lock ≤ M := by rw [hM.lock]; omega
    by_cases hlt : (i : Int) < (cs.length : Int)
    · obtain ⟨c, hc⟩ := at_lt cs i (by omega)
      obtain ⟨y, hz, hRd, hrl, h58, h59⟩ := hcs.get i c hc
      obtain ⟨p, hp1, hp2⟩ := hr.get i _ hz
      have hw := wrap_succ i (by omega)
      have hld : ∀ E, loadA Tryz.prog (H.plus E) 53 p = some (.agg [intA c.1, y]) := fun E => hp2 _ fun b hb => ((hM.plus E).low b hb)
      have hb2 : ∀ E, (H.plus E).row (N + 1) 0 = some (0, 79, 1, false, [ch]) := fun E => get_row (by rw [← hN]; exact (hM.plus E).b2)
      have hyf : SlOf 5 (c.2.map rdV) y := hRd
      have hdl := dbtL_len c.2
      have hall2 : allD (cs.take (i + 1)) = ps ++ dbtL c.2 := by
        rw [hps]; unfold allD; rw [List.take_add_one, hc, List.flatMap_append]; simp
      unfold intA at hld h58 h59
      have hpc := plsV_cells
      have hcf := clP_flat
      rw [← plus_nil H]
      rcases hM.done with ⟨rfl, rfl⟩ | ⟨h0, b, v, hb1, hb3, rfl, hrow⟩
      · cases hd : dbtL c.2 with
        | nil =>
          rw [hd] at h59 hall2
          simp -implicitDefEqProofs only [go_sem, ↓reduceIte, Int.reduceEq, Int.reduceLT, Int.reduceLE, List.reduceReplicate, intA, setT_nil, setT_cons, ↓boolP_bool, ↓iteB_true, ↓iteB_false, hlt, hw, hp1, hld, hb2, h58, h59, hpc, hcf, app47, hch.cells, hch.flat, hch.bound, hyf.cells, hyf.flat, hyf.bound, sizeP hMs, putP0 hMs, putP hMs, settleP0 hMs, settleP hMs, rowP0 hMs, rowP hMs, storeP0 hMs hlkM, storeP hMs hlkM, List.length_nil, List.length_cons, Nat.add_zero, Nat.zero_add]
          exact ⟨μ - 1, by omega, i + 1, [], _, by omega, hall2.symm, Nat.zero_le _, rfl, (hM.plus _).trim (by omega) (by rw [plus_size]; omega) _ _ (Nat.zero_le _)⟩
        | cons q r =>
          rw [hd] at h59 hall2 hdl
          have hf : fitsA 24 (r.length + 1) = true := by unfold fitsA; simp only [List.length_cons] at hdl; exact decide_eq_true (by omega)
          simp -implicitDefEqProofs only [go_sem, ↓reduceIte, Int.reduceEq, Int.reduceLT, Int.reduceLE, List.reduceReplicate, intA, setT_nil, setT_cons, ↓boolP_bool, ↓iteB_true, ↓iteB_false, hlt, hw, hp1, hld, hb2, h58, h59, hpc, hcf, hf, clP_bound, app47, hch.cells, hch.flat, hch.bound, hyf.cells, hyf.flat, hyf.bound, sizeP hMs, putP0 hMs, putP hMs, settleP0 hMs, settleP hMs, rowP0 hMs, rowP hMs, storeP0 hMs hlkM, storeP hMs hlkM, List.length_nil, Nat.add_zero, Nat.zero_add]
          exact ⟨μ - 1, by omega, i + 1, q :: r, _, by omega, hall2.symm, by simp only [List.length_cons] at hdl ⊢; omega, rfl, (hM.new hMs [some (.cells 0 0 53 1 false [.v (.int .i64 c.1), y]), some (.cells 0 0 32 3 true (clP (q :: r)))] 1 (q :: r) (by simp) rfl).trim (by omega) (by rw [plus_size]; omega) _ _ (le_boundL (by simp))⟩
      · cases hd : dbtL c.2 with
        | nil =>
          rw [hd, List.append_nil] at hall2
          rw [hd] at h59
          simp -implicitDefEqProofs only [go_sem, ↓reduceIte, Int.reduceEq, Int.reduceLT, Int.reduceLE, List.reduceReplicate, intA, setT_nil, setT_cons, ↓boolP_bool, ↓iteB_true, ↓iteB_false, hlt, hw, hp1, hld, hb2, h58, h59, hpc, hcf, app47, appTo_none, hch.cells, hch.flat, hch.bound, hyf.cells, hyf.flat, hyf.bound, sizeP hMs, putP0 hMs, putP hMs, settleP0 hMs, settleP hMs, rowP0 hMs, rowP hMs, storeP0 hMs hlkM, storeP hMs hlkM, List.length_nil, List.length_cons, Nat.add_zero, Nat.zero_add]
          exact ⟨μ - 1, by omega, i + 1, ps, _, by omega, hall2.symm, by omega, rfl, (hM.plus _).trim (by omega) (by rw [plus_size]; omega) _ _ (le_boundL (by simp))⟩
        | cons q r =>
          rw [hd] at h59 hall2 hdl
          have hlen : (q :: r).length = r.length + 1 := rfl
          have hf : fitsA 24 (ps.length + (r.length + 1)) = true := by unfold fitsA; exact decide_eq_true (by omega)
          have hrp : ∀ E, (H.plus E).row b v = some (0, 32, 3, true, clP ps) := fun E => by rw [rowLo hb3]; exact hrow
          have hmore := hM.more h0 hb1 hb3 (q :: r) (ps.length + (r.length + 1)) rfl
          simp -implicitDefEqProofs only [go_sem, ↓reduceIte, Int.reduceEq, Int.reduceLT, Int.reduceLE, List.reduceReplicate, intA, setT_nil, setT_cons, ↓boolP_bool, ↓iteB_true, ↓iteB_false, hlt, hw, hp1, hld, hb2, h58, h59, hpc, hcf, app47, hch.cells, hch.flat, hch.bound, hyf.cells, hyf.flat, hyf.bound, sizeP hMs, putP0 hMs, putP hMs, settleP0 hMs, settleP hMs, rowP0 hMs, rowP hMs, storeP0 hMs hlkM, storeP hMs hlkM, List.length_nil, List.length_cons, Nat.add_zero, Nat.zero_add]
          rw [appTo_own (m := 0) (e' := 32) (cs := clP ps) (hrp _) (by rw [clP_len]) (by show H.lock ≤ b; rw [hM.lock]; omega) hf (by omega) (by omega)]
          rw [putLo hb3, clP_bound, ← clP_append]
          change bindO (some (AV.sl b (v + 1) 0 (ps.length + (r.length + 1)) none, (H.put b (.cells (v + 1) 0 32 3 true (clP (ps ++ q :: r)))).plus _)) _
          have hNZ : (H.put b (.cells (v + 1) 0 32 3 true (clP (ps ++ q :: r)))).size = M := by rw [put_sizeI _ hb3]; exact hMs
          generalize H.put b (.cells (v + 1) 0 32 3 true (clP (ps ++ q :: r))) = Z at hmore hNZ ⊢
          simp -implicitDefEqProofs only [go_sem, ↓reduceIte, Int.reduceEq, Int.reduceLT, Int.reduceLE, List.reduceReplicate, intA, setT_nil, setT_cons, ↓boolP_bool, ↓iteB_true, ↓iteB_false, hw, sizeP hNZ, settleP0 hNZ, settleP hNZ]
          exact ⟨μ - 1, by omega, i + 1, ps ++ q :: r, _, by omega, hall2.symm, by rw [List.length_append, hlen]; simp only [hlen] at hdl; omega, rfl, (hmore.plus _).trim (by omega) (by rw [plus_size]; omega) _ _ (le_boundL (by simp))⟩
    · obtain rfl : i = cs.length := by omega
      rw [List.take_length] at hps
      rcases hM.done with ⟨h0, rfl⟩ | ⟨h0, b, v, hb1, hb3, rfl, hrow⟩
      · have hd : doubtL cs = [] := by unfold doubtL; rw [← hps, h0]; rfl
        have h60 := call60_nil
        simp -implicitDefEqProofs only [go_sem, ↓reduceIte, Int.reduceEq, Int.reduceLT, Int.reduceLE, List.reduceReplicate, intA, setT_nil, setT_cons, ↓boolP_bool, ↓iteB_true, ↓iteB_false, hlt, h60]
        rw [← hKK]
        show AV.tup [.v (.slice none 0 0), .v (.int .i64 0)] = AV.tup [plsV (doubtL cs), .v (.int .i64 0)]
        rw [hd]; rfl
      · have h60 := fun me d E => call60 (X := H.plus E) ps h0 (by omega) b v (by rw [plus_size]; omega) (by rw [rowLo hb3]; exact hrow) me d
        rw [← plus_nil H]
        simp -implicitDefEqProofs only [go_sem, ↓reduceIte, Int.reduceEq, Int.reduceLT, Int.reduceLE, List.reduceReplicate, intA, setT_nil, setT_cons, ↓boolP_bool, ↓iteB_true, ↓iteB_false, hlt, h60]
        rw [← hKK]
        show AV.tup [plsV (onceL (srtP ps)), .v (.int .i64 0)] = AV.tup [plsV (doubtL cs), .v (.int .i64 0)]
        unfold doubtL; rw [hps]
  · have hq : (X.plus [some (.cells 0 0 24 1 false [ch]), some (.cells 0 0 79 1 false [ch])]).size = N + 2 := by rw [sizeP hN]; rfl
    refine ⟨rfl, by rw [hq, hN]; exact Nat.le_refl _, fun b hb => plus_get _ hb, ?_, ?_, Or.inl ⟨rfl, rfl⟩⟩
    · rw [plus_get_hi _ (Nat.le_refl _), Nat.sub_self]; rfl
    · rw [plus_get_hi _ (by omega), show X.size + 1 - X.size = 1 by omega]; rfl
end Go.Ev
namespace Go.Ev
open Go.Proofs
set_option maxRecDepth 100000
set_option linter.unusedSimpArgs false
attribute [local irreducible] Wp WpS
set_option maxHeartbeats 2000000 in
/-- what read answers, Read answers of a copy that is one of the text -/
theorem ans25 {e : Exts} (he : Quiet e) (t : Txt) (ht : Fits t) (htx : textB t = true) (ch : AV) (xs : List AV) (hch : SlOf 2 xs ch) (hall : All2 ChapA t xs) (id : Int) (rs : List Rd) (x : AV) (hx : RdsA rs x) (h58 : Has58 e ch id x true) (ys : List AV) (o : AV) (ho : SlOf 2 ys o) (h55 : Ans (Cx e) 55 [.agg [ch], .agg [intA id, x]] (.agg [o])) : Ans (Cx e) 25 [.agg [ch], .agg [intA id, x]] (.tup [.agg [o], intA 0]) := by
  have h54 := call54 he t ht htx ch xs hch hall id rs x hx h58
  have hx : SlOf 5 (rs.map rdV) x := hx
  have hc55 : ∀ (me : FuncId) (d : Option Tmp) (H : Heap), callA (Cx e) (lim (Cx e)) me 55 d [.agg [ch], .agg [.v (.int .i64 id), x]] H = some (.agg [o], H) := fun me d H =>
    h55.call (ext_55 he) (pure_55 _ _ _) (by simp only [boundL_cons, bound_agg, hch.bound, intA, bound_v, hx.bound, boundL_nil]; rfl) H
  unfold Ans
  rw [fn_step (fn_25 e) (show Tryz.f25.body = some _ from rfl)]
  simp -implicitDefEqProofs only [Tryz.f25, go_sem, ↓reduceIte, Int.reduceEq, Int.reduceLT, Int.reduceLE, List.reduceReplicate, intA, setT_nil, setT_cons, ↓boolP_bool, ↓iteB_true, ↓iteB_false, hch.cells, hch.flat, hch.bound, hx.cells, hx.flat, hx.bound, h54, hc55, ho.cells, ho.flat, ho.bound]
  rcases ho with ⟨rfl, -⟩ | ⟨cap, rfl⟩ <;> rfl
end Go.Ev
namespace Go.Ev
open Go.Proofs
set_option maxRecDepth 100000
set_option linter.unusedSimpArgs false
attribute [local irreducible] Wp WpS
theorem trimP1 {X : Heap} {N : Nat} (hN : X.size = N) (o : Option AObj) (vs : List AV) (ms : List Nat) : (X.plus [o]).trim (N + 1) vs ms = X.plus [o] := by
  have : N + 1 = (X.plus [o]).size := by rw [sizeP hN]; rfl
  rw [this, trim_size]
theorem isAgg3 : isAggT Tryz.prog 3 = some false := by kernel_rfl
theorem size3 : sizeT Tryz.prog 3 = some 1 := by kernel_rfl
set_option maxHeartbeats 4000000 in
theorem fn69 {e : Exts} {X : Heap} {N : Nat} (hN : X.size = N) (lo hi : Int) (ns : List Int) (a : AV) (ha : SlH X (ns.map intA) a) (hn : ns.length < 2 ^ 63) : Fn' (Cx e) 69 [.agg [.v (.int .i64 lo), .v (.int .i64 hi)], a] X (fun v _ => v = .v (.bool (withinB lo hi ns))) := by
  rw [fn_step (fn_69 e) (show Tryz.f69.body = some _ from rfl)]
  rw [← plus_nil X]
  simp -implicitDefEqProofs only [Tryz.f69, go_sem, ↓reduceIte, Int.reduceEq, Int.reduceLT, Int.reduceLE, List.reduceReplicate, intA, setT_nil, setT_cons, ↓boolP_bool, ↓iteB_true, ↓iteB_false, ha.len, List.length_map, sizeP hN, putP0 hN, putP hN, settleP0 hN, settleP hN, List.length_nil, Nat.add_zero]
  refine Lp_rule (P := fun μ a' H => ∃ j, j + μ = ns.length ∧ a' = ⟨24, [(0, .agg [intA lo, intA hi]), (1, a), (2, .ptr N 0 0), (4, .v (.bool false)), (7, a), (8, intA ns.length), (9, intA j)], []⟩ ∧ X.plus [some (.cells 0 0 120 1 false [intA lo, intA hi])] = H ∧ withinB lo hi ns = withinB lo hi (ns.drop j)) ?_ ns.length _ _ ⟨0, by omega, rfl, rfl, rfl⟩
  rintro μ _ _ ⟨j, hj, rfl, rfl, ho⟩
  by_cases hlt : (j : Int) < (ns.length : Int)
  · obtain ⟨n, hr⟩ := at_lt ns j (by omega)
    have hw := wrap_succ j (by omega)
    obtain ⟨p, hp1, hp2, hp3⟩ := ha.get hN (show (ns.map intA)[j]? = some (intA n) by rw [List.getElem?_map, hr]; rfl) rfl .i64
    unfold intA at hp2
    rw [drop_eq_cons hr] at ho
    have hgo : withinB lo hi [n] = true → withinB lo hi ns = withinB lo hi (ns.drop (j + 1)) := fun h => by
      rw [ho]; unfold withinB at h ⊢; simp only [List.all_cons, List.all_nil, Bool.and_true] at h ⊢; rw [h, Bool.true_and]
    have hno : withinB lo hi [n] = false → withinB lo hi ns = false := fun h => by
      rw [ho]; unfold withinB at h ⊢; simp only [List.all_cons, List.all_nil, Bool.and_true] at h ⊢; rw [h, Bool.false_and]
    by_cases k1 : n < lo
    · have hf := hno (by unfold withinB; simp; omega)
      rw [hf]
      simp -implicitDefEqProofs only [go_sem, ↓reduceIte, Int.reduceEq, Int.reduceLT, Int.reduceLE, List.reduceReplicate, intA, setT_nil, setT_cons, ↓boolP_bool, ↓iteB_true, ↓iteB_false, hlt, hw, hp1, hp2 _ _ isAgg3 size3, k1, sizeP hN, rowP0 hN, rowP hN, settleP0 hN, settleP hN, List.length_nil, Nat.add_zero]
      rfl
    · by_cases k2 : hi < n
      · have hf := hno (by unfold withinB; simp; omega)
        rw [hf]
        simp -implicitDefEqProofs only [go_sem, ↓reduceIte, Int.reduceEq, Int.reduceLT, Int.reduceLE, List.reduceReplicate, intA, setT_nil, setT_cons, ↓boolP_bool, ↓iteB_true, ↓iteB_false, hlt, hw, hp1, hp2 _ _ isAgg3 size3, k1, k2, sizeP hN, rowP0 hN, rowP hN, settleP0 hN, settleP hN, List.length_nil, Nat.add_zero]
        rfl
      · have hf := hgo (by unfold withinB; simp; omega)
        simp -implicitDefEqProofs only [go_sem, ↓reduceIte, Int.reduceEq, Int.reduceLT, Int.reduceLE, List.reduceReplicate, intA, setT_nil, setT_cons, ↓boolP_bool, ↓iteB_true, ↓iteB_false, hlt, hw, hp1, hp2 _ _ isAgg3 size3, k1, k2, sizeP hN, rowP0 hN, rowP hN, settleP0 hN, settleP hN, List.length_nil, Nat.add_zero, trimP1 hN]
        exact ⟨μ - 1, by omega, j + 1, by omega, rfl, rfl, hf⟩
  · have hf : withinB lo hi ns = true := by rw [ho, show ns.drop j = [] from List.drop_eq_nil_of_le (by omega)]; rfl
    rw [hf]
    simp -implicitDefEqProofs only [go_sem, ↓reduceIte, Int.reduceEq, Int.reduceLT, Int.reduceLE, List.reduceReplicate, intA, setT_nil, setT_cons, ↓boolP_bool, ↓iteB_true, ↓iteB_false, hlt, sizeP hN, settleP0 hN, settleP hN, List.length_nil, Nat.add_zero, trimP1 hN]
    rfl
theorem callP69 {e : Exts} (he : Quiet e) {X : Heap} (lo hi : Int) (ns : List Int) (a : AV) (ha : SlH X (ns.map intA) a) (hn : ns.length < 2 ^ 63) (me : FuncId) (d : Option Tmp) : callA (Cx e) (lim (Cx e)) me 69 d [.agg [.v (.int .i64 lo), .v (.int .i64 hi)], a] X = some (.v (.bool (withinB lo hi ns)), X) := by
  refine callA_still (ext_69 he) (pure_69 _ _ _) ?_ (fun h0 => fn69 rfl lo hi ns a (ha.closed ?_ _) hn) (fn69 rfl lo hi ns a (ha.lock _) hn)
  · have : isYld (.agg [.v (.int .i64 lo), .v (.int .i64 hi)]) = false := rfl
    simp [ha.yld, this]
  · rw [boundL_cons, boundL_cons] at h0
    exact Nat.le_zero.1 (h0 ▸ Nat.le_trans (Nat.le_max_left _ _) (Nat.le_max_right _ _))
theorem fn82 {e : Exts} (he : Quiet e) {X : Heap} (ns : List Int) (a : AV) (ha : SlH X (ns.map intA) a) (hn : ns.length < 2 ^ 63) : Fn' (Cx e) 82 [a] X (fun v _ => v = .v (.bool (withinB 1 10 ns))) := by
  rw [fn_step (fn_82 e) (show Tryz.f82.body = some _ from rfl)]
  have hc := callP69 he 1 10 ns a ha hn
  simp -implicitDefEqProofs only [Tryz.f82, go_sem, ↓reduceIte, Int.reduceEq, Int.reduceLT, Int.reduceLE, List.reduceReplicate, intA, setT_nil, setT_cons, ↓boolP_bool, ↓iteB_true, ↓iteB_false, hc]
  rfl
theorem callP82 {e : Exts} (he : Quiet e) {X : Heap} (ns : List Int) (a : AV) (ha : SlH X (ns.map intA) a) (hn : ns.length < 2 ^ 63) (me : FuncId) (d : Option Tmp) : callA (Cx e) (lim (Cx e)) me 82 d [a] X = some (.v (.bool (withinB 1 10 ns)), X) := by
  refine callA_still (ext_82 he) (pure_82 _ _ _) ?_ (fun h0 => fn82 he ns a (ha.closed ?_ _) hn) (fn82 he ns a (ha.lock _) hn)
  · simp [ha.yld]
  · rw [boundL_cons] at h0
    exact Nat.le_zero.1 (h0 ▸ Nat.le_max_left _ _)
end Go.Ev
namespace Go.Ev
open Go.Proofs
set_option maxRecDepth 100000
set_option linter.unusedSimpArgs false
attribute [local irreducible] Wp WpS
/-! ### the lengths of the lines of a copy -/
def lenIt (x : List AV) : Int := match x with | [_, z] => ((slElems z).length : Int) | _ => 0
def lensOf (ys : List AV) : List Int := ys.flatMap fun y => (linesOf y).map fun z => ((slElems z).length : Int)
theorem lineIts_lens (i : Nat) : ∀ (k : Nat) (zs : List AV), (lineIts i k zs).map lenIt = zs.map fun z => ((slElems z).length : Int)
  | _, [] => rfl
  | k, z :: r => by
    show lenIt _ :: (lineIts i (k + 1) r).map lenIt = _
    rw [lineIts_lens i (k + 1) r]; rfl
theorem chapIts_lens : ∀ (i : Nat) (ys : List AV), (chapIts i ys).map lenIt = lensOf ys
  | _, [] => rfl
  | i, y :: r => by
    show (lineIts i 0 (linesOf y) ++ chapIts (i + 1) r).map lenIt = _
    rw [List.map_append, lineIts_lens, chapIts_lens (i + 1) r]; rfl
def stp58 (s : List Int) (x : List AV) : AExit × List Int := (.normal, s ++ [lenIt x])
/-- an item that is a place and a line -/
def Item58 (x : List AV) : Prop := ∃ p z els, x = [p, z] ∧ SlOf 1 els z
def ok58 (s : List Int) (x : List AV) : Prop := Item58 x ∧ s.length < 2 ^ 32
theorem run58 : ∀ (T : List (List AV)) (s : List Int), (∀ x ∈ T, Item58 x) → s.length + T.length ≤ 2 ^ 32 →
    okRun (fun s x => (isGo (stp58 s x).1, (stp58 s x).2)) ok58 T s ∧ foldE stp58 T s = (.normal, s ++ T.map lenIt)
  | [], s, _, _ => ⟨trivial, by simp [foldE]⟩
  | x :: r, s, h, hl => by
    have ih := run58 r (s ++ [lenIt x]) (fun z hz => h z (List.mem_cons_of_mem _ hz)) (by simp only [List.length_append, List.length_cons, List.length_nil] at hl ⊢; omega)
    refine ⟨⟨⟨h x (List.mem_cons_self ..), by simp only [List.length_cons] at hl; omega⟩, fun _ => ih.1⟩, ?_⟩
    rw [foldE_go rfl]
    show foldE stp58 r (s ++ [lenIt x]) = _
    rw [ih.2, List.map_cons, List.append_assoc]; rfl
/-- where the lengths lie -/
def L58 (s : List Int) (lv : AV) (m2 : Nat) (rows : Fm) : Prop := (s = [] ∧ lv = .v (.slice none 0 0) ∧ rows = []) ∨ ∃ b v, lv = .sl b v 0 s.length none ∧ 5 ≤ b ∧ b < m2 ∧ rows = [(b, .cells v 0 3 1 true (s.map intA))]
def base58 (ch : AV) (id : Int) (x lv : AV) (m2 : Nat) : Fm := [(0, .cells 0 0 79 1 false [ch]), (1, .cells 0 0 53 1 false [intA id, x]), (2, .cells 0 m2 133 1 false [lv])]
def R58 (ch : AV) (id : Int) (x : AV) (s : List Int) (m : Fm) : Prop := ∃ lv m2 rows, L58 s lv m2 rows ∧ m = base58 ch id x lv m2 ++ rows
theorem R58_anch {ch : AV} {id : Int} {x : AV} (s : List Int) (m : Fm) (h : R58 ch id x s m) : Anch 3 m := by
  obtain ⟨lv, m2, rows, hl, rfl⟩ := h
  rintro n hn ⟨p, hp, hnp⟩
  refine ⟨(2, .cells 0 m2 133 1 false [lv]), List.mem_append_left _ (by unfold base58; simp), by show 2 < n; omega, ?_⟩
  show n < m2
  rcases List.mem_append.1 hp with hp | hp
  · unfold base58 at hp
    simp only [List.mem_cons, List.not_mem_nil, or_false] at hp
    rcases hp with rfl | rfl | rfl <;> simp only at hnp <;> omega
  · rcases hl with ⟨-, -, rfl⟩ | ⟨b, v, -, h5, hb, rfl⟩
    · exact nomatch hp
    · rw [List.mem_singleton.1 hp] at hnp
      simp only at hnp; omega
theorem R58_free {ch : AV} {id : Int} {x : AV} (s : List Int) (m : Fm) (h : R58 ch id x s m) : ¬ keyIn 3 m ∧ ¬ keyIn 4 m := by
  obtain ⟨lv, m2, rows, hl, rfl⟩ := h
  have key : ∀ p ∈ base58 ch id x lv m2 ++ rows, p.1 ≠ 3 ∧ p.1 ≠ 4 := by
    intro p hp
    rcases List.mem_append.1 hp with hp | hp
    · unfold base58 at hp
      simp only [List.mem_cons, List.not_mem_nil, or_false] at hp
      rcases hp with rfl | rfl | rfl <;> exact ⟨by simp, by simp⟩
    · rcases hl with ⟨-, -, rfl⟩ | ⟨b, v, -, h5, hb, rfl⟩
      · exact nomatch hp
      · rw [List.mem_singleton.1 hp]
        exact ⟨by show b ≠ 3; omega, by show b ≠ 4; omega⟩
  exact ⟨fun ⟨p, hp, h⟩ => (key p hp).1 h, fun ⟨p, hp, h⟩ => (key p hp).2 h⟩
theorem fin58 {ch : AV} {id : Int} {x : AV} {s : List Int} {lv : AV} {m2 : Nat} {rows : Fm} {X Y W : Heap} {N : Nat} {L' : ALoop} (hXY : ∀ b, b ≠ 4 → Y.get b = X.get b) (hl4 : Y.get 4 = some (.loop L')) (hXN : X.size = N) (hlk : X.lock = 0) (hsz : 5 ≤ N)
    (hH : Has (base58 ch id x lv m2 ++ rows) Y) (n : Int) (b' v' m2' : Nat) (hW2 : W.get 2 = some (.cells 0 m2' 133 1 false [.sl b' v' 0 (s.length + 1) none])) (hWb : W.get b' = some (.cells v' 0 3 1 true ((s ++ [n]).map intA)))
    (hWo : ∀ b, b < N → b ≠ 2 → b ≠ b' → W.get b = Y.get b) (hWl : W.lock = 0) (hWs : N ≤ W.size) (h5 : 5 ≤ b') (hb : N ≤ b' ∨ keyIn b' rows) (hbm : b' < m2') :
    ∃ m', R58 ch id x (s ++ [n]) m' ∧ Has m' W ∧ loopObj W 4 = some L' ∧ Moves ((4, .loop L') :: (base58 ch id x lv m2 ++ rows)) X ((4, .loop L') :: m') W := by
  have hb0 : W.get 0 = some (.cells 0 0 79 1 false [ch]) := (hWo 0 (by omega) (by omega) (by omega)).trans (hH (0, _) (List.mem_append_left _ (by unfold base58; simp)))
  have hb1 : W.get 1 = some (.cells 0 0 53 1 false [intA id, x]) := (hWo 1 (by omega) (by omega) (by omega)).trans (hH (1, _) (List.mem_append_left _ (by unfold base58; simp)))
  have hb4 : W.get 4 = some (.loop L') := (hWo 4 (by omega) (by omega) (by omega)).trans hl4
  refine ⟨base58 ch id x (.sl b' v' 0 (s.length + 1) none) m2' ++ [(b', .cells v' 0 3 1 true ((s ++ [n]).map intA))], ⟨_, m2', _, Or.inr ⟨b', v', by rw [List.length_append]; rfl, h5, hbm, rfl⟩, rfl⟩, ?_, get_loopObj hb4, ⟨hWl.trans hlk.symm, by omega, ?_, ?_⟩⟩
  · intro p hp
    rcases List.mem_append.1 hp with hp | hp
    · unfold base58 at hp
      simp only [List.mem_cons, List.not_mem_nil, or_false] at hp
      rcases hp with rfl | rfl | rfl
      · exact hb0
      · exact hb1
      · exact hW2
    · rw [List.mem_singleton.1 hp]; exact hWb
  · intro b hbn hk
    have h4 : b ≠ 4 := fun h => hk ⟨_, List.mem_cons_self .., h.symm⟩
    have h2 : b ≠ 2 := fun h => hk ⟨(2, .cells 0 m2 133 1 false [lv]), List.mem_cons_of_mem _ (List.mem_append_left _ (by unfold base58; simp)), h.symm⟩
    have hbb : b ≠ b' := fun h => by
      rcases hb with hb | ⟨p, hp, he⟩
      · omega
      · exact hk ⟨p, List.mem_cons_of_mem _ (List.mem_append_right _ hp), by omega⟩
    rw [hWo b (by omega) h2 hbb, hXY b h4]
  · intro p hp
    rcases List.mem_cons.1 hp with rfl | hp
    · exact Or.inl ⟨_, List.mem_cons_self .., rfl⟩
    · rcases List.mem_append.1 hp with hp | hp
      · unfold base58 at hp
        simp only [List.mem_cons, List.not_mem_nil, or_false] at hp
        have hm : ∀ q ∈ base58 ch id x lv m2, keyIn q.1 ((4, AObj.loop L') :: (base58 ch id x lv m2 ++ rows)) := fun q hq => ⟨q, List.mem_cons_of_mem _ (List.mem_append_left _ hq), rfl⟩
        rcases hp with rfl | rfl | rfl
        · exact Or.inl (hm (0, .cells 0 0 79 1 false [ch]) (by unfold base58; simp))
        · exact Or.inl (hm (1, .cells 0 0 53 1 false [intA id, x]) (by unfold base58; simp))
        · exact Or.inl (hm (2, .cells 0 m2 133 1 false [lv]) (by unfold base58; simp))
      · rw [List.mem_singleton.1 hp]
        rcases hb with hb | ⟨q, hq, he⟩
        · exact Or.inr (by rw [hXN]; exact hb)
        · exact Or.inl ⟨q, List.mem_cons_of_mem _ (List.mem_append_right _ hq), he⟩
end Go.Ev
