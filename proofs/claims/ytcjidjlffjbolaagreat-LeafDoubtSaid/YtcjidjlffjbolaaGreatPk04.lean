/- What the proof of this claim stands on, part 5: an evaluator of the model, proved right, and what it answers for functions of the program. -/
import Derived.Test.YtcjidjlffjbolaaGreatPk03
set_option linter.unusedSimpArgs false
namespace Go.Ev
open Go.Proofs
set_option maxRecDepth 100000
set_option linter.unusedSimpArgs false
attribute [local irreducible] Wp WpS
def idOf (y : AV) : AV := match y with | .agg (i :: _) => i | _ => .v .nilFunc
def stAt (xs : List AV) (wf : Nat → Nat → AV) (i k : Nat) : St55 := xs.mapIdx fun t y => (idOf y, (List.range (if t < i then (linesOf y).length else if t = i then k else 0)).map (wf t))
theorem cells_set : ∀ {cs : List Cst} {i : Nat} {c0 : Cst}, cs[i]? = some c0 → ∀ (w : AV) (b v : Nat) {x : AV}, x = .sl b v 0 (c0.ls.length + 1) none →
    (cs.flatMap Cst.cells).take (i * 2 + 1) ++ [x] ++ (cs.flatMap Cst.cells).drop (i * 2 + 1 + 1) = (cs.set i ⟨c0.id, c0.ls ++ [w], b, v⟩).flatMap Cst.cells
  | [], _, _, h, _, _, _, _, _ => by simp at h
  | y :: r, 0, c0, h, w, b, v, x, hx => by
    simp at h; subst h; subst hx
    simp [Cst.cells, Cst.sl]
  | y :: r, i + 1, c0, h, w, b, v, x, hx => by
    have ih := cells_set (cs := r) (i := i) (c0 := c0) (by simpa using h) w b v hx
    rw [List.set_cons_succ, List.flatMap_cons, List.flatMap_cons, ← ih]
    rw [show (i + 1) * 2 + 1 = (i * 2 + 1) + 2 by omega]
    show (y.cells ++ _).take _ ++ [x] ++ (y.cells ++ _).drop _ = _
    simp [Cst.cells]
theorem ofV_bound (l : List Rd) : bound (ofV l) = 0 := by cases l <;> rfl
theorem storeLoK {X : Heap} {b v k m e sz : Nat} {g : Bool} {cs : List AV} {x : AV} (hb : b < X.size) (hlk : X.lock ≤ b) (hr : X.row b v = some (m, e, sz, g, cs)) (hx : k + 1 ≤ cs.length) (hf : x.flat = true) (E : List (Option AObj)) :
    storeCells (X.plus E) b v k [x] = some ((X.put b (.cells v (Nat.max m (bound x)) e sz g (splice k [x] cs))).plus E) := by
  unfold storeCells
  rw [rowLo hb, hr]
  have hl : (X.plus E).lock ≤ b := hlk
  have hbl : boundL [x] = bound x := by simp only [boundL]; exact Nat.max_zero _
  simp only [hl, hbl, List.length_singleton, hx, List.all_cons, List.all_nil, hf, Bool.and_true, and_self, if_true, putLo hb]
theorem cells_len : ∀ cs : List Cst, (cs.flatMap Cst.cells).length = 2 * cs.length
  | [] => rfl
  | c :: r => by rw [List.flatMap_cons, List.length_append, cells_len r]; simp [Cst.cells]; omega
theorem cells_get : ∀ {cs : List Cst} {i : Nat} {c : Cst}, cs[i]? = some c → (cs.flatMap Cst.cells)[2 * i + 1]? = some c.sl
  | [], _, _, h => by simp at h
  | x :: r, 0, c, h => by simp at h; subst h; rfl
  | x :: r, i + 1, c, h => by
    rw [List.flatMap_cons, show 2 * (i + 1) + 1 = (2 * i + 1) + 2 by omega, List.getElem?_append_right (by simp [Cst.cells])]
    simpa [Cst.cells] using cells_get (cs := r) (i := i) (by simpa using h)
def okP (xs : List AV) (s : St55) (x : List AV) : Prop := ∃ (i k : Nat) (y z : AV) (c : AV × List AV), xs[i]? = some y ∧ (linesOf y)[k]? = some z ∧ x = [placeA i k 0, z] ∧ s[i]? = some c ∧ c.2.length = k
theorem stAt_get (xs : List AV) (wf : Nat → Nat → AV) (i k t : Nat) : (stAt xs wf i k)[t]? = (xs[t]?).map fun y => (idOf y, (List.range (if t < i then (linesOf y).length else if t = i then k else 0)).map (wf t)) := by
  unfold stAt; rw [List.getElem?_mapIdx]
theorem stp_at {xs : List AV} {wf : Nat → Nat → AV} {i k : Nat} {y : AV} (hy : xs[i]? = some y) (z : AV) : stp55 wf (stAt xs wf i k) [placeA i k 0, z] = (.normal, stAt xs wf i (k + 1)) := by
  unfold stp55 placeA intA
  simp only [Int.toNat_natCast]
  congr 1
  apply List.ext_getElem?
  intro t
  rw [List.getElem?_modify, stAt_get, stAt_get]
  by_cases hti : i = t
  · subst hti; rw [hy]; simp [List.range_succ]
  · cases xs[t]? with
    | none => rfl
    | some w => simp [hti, show ¬ t = i from fun h => hti h.symm]
theorem stAt_next {xs : List AV} {wf : Nat → Nat → AV} {i : Nat} {y : AV} (hy : xs[i]? = some y) : stAt xs wf i (linesOf y).length = stAt xs wf (i + 1) 0 := by
  apply List.ext_getElem?
  intro t
  rw [stAt_get, stAt_get]
  rcases Nat.lt_trichotomy t i with h | h | h
  · simp [h, show t < i + 1 by omega]
  · subst h; rw [hy]; simp
  · cases xs[t]? with
    | none => rfl
    | some w => simp [show ¬ t < i by omega, show ¬ t = i by omega, show ¬ t < i + 1 by omega]
theorem run_line {xs : List AV} {wf : Nat → Nat → AV} {i : Nat} {y : AV} (hy : xs[i]? = some y) (T : List (List AV)) (F : AExit × St55)
    (h : okRun (fun s x => (isGo (stp55 wf s x).1, (stp55 wf s x).2)) (okP xs) T (stAt xs wf i (linesOf y).length) ∧ foldE (stp55 wf) T (stAt xs wf i (linesOf y).length) = F) :
    ∀ (r : List AV) (k : Nat), r = (linesOf y).drop k → k ≤ (linesOf y).length →
      okRun (fun s x => (isGo (stp55 wf s x).1, (stp55 wf s x).2)) (okP xs) (lineIts i k r ++ T) (stAt xs wf i k) ∧ foldE (stp55 wf) (lineIts i k r ++ T) (stAt xs wf i k) = F
  | [], k, hr, hk => by
    have : k = (linesOf y).length := by
      have := congrArg List.length hr
      rw [List.length_drop] at this; simp at this; omega
    subst this; exact h
  | x :: r, k, hr, hk => by
    have hlt : k < (linesOf y).length := by
      have := congrArg List.length hr
      rw [List.length_drop] at this; simp at this; omega
    have hx : (linesOf y)[k]? = some x := by
      rw [List.drop_eq_getElem_cons hlt] at hr
      rw [List.getElem?_eq_getElem hlt, (List.cons.inj hr).1]
    have hr' : r = (linesOf y).drop (k + 1) := by
      rw [List.drop_eq_getElem_cons hlt] at hr; exact (List.cons.inj hr).2
    have ih := run_line hy T F h r (k + 1) hr' hlt
    have hs := stp_at (k := k) (wf := wf) hy x
    refine ⟨⟨⟨i, k, y, x, _, hy, hx, rfl, by rw [stAt_get, hy]; rfl, by simp⟩, fun _ => ?_⟩, ?_⟩
    · show okRun _ _ (lineIts i (k + 1) r ++ T) (stp55 wf (stAt xs wf i k) [placeA i k 0, x]).2
      rw [hs]; exact ih.1
    · show foldE (stp55 wf) ([placeA i k 0, x] :: (lineIts i (k + 1) r ++ T)) _ = _
      rw [foldE_go (by rw [hs]), hs]; exact ih.2
theorem run_chap {xs : List AV} {wf : Nat → Nat → AV} : ∀ (r : List AV) (i : Nat), r = xs.drop i → i ≤ xs.length →
    okRun (fun s x => (isGo (stp55 wf s x).1, (stp55 wf s x).2)) (okP xs) (chapIts i r) (stAt xs wf i 0) ∧ foldE (stp55 wf) (chapIts i r) (stAt xs wf i 0) = (.normal, stAt xs wf xs.length 0)
  | [], i, hr, hi => by
    have : i = xs.length := by
      have := congrArg List.length hr
      rw [List.length_drop] at this; simp at this; omega
    subst this; exact ⟨trivial, rfl⟩
  | y :: r, i, hr, hi => by
    have hlt : i < xs.length := by
      have := congrArg List.length hr
      rw [List.length_drop] at this; simp at this; omega
    rw [List.drop_eq_getElem_cons hlt] at hr
    have hy : xs[i]? = some y := by rw [List.getElem?_eq_getElem hlt, (List.cons.inj hr).1]
    have ih := run_chap (wf := wf) r (i + 1) (List.cons.inj hr).2 hlt
    exact run_line hy (chapIts (i + 1) r) _ (by rw [stAt_next hy]; exact ih) (linesOf y) 0 rfl (Nat.zero_le _)
theorem chId_cs {xs : List AV} (hall : ∀ y ∈ xs, OkCh y) : xs.flatMap chId = (xs.map fun y => (⟨idOf y, [], 0, 0⟩ : Cst)).flatMap Cst.cells := by
  induction xs with
  | nil => rfl
  | cons y r ih =>
    obtain ⟨a, b, c, rfl, -⟩ := hall y (by simp)
    rw [List.flatMap_cons, List.map_cons, List.flatMap_cons, ← ih (fun z hz => hall z (by simp [hz]))]
    rfl
def lnOf (ls : List AV) : AV := if ls = [] then .v (.slice none 0 0) else .vs 1 ls none
def out55 (s : St55) : AV := .agg [.vs 2 (s.map fun c => .agg [c.1, lnOf c.2]) none]
theorem cs0_of {xs : List AV} (hall : ∀ y ∈ xs, OkCh y) (wf : Nat → Nat → AV) : Cs55 (stAt xs wf 0 0) (xs.map fun y => ⟨idOf y, [], 0, 0⟩) 0 := by
  refine ⟨?_, ?_, ?_, ?_, ?_⟩
  · apply List.ext_getElem?
    intro t
    rw [stAt_get, List.map_map, List.getElem?_map]
    cases xs[t]? with
    | none => rfl
    | some w => simp
  · intro c hc h
    obtain ⟨y, hy, rfl⟩ := List.mem_map.1 hc
    exact absurd rfl h
  · intro i j c c' hc _ h
    obtain ⟨y, hy, rfl⟩ := List.mem_map.1 (List.mem_of_getElem? hc)
    exact absurd rfl h
  · intro c hc
    obtain ⟨y, hy, rfl⟩ := List.mem_map.1 hc
    obtain ⟨a, b, d, rfl, -⟩ := hall y hy
    exact ⟨a, rfl⟩
  · intro c hc
    obtain ⟨y, hy, rfl⟩ := List.mem_map.1 hc
    exact ⟨rfl, rfl⟩
theorem rows0 (xs : List AV) : rowsC (xs.map fun y => (⟨idOf y, [], 0, 0⟩ : Cst)) = [] := by
  cases h : rowsC (xs.map fun y => (⟨idOf y, [], 0, 0⟩ : Cst)) with
  | nil => rfl
  | cons p r =>
    obtain ⟨c, hc, hne, -⟩ := rowsC_mem.1 (show p ∈ rowsC _ by rw [h]; simp)
    obtain ⟨y, hy, rfl⟩ := List.mem_map.1 hc
    exact absurd rfl hne
set_option maxHeartbeats 2000000 in
theorem ans55x {e : Exts} (he : Quiet e) (xs : List AV) (ch : AV) (hch : SlOf 2 xs ch) (hall : ∀ y ∈ xs, OkCh y) (hlen : xs.length < 2 ^ 32) (h1 : 1 ≤ xs.length) (id : Int) (l : List Rd) (rs : AV) (hrs : RdsA l rs) (hln : l.length < 2 ^ 32) (wf : Nat → Nat → AV) (hwf : ∀ (i k : Nat) (y z : AV), xs[i]? = some y → (linesOf y)[k]? = some z → Ans (Cx e) 76 [z, ofV (l.filter (atLine i k 0))] (wf i k)) (hwc : ∀ (i k : Nat), (wf i k).flat = true ∧ (wf i k).cells = [wf i k] ∧ bound (wf i k) = 0) (hll : ∀ y ∈ xs, (linesOf y).length < 2 ^ 32) (hlb : ∀ y ∈ xs, ∀ z ∈ linesOf y, bound z = 0) (hx1000 : xs.length ≤ 1000) : Ans (Cx e) 55 [.agg [ch], .agg [intA id, rs]] (out55 (stAt xs wf xs.length 0)) := by
  unfold Ans
  have hrs0 := hrs
  have hrs : SlOf 5 (l.map rdV) rs := hrs
  rw [fn_step (fn_55 e) (show Tryz.f55.body = some _ from rfl)]
  simp -implicitDefEqProofs only [Tryz.f55, go_sem, ↓reduceIte, Int.reduceEq, Int.reduceLT, Int.reduceLE, List.reduceReplicate, intA, setT_nil, setT_cons, hch.cells, hch.flat, hch.bound, hch.len, hrs.cells, hrs.flat, hrs.bound]
  refine Lp_rule (P := fun μ a X => ∃ j, j + μ = xs.length ∧ a = ⟨53, [(0, .agg [ch]), (1, .agg [intA id, rs]), (2, .ptr 0 0 0), (3, .ptr 1 0 0), (4, .ptr 2 0 0), (5, .ptr 3 0 0), (13, ch), (14, intA xs.length), (15, intA j)], []⟩ ∧
    ((j = 0 ∧ X = ⟨[o55 79 [ch], o55 53 [intA id, rs], o55 24 [.v (.slice none 0 0)], o55 24 [.v (.slice none 0 0)]], 0⟩) ∨ ∃ c4 v, 1 ≤ j ∧ X = ⟨[o55 79 [ch], o55 53 [intA id, rs], o55 24 [.v (.slice none 0 0)], some (.cells 0 6 24 1 false [.sl 5 v 0 j none]), some (.cells 0 0 46 1 false c4), some (.cells v 0 46 2 true ((xs.take j).flatMap chId))], 0⟩)) ?_ xs.length _ _ ?_
  · rintro μ _ X ⟨j, hj, rfl, hX⟩
    cases μ with
    | zero =>
      obtain rfl : j = xs.length := by omega
      rcases hX with ⟨h0, -⟩ | ⟨c4, v, hj1, rfl⟩
      · omega
      · simp -implicitDefEqProofs only [go_sem, ↓reduceIte, Int.reduceEq, Int.reduceLT, Int.reduceLE, List.reduceReplicate, intA, setT_nil, setT_cons, Int.lt_irrefl, call64 he ch xs hch, trim_at, hch.bound, hrs.bound, hch.cells, hch.flat]
        refine wp_range2 (yields2_88 ch xs hch hall (by omega)) rfl (R55 xs.length ch id rs c4 v) (stp55 wf) (fun s => s.length = xs.length) (okP xs) (n0 := 6) (k := 0) (Nat.le_refl _) (Nat.zero_le _) ?_ (fun s m h => R55_anch s m h) (fun s m h => R55_free s m h) ?_ ?_ (stAt xs wf 0 0) (base55 xs.length ch id rs c4 v 0 (xs.map fun y => ⟨idOf y, [], 0, 0⟩) ++ rowsC (xs.map fun y => ⟨idOf y, [], 0, 0⟩)) ?_ ?_ ?_ ?_ rfl ?_
        · intro x hx
          obtain ⟨i, y, j, z, -, -, rfl⟩ := chapIts_of _ _ _ hx
          rfl
        · intro s x hs hx _
          obtain ⟨i, k, y, z, c, -, -, rfl, -, -⟩ := hx
          unfold stp55 placeA intA
          simp only [List.length_modify]; exact hs
        · intro L L' s m x X hL hs hx hxl hR hH hd0 hl1 hlk hsz
          obtain ⟨i, k, y, z, c, hy, hz, rfl, hc, hck⟩ := hx
          obtain ⟨cs, m5, hcs, rfl⟩ := hR
          have hsz : 8 ≤ X.size := hsz
          have hl1 : loopObj X 7 = some L := hl1
          have hd0 : X.get 6 = some .dfr := hd0
          generalize hN : X.size = N at *
          have hlkN : X.lock ≤ N := by rw [hlk]; exact Nat.zero_le _
          rw [← plus_nil X]
          simp -implicitDefEqProofs only [placeA, intA, go_sem, ↓reduceIte, Int.reduceEq, Int.reduceLT, Int.reduceLE, List.reduceReplicate, intA, setT_nil, setT_cons, sizeP hN, putP0 hN, putP hN, settleP0 hN, settleP hN, rowP0 hN, rowP hN, storeP0 hN hlkN, storeP hN hlkN]
          refine ⟨rfl, ?_, ?_⟩
          · refine get_loopObj ?_
            rw [plus_get _ (by omega)]; exact loopObj_getI hl1
          · rw [putLo (by omega)]
            have hf := R55_free (n := xs.length) (chv := ch) (id := id) (rs := rs) (c4 := c4) (v5 := v) _ _ ⟨cs, m5, hcs, rfl⟩
            have hH7 := hH.put (.loop L') (b := 7) (by omega) hf.2
            have hN7 : (X.put 7 (.loop L')).size = N := by rw [put_sizeI _ (by omega)]; exact hN
            have hlk7 : (X.put 7 (.loop L')).lock = 0 := hlk
            have hl7 : (X.put 7 (.loop L')).get 7 = some (.loop L') := put_get_eq _ (by omega)
            have hsm7 : ∀ b, b ≠ 7 → (X.put 7 (.loop L')).get b = X.get b := fun b hb => put_get_ne _ (by omega) hb
            generalize X.put 7 (.loop L') = Y at *
            have hlkY : Y.lock ≤ N := by rw [hlk7]; exact Nat.zero_le _
            have h1' : Y.row 1 0 = some (0, 53, 1, false, [intA id, rs]) := get_row (hH7 (1, _) (List.mem_append_left _ (by unfold base55; simp)))
            have h3' : Y.row 3 0 = some (6, 24, 1, false, [.sl 5 v 0 xs.length none]) := get_row (hH7 (3, _) (List.mem_append_left _ (by unfold base55; simp)))
            have h5' : Y.row 5 v = some (m5, 46, 2, true, cs.flatMap Cst.cells) := get_row (hH7 (5, _) (List.mem_append_left _ (by unfold base55; simp)))
            have hi : i < xs.length := (List.getElem?_eq_some_iff.1 hy).1
            have hr1 : ∀ E, (Y.plus E).row 1 0 = some (0, 53, 1, false, [.v (.int .i64 id), rs]) := fun E => by rw [rowLo (by omega)]; exact h1'
            have hr3 : ∀ E, (Y.plus E).row 3 0 = some (6, 24, 1, false, [.sl 5 v 0 xs.length none]) := fun E => by rw [rowLo (by omega)]; exact h3'
            have hr5 : ∀ E, (Y.plus E).row 5 v = some (m5, 46, 2, true, cs.flatMap Cst.cells) := fun E => by rw [rowLo (by omega)]; exact h5'
            have hcl : ∃ c0, cs[i]? = some c0 ∧ c0.id = c.1 ∧ c0.ls = c.2 := by
              have := hcs.st
              rw [← this, List.getElem?_map] at hc
              cases h : cs[i]? with
              | none => rw [h] at hc; exact nomatch hc
              | some c0 => rw [h] at hc; simp only [Option.map_some, Option.some.injEq] at hc; exact ⟨c0, rfl, by rw [← hc], by rw [← hc]⟩
            obtain ⟨c0, hc0, hc1, hc2⟩ := hcl
            have hcell : (cs.flatMap Cst.cells)[2 * i + 1]? = some c0.sl := cells_get hc0
            have hclen : (cs.flatMap Cst.cells).length = 2 * cs.length := cells_len cs
            have hlen5 : cs.length = xs.length := by rw [← hs, ← hcs.st, List.length_map]
            have hii : (0 : Int) ≤ (i : Int) ∧ (i : Int) < ((xs.length : Nat) : Int) := by omega
            have hsx : slIdx 2 (.sl 5 v 0 xs.length none) (.v (.int .i64 (i : Int))) = some (.ptr 5 v (i * 2)) := by
              unfold slIdx
              simp [hii]
            have hcell : (cs.flatMap Cst.cells)[i * 2 + 1]? = some c0.sl := by rw [Nat.mul_comm]; exact hcell
            have hz0 : bound z = 0 := hlb y (List.mem_of_getElem? hy) z (List.mem_of_getElem? hz)
            have hc77 := fun d => (ans77 he l rs hrs0 (by omega) i k 0).callI (me := 55) (d := d) (ext_77 he) (pure_77 _ _ _) (by simp only [boundL_cons, hrs.bound, boundL_nil, intA, bound_agg, bound_v]; rfl)
            have hc76 := fun d => (hwf i k y z hy hz).callI (me := 55) (d := d) (ext_76 he) (pure_76 _ _ _) (by simp only [boundL_cons, hz0, boundL_nil, ofV_bound]; rfl)
            simp only [intA] at hc77
            simp -implicitDefEqProofs only [go_sem, ↓reduceIte, Int.reduceEq, Int.reduceLT, Int.reduceLE, List.reduceReplicate, intA, setT_nil, setT_cons, sizeP hN7, putP0 hN7, putP hN7, settleP0 hN7, settleP hN7, rowP0 hN7, rowP hN7, storeP0 hN7 hlkY, storeP hN7 hlkY, hr1, hr3, hr5, hsx]
            refine wp_drawX [([], [], false), ([], [], false), ([], [], false), ([], [], false), ([], [], false), ([], [], false), ([], [], false), ([4], [], false), ([4, 7], [], false), ([4], [], false), ([4], [], false), ([4], [], false), ([], [11], false), ([], [], false), ([], [], false), ([], [11, 12], false)] (by kernel_rfl) (by kernel_rfl) ?_
            have hnc : nilCk (.ptr 5 v (i * 2)) = some (.ptr 5 v (i * 2)) := rfl
            have hwq := hwc i k
            have hq0 : ltB 5 (N + 1) = true := by unfold ltB; simp; omega
            have hq1 : ltB 0 N = true := by unfold ltB; simp; omega
            have hq2 : ltB N (N + 1) = true := by unfold ltB; simp
            have hq3 : ltB 1 (N + 1) = true := by unfold ltB; simp; omega
            have hq4 : ltB 3 (N + 1) = true := by unfold ltB; simp; omega
            have hfit : fitsA 24 1 = true := by decide
            have hst := fun (x : AV) (hx : x.flat = true) E => storeLoK (X := Y) (b := 5) (v := v) (k := i * 2 + 1) (x := x) (by omega) (by omega) h5' (by rw [hclen]; omega) hx E
            have hst := fun b' v' l' c' E => hst (.sl b' v' 0 l' c') rfl E
            have n13 : N + 1 + 12 = N + 13 := rfl
            by_cases hne : c0.ls = []
            · have hslv : c0.sl = .v (.slice none 0 0) := by unfold Cst.sl; rw [if_pos hne]
              rw [hslv] at hcell
              simp -implicitDefEqProofs only [go_sem, ↓reduceIte, Int.reduceEq, Int.reduceLT, Int.reduceLE, List.reduceReplicate, intA, setT_nil, setT_cons, sizeP hN7, putP0 hN7, putP hN7, settleP0 hN7, settleP hN7, rowP0 hN7, rowP hN7, storeP0 hN7 hlkY, storeP hN7 hlkY, hr1, hr3, hr5, hcell, hc77, hc76, hrs.cells, hrs.flat, hrs.bound, hnc, hwq.1, hwq.2.1, hwq.2.2, hq0, hq1, hq2, hq3, hq4, hfit, hst, List.flatMap_cons, List.flatMap_nil, n13]
              have hmm : ∀ (m5' : Nat), m5' = (if m5 ≤ bound (AV.sl (N + 13) 0 0 1 none) then bound (AV.sl (N + 13) 0 0 1 none) else m5) → N + 13 < m5' ∧ m5 ≤ m5' := fun m5' h => by
                rw [bound_sl] at h; subst h; split <;> omega
              generalize hM5 : (if m5 ≤ bound (AV.sl (N + 13) 0 0 1 none) then bound (AV.sl (N + 13) 0 0 1 none) else m5) = m5' at *
              have hmm := hmm m5' rfl
              have hci := (List.getElem?_eq_some_iff.1 hc0).1
              have hcset : (cs.flatMap Cst.cells).take (i * 2 + 1) ++ [AV.sl (N + 13) 0 0 1 none] ++ (cs.flatMap Cst.cells).drop (i * 2 + 1 + 1) = (cs.set i ⟨c0.id, c0.ls ++ [wf i k], N + 13, 0⟩).flatMap Cst.cells := by
                exact cells_set hc0 (wf i k) (N + 13) 0 (by rw [hne]; rfl)
              rw [hcset]
              have hYN5 : (Y.put 5 (.cells v m5' 46 2 true ((cs.set i ⟨c0.id, c0.ls ++ [wf i k], N + 13, 0⟩).flatMap Cst.cells))).size = N := by rw [put_sizeI _ (by omega)]; exact hN7
              have hstp : stp55 wf s [.agg [.v (.int .i64 (i : Int)), .v (.int .i64 (k : Int)), .v (.int .i64 0)], z] = (.normal, s.modify i fun c => (c.1, c.2 ++ [wf i k])) := by
                unfold stp55; simp only [Int.toNat_natCast]
              rw [hstp, plus_nil]
              refine ⟨rfl, ?_⟩
              refine fin55 hsm7 hl7 hN hN7 hlk hsz hH7 hcs hc0 (N + 13) 0 m5' (wf i k) ⟨hwq.1, hwq.2.2⟩ ?_ ?_ ?_ ?_ ?_ (Or.inl ⟨hne, by omega⟩) hmm.2 hmm.1
              · rw [settle_lo (by omega), plus_get _ (by omega)]; exact put_get_eq _ (by omega)
              · refine settle_some ?_
                rw [plus_get_hi _ (by omega), hYN5, show N + 13 - N = 13 by omega, hne]; rfl
              · intro b hb h5 _
                rw [settle_lo (by omega), plus_get _ (by omega), put_get_ne _ (by omega) h5]
              · rw [settle_lock]; exact hlk7
              · have := settle_size' (n := N + 1) (H := (Y.put 5 (.cells v m5' 46 2 true ((cs.set i ⟨c0.id, c0.ls ++ [wf i k], N + 13, 0⟩).flatMap Cst.cells))).plus [some (.cells 0 0 32 1 false [.v (.int .i64 (i : Int)), .v (.int .i64 (k : Int)), .v (.int .i64 0)]), none, none, none, none, none, none, none, none, none, none, none, none, some (.cells 0 0 41 1 true [wf i k]), none, none, none]) (by rw [plus_size, hYN5]; simp)
                omega
            · have hslv : c0.sl = .sl c0.b c0.v 0 c0.ls.length none := by unfold Cst.sl; rw [if_neg hne]
              rw [hslv] at hcell
              have hcm := List.mem_of_getElem? hc0
              have hlo := hcs.lo c0 hcm hne
              have hgb : Y.get c0.b = some (.cells c0.v 0 41 1 true c0.ls) := hH7 _ (List.mem_append_right _ (rowsC_mem.2 ⟨c0, hcm, hne, rfl⟩))
              have hbN : c0.b < N := by have := get_ltS hgb; omega
              have hrb : ∀ E, (Y.plus E).row c0.b c0.v = some (0, 41, 1, true, c0.ls) := fun E => by rw [rowLo (by omega)]; exact get_row hgb
              have hkl : c0.ls.length < 2 ^ 32 := by
                have h1 := (List.getElem?_eq_some_iff.1 hz).1
                have h2 := hll y (List.mem_of_getElem? hy)
                rw [hc2, hck]; omega
              have happ := fun E slot => appTo_own (H := Y.plus E) (slot := slot) (e := 41) (sz := 1) (b' := 24) (n := 1) (new := [wf i k]) (hrb E) (Nat.mul_one _) (by show Y.lock ≤ _; omega) (by unfold fitsA; exact decide_eq_true (by omega)) (by omega) (by omega)
              have hpl := fun E o => putLo (X := Y) (b := c0.b) (by omega) E o
              have hq5 : ltB c0.b (N + 1) = true := by unfold ltB; simp; omega
              have hsto := fun o (x : AV) (hx : x.flat = true) E => storeLoK (X := Y.put c0.b o) (b := 5) (v := v) (k := i * 2 + 1) (x := x) (by rw [put_sizeI _ (by omega)]; omega) (by show Y.lock ≤ 5; omega) (get_row ((put_get_ne o (by omega) (by omega)).trans (row_of_get h5'))) (by rw [hclen]; omega) hx E
              have hsto := fun o b' v' l' c' E => hsto o (.sl b' v' 0 l' c') rfl E
              simp -implicitDefEqProofs only [go_sem, ↓reduceIte, Int.reduceEq, Int.reduceLT, Int.reduceLE, List.reduceReplicate, intA, setT_nil, setT_cons, sizeP hN7, putP0 hN7, putP hN7, settleP0 hN7, settleP hN7, rowP0 hN7, rowP hN7, storeP0 hN7 hlkY, storeP hN7 hlkY, hr1, hr3, hr5, hcell, hc77, hc76, hrs.cells, hrs.flat, hrs.bound, hnc, hwq.1, hwq.2.1, hwq.2.2, hq0, hq1, hq2, hq3, hq4, hq5, hfit, hst, List.flatMap_cons, List.flatMap_nil, n13, happ, hpl, hsto]
              have hm5 : (if m5 ≤ bound (AV.sl c0.b (c0.v + 1) 0 (c0.ls.length + 1) none) then bound (AV.sl c0.b (c0.v + 1) 0 (c0.ls.length + 1) none) else m5) = m5 := by
                rw [bound_sl]; split <;> omega
              have hcset := cells_set hc0 (wf i k) c0.b (c0.v + 1) rfl
              rw [hm5, hcset]
              have hs1 : (Y.put c0.b (.cells (c0.v + 1) 0 41 1 true (c0.ls ++ [wf i k]))).size = N := by rw [put_sizeI _ (by omega)]; exact hN7
              have hYN5 : ((Y.put c0.b (.cells (c0.v + 1) 0 41 1 true (c0.ls ++ [wf i k]))).put 5 (.cells v m5 46 2 true ((cs.set i ⟨c0.id, c0.ls ++ [wf i k], c0.b, c0.v + 1⟩).flatMap Cst.cells))).size = N := by rw [put_sizeI _ (by omega)]; exact hs1
              have hstp : stp55 wf s [.agg [.v (.int .i64 (i : Int)), .v (.int .i64 (k : Int)), .v (.int .i64 0)], z] = (.normal, s.modify i fun c => (c.1, c.2 ++ [wf i k])) := by
                unfold stp55; simp only [Int.toNat_natCast]
              rw [hstp, plus_nil]
              refine ⟨rfl, ?_⟩
              refine fin55 hsm7 hl7 hN hN7 hlk hsz hH7 hcs hc0 c0.b (c0.v + 1) m5 (wf i k) ⟨hwq.1, hwq.2.2⟩ ?_ ?_ ?_ ?_ ?_ (Or.inr ⟨hne, rfl⟩) (Nat.le_refl _) hlo.2
              · rw [settle_lo (by omega), plus_get _ (by omega)]; exact put_get_eq _ (by omega)
              · rw [settle_lo (by omega), plus_get _ (by omega), put_get_ne _ (by omega) (by omega)]; exact put_get_eq _ (by omega)
              · intro b hb h5 hbb
                rw [settle_lo (by omega), plus_get _ (by omega), put_get_ne _ (by omega) h5, put_get_ne _ (by omega) hbb]
              · rw [settle_lock]; exact hlk7
              · have := settle_size' (n := N + 1) (H := ((Y.put c0.b (.cells (c0.v + 1) 0 41 1 true (c0.ls ++ [wf i k]))).put 5 (.cells v m5 46 2 true ((cs.set i ⟨c0.id, c0.ls ++ [wf i k], c0.b, c0.v + 1⟩).flatMap Cst.cells))).plus [some (.cells 0 0 32 1 false [.v (.int .i64 (i : Int)), .v (.int .i64 (k : Int)), .v (.int .i64 0)]), none, none, none, none, none, none, none, none, none, none, none, none, none, none, none, none]) (by rw [plus_size, hYN5]; simp)
                omega
        · exact (run_chap (wf := wf) xs 0 rfl (Nat.zero_le _)).1
        · unfold stAt; rw [List.length_mapIdx]
        · exact ⟨_, 0, cs0_of hall wf, rfl⟩
        · rw [rows0, List.append_nil]
          intro p hp
          have hcc := chId_cs hall
          rcases base55_lt hp with h | rfl
          · unfold base55 at hp
            simp only [List.mem_cons, List.not_mem_nil, or_false] at hp
            rcases hp with rfl | rfl | rfl | rfl | rfl | rfl
            · rfl
            · rfl
            · rfl
            · rfl
            · rfl
            · simp at h
          · rw [← hcc]; rfl
        · intro m' X hR hH hd0 hd1 hmv hsz
          rw [(run_chap (wf := wf) xs 0 rfl (Nat.zero_le _)).2] at hR ⊢
          obtain ⟨cs, m5, hcs, rfl⟩ := hR
          have hsz : 8 ≤ X.size := hsz
          have hd0 : X.get 6 = some .dfr := hd0
          generalize hN : X.size = N at *
          have hlk : X.lock = 0 := hmv.lock
          have hlkN : X.lock ≤ N := by rw [hlk]; exact Nat.zero_le _
          have h2 : ∀ E, (X.plus E).row 2 0 = some (0, 24, 1, false, [.v (.slice none 0 0)]) := fun E => by rw [rowLo (by omega)]; exact get_row (hH (2, _) (List.mem_append_left _ (by unfold base55; simp)))
          have h3 : ∀ E, (X.plus E).row 3 0 = some (6, 24, 1, false, [.sl 5 v 0 xs.length none]) := fun E => by rw [rowLo (by omega)]; exact get_row (hH (3, _) (List.mem_append_left _ (by unfold base55; simp)))
          have hst := fun (x : AV) (hx : x.flat = true) E => storeLo (X := X) (b := 2) (m := 0) (e := 24) (sz := 1) (g := false) (cs := [.v (.slice none 0 0)]) (xs := [x]) (by omega) (by omega) (by have := h2 []; rwa [plus_nil] at this) rfl (by simp [hx]) E
          have hst := fun b' v' l' c' E => hst (.sl b' v' 0 l' c') rfl E
          rw [← plus_nil X]
          simp -implicitDefEqProofs only [go_sem, ↓reduceIte, Int.reduceEq, Int.reduceLT, Int.reduceLE, List.reduceReplicate, intA, setT_nil, setT_cons, sizeP hN, putP0 hN, putP hN, settleP0 hN, settleP hN, rowP0 hN, rowP hN, storeP0 hN hlkN, storeP hN hlkN, h2, h3, hst]
          generalize hW : settleH N _ = W
          have hwl : W.lock = 0 := by rw [← hW, settle_lock]; exact hlk
          have hwg : ∀ b, b < N → b ≠ 2 → W.get b = X.get b := fun b hb h2 => by
            rw [← hW, settle_lo hb, plus_nil, put_get_ne _ (by omega) h2]
          have hws : N ≤ W.size := by
            rw [← hW]
            refine settle_size' ?_
            rw [plus_nil, put_sizeI _ (by omega)]; omega
          have hw2 : ∃ mm, W.get 2 = some (.cells 0 mm 24 1 false [.sl 5 v 0 xs.length none]) := by
            rw [← hW, settle_lo (by omega), plus_nil]; exact ⟨_, put_get_eq _ (by omega)⟩
          obtain ⟨mm, hw2⟩ := hw2
          have hkill : killAll [6] W = some (W.put 6 .dead) := by
            unfold killAll
            rw [hwg 6 (by omega) (by omega), hd0]
            show (if W.lock ≤ 6 then killAll [] (W.put 6 .dead) else none) = _
            rw [if_pos (by omega)]; rfl
          have hg : ∀ b, b < N → b ≠ 2 → b ≠ 6 → (W.put 6 .dead).get b = X.get b := fun b hb h2 h6 => by
            rw [put_get_ne _ (by omega) h6, hwg b hb h2]
          have hr2 : (W.put 6 .dead).row 2 0 = some (mm, 24, 1, false, [.sl 5 v 0 xs.length none]) := get_row ((put_get_ne _ (by omega) (by omega)).trans hw2)
          have hk6 : (W.put 6 .dead).lock = 0 := hwl
          have hcl : cs.length = xs.length := by
            have := congrArg List.length hcs.st
            rw [List.length_map] at this; rw [this]; unfold stAt; rw [List.length_mapIdx]
          have hr5 : (W.put 6 .dead).row 5 v = some (m5, 46, 2, true, cs.flatMap Cst.cells) := get_row ((hg 5 (by omega) (by omega) (by omega)).trans (hH (5, _) (List.mem_append_left _ base55_five)))
          have hrc : ∀ c ∈ cs, c.ls ≠ [] → (W.put 6 .dead).row c.b c.v = some (0, 41, 1, true, c.ls) := fun c hc hne => by
            have h1 := hH _ (List.mem_append_right _ (rowsC_mem.2 ⟨c, hc, hne, rfl⟩))
            have h2 := hcs.lo c hc hne
            have h3 := get_ltS h1
            simp only at h1 h3
            exact get_row ((hg c.b (by omega) (by omega) (by omega)).trans h1)
          rw [hkill]
          generalize W.put 6 .dead = V at *
          have hfin := freeze_copied hk6 hcs hr5 hrc (by omega)
          rw [hcl] at hfin
          have hout : (AV.agg [.vs 2 (cs.map fun c => .agg [c.id, c.fz]) none]) = out55 (stAt xs wf xs.length 0) := by
            have hst := hcs.st; simp only at hst; unfold out55; rw [← hst, List.map_map]; rfl
          rw [hout] at hfin
          simp -implicitDefEqProofs only [go_sem, ↓reduceIte, Int.reduceEq, Int.reduceLT, Int.reduceLE, List.reduceReplicate, intA, setT_nil, setT_cons, hr2]
          show freezeV { V with lock := 0 } 1000000 _ = _
          have hV : ({ V with lock := 0 } : Heap) = V := by cases V; simp only at hk6; subst hk6; rfl
          rw [hV]; exact hfin
    | succ μ =>
      obtain ⟨y, hy⟩ := at_lt xs j (by omega)
      obtain ⟨cid, l0, lxs, rfl, hl0, hlc, hll⟩ := hall y (List.mem_of_getElem? hy)
      have hlt : (j : Int) < ((xs.length : Nat) : Int) := by omega
      have hw := wrap_succ j (by omega)
      have hix := hch.idx hy
      have ht : (xs.take (j + 1)).flatMap chId = (xs.take j).flatMap chId ++ [intA cid, .v (.slice none 0 0)] := by
        rw [List.take_add_one, hy, List.flatMap_append]; rfl
      have hcl : ((xs.take j).flatMap chId).length = j * 2 := by
        rw [chId_len (fun y hy => by obtain ⟨a, b, c, h, -⟩ := hall y (List.mem_of_mem_take hy); exact ⟨_, _, h⟩), List.length_take]; omega
      have hcb : boundL ((xs.take j).flatMap chId) = 0 := chId_bound (fun y hy => by obtain ⟨a, b, c, h, -⟩ := hall y (List.mem_of_mem_take hy); exact ⟨_, _, h⟩)
      have hf1 : fitsA 32 1 = true := by decide
      rcases hX with ⟨rfl, rfl⟩ | ⟨c4, v, hj1, rfl⟩
      · simp -implicitDefEqProofs only [go_sem, ↓reduceIte, Int.reduceEq, Int.reduceLT, Int.reduceLE, List.reduceReplicate, intA, setT_nil, setT_cons, hlt, hw, hix, hl0.cells, hl0.flat, hl0.bound, List.flatMap_cons, List.flatMap_nil, hf1, bound_sl]
        rw [trim_no4 _ _ 4 3 _ _ _ rfl (by omega) (by show 4 < 6; omega)]
        refine ⟨μ, by omega, 1, by omega, rfl, Or.inr ⟨[intA cid, l0], 0, by omega, ?_⟩⟩
        rw [ht]; rfl
      · simp -implicitDefEqProofs only [go_sem, ↓reduceIte, Int.reduceEq, Int.reduceLT, Int.reduceLE, List.reduceReplicate, intA, setT_nil, setT_cons, hlt, hw, hix, hl0.cells, hl0.flat, hl0.bound, List.flatMap_cons, List.flatMap_nil]
        rw [appTo_own (m := 0) (e' := 46) (cs := (xs.take j).flatMap chId) (by simp [Heap.row, Heap.get]) hcl.symm (Nat.zero_le _) (by unfold fitsA; exact decide_eq_true (by omega)) (by omega) (by omega)]
        simp -implicitDefEqProofs only [go_sem, ↓reduceIte, Int.reduceEq, Int.reduceLT, Int.reduceLE, List.reduceReplicate, intA, setT_nil, setT_cons, bound_sl, trim_at, hch.bound, hrs.bound]
        exact ⟨μ, by omega, j + 1, by omega, rfl, Or.inr ⟨_, v + 1, by omega, by rw [ht]; rfl⟩⟩
  · exact ⟨0, by omega, rfl, Or.inl ⟨rfl, rfl⟩⟩
end Go.Ev
namespace Go.Ev
open Go.Proofs
set_option maxRecDepth 100000
set_option linter.unusedSimpArgs false
attribute [local irreducible] Wp WpS
/-! ### slices that are closed, or lie in memory -/
def SlH (X : Heap) (xs : List AV) (x : AV) : Prop := SlOf 1 xs x ∨ ∃ b v cap m e g cs, x = .sl b v 0 xs.length cap ∧ b < X.size ∧ X.row b v = some (m, e, 1, g, cs) ∧ cs.take xs.length = xs ∧ xs.length ≤ cs.length
theorem SlH.len {X : Heap} {xs : List AV} {x : AV} (h : SlH X xs x) : slLen x = some (.v (.int .i64 xs.length)) := by
  rcases h with h | ⟨b, v, cap, m, e, g, cs, rfl, -⟩
  · exact h.len
  · rfl
theorem SlH.get {X : Heap} {N : Nat} (hN : X.size = N) {xs : List AV} {x : AV} (h : SlH X xs x) {i : Nat} {z : AV} (hz : xs[i]? = some z) (hzc : z.cells = [z]) (k : IntKind) :
    ∃ p, slIdx 1 x (.v (.int k (i : Int))) = some p ∧ (∀ (t : TypeId) E, isAggT Tryz.prog t = some false → sizeT Tryz.prog t = some 1 → loadA Tryz.prog (X.plus E) t p = some z) ∧ ∀ top, N ≤ top → (objsOf p).all (fun c => ltB c top) = true := by
  have hi := (List.getElem?_eq_some_iff.1 hz).1
  rcases h with h | ⟨b, v, cap, m, e, g, cs, rfl, hb, hr, ht, hl⟩
  · refine ⟨.ro z 0, h.idx hz k, fun t E ha hs => ?_, fun _ _ => rfl⟩
    unfold loadA partOf
    rw [ha, hs]
    show z.cells[0]? = some z
    rw [hzc]; rfl
  · refine ⟨.ptr b v (0 + i * 1), ?_, fun t E ha hs => ?_, fun top h => ?_⟩
    · unfold slIdx
      simp; omega
    · have hrow : (X.plus E).row b v = some (m, e, 1, g, cs) := by rw [rowLo hb, hr]
      unfold loadA
      simp only [hrow]
      unfold partOf
      rw [ha, hs]
      simp only
      rw [Nat.zero_add, Nat.mul_one, ← List.getElem?_take_of_lt (j := xs.length) hi, ht, hz]
    · simp only [objsOf, List.all_cons, List.all_nil, Bool.and_true]
      unfold ltB
      simp; omega
theorem SlH.lock {X : Heap} {xs : List AV} {x : AV} (h : SlH X xs x) (k : Nat) : SlH { X with lock := k } xs x := by
  rcases h with h | ⟨b, v, cap, m, e, g, cs, rfl, hb, hr, ht⟩
  · exact Or.inl h
  · exact Or.inr ⟨b, v, cap, m, e, g, cs, rfl, hb, hr, ht⟩
theorem SlH.closed {X : Heap} {xs : List AV} {x : AV} (h : SlH X xs x) (hb : bound x = 0) (Y : Heap) : SlH Y xs x := by
  rcases h with h | ⟨b, v, cap, m, e, g, cs, rfl, -⟩
  · exact Or.inl h
  · simp [bound] at hb
theorem SlH.yld {X : Heap} {xs : List AV} {x : AV} (h : SlH X xs x) : isYld x = false := by
  rcases h with h | ⟨b, v, cap, m, e, g, cs, rfl, -⟩
  · rcases h with ⟨rfl, _⟩ | ⟨c, rfl⟩ <;> rfl
  · rfl
/-- a call that hands back what is no address, on memory that it leaves -/
theorem callA_still {C : Cfg} {me f : FuncId} {d : Option Tmp} {args : List AV} {X : Heap} {w : Value} (hx : C.ext f = none) (hp : C.pure me f d = true) (hy : args.any isYld = false)
    (h1 : boundL args = 0 → Fn' C f args { objs := [], lock := 0 } (fun v _ => v = .v w)) (h2 : Fn' C f args { X with lock := X.size } (fun v _ => v = .v w)) : callA C (lim C) me f d args X = some (.v w, X) := by
  unfold callA callB callKind
  rw [hx]
  simp only [hp, if_true]
  by_cases hb : boundL args = 0
  · have h1 := h1 hb
    unfold Fn' at h1
    rw [bindO_iff] at h1
    obtain ⟨o, h3, h4⟩ := h1
    rw [if_pos (by rw [hb]; rfl)]
    cases o with
    | ret v H => obtain rfl : v = .v w := h4; simp only [h3]; rfl
    | _ => exact h4.elim
  · unfold Fn' at h2
    rw [bindO_iff] at h2
    obtain ⟨o, h3, h4⟩ := h2
    rw [if_neg (fun h => hb (Nat.eq_of_beq_eq_true h)), hy]
    simp only [Bool.false_eq_true, if_false]
    cases o with
    | ret v H => obtain rfl : v = .v w := h4; simp only [h3]; rfl
    | _ => exact h4.elim
end Go.Ev
namespace Go.Ev
open Go.Proofs
set_option maxRecDepth 100000
set_option linter.unusedSimpArgs false
attribute [local irreducible] Wp WpS
theorem drop_eq_cons {α : Type} {xs : List α} {j : Nat} {x : α} (h : xs[j]? = some x) : xs.drop j = x :: xs.drop (j + 1) := by
  obtain ⟨hj, rfl⟩ := List.getElem?_eq_some_iff.1 h
  exact List.drop_eq_getElem_cons hj
theorem trimP0 {X : Heap} {N : Nat} (hN : X.size = N) (vs : List AV) (ms : List Nat) : (X.plus []).trim N vs ms = X.plus [] := by rw [plus_nil, ← hN, trim_size]
theorem isAgg9 : isAggT Tryz.prog 9 = some false := by kernel_rfl
end Go.Ev
namespace Go.Ev
open Go.Proofs Go.Sort
set_option maxRecDepth 100000
set_option linter.unusedSimpArgs false
attribute [local irreducible] Wp WpS
@[go_sem] theorem keepS_9 : Cs.keep 9 = [0, 3, 1, 7, 38, 42, 41, 43, 40, 9, 49, 11, 13, 12, 72, 2, 14, 15, 17, 93, 96, 95, 97, 94, 21, 23, 108, 18, 22, 16, 10, 118, 117, 119, 116, 25, 24, 140, 19, 6] := rfl
theorem fnS_9 : Cs.P.funcs[9]? = some Tryz.f9 := Tryz.func9
@[go_sem] theorem keepS_32 : Cs.keep 32 = [0, 2, 7, 17, 1, 21, 24, 23, 25, 22, 6, 10, 31, 8, 4, 5] := rfl
theorem fnS_32 : Cs.P.funcs[32]? = some Tryz.f32 := Tryz.func32
theorem extS_32 : Cs.ext 32 = none := rfl
theorem pureS_32 (h : FuncId) (d : Option Tmp) : Cs.pure h 32 d = true := by simp [Cs, Cx, pureF, impF, impC]
@[go_sem] theorem keepS_60 : Cs.keep 60 = [0, 2] := rfl
theorem fnS_60 : Cs.P.funcs[60]? = some Tryz.f60 := Tryz.func60
theorem extS_60 : Cs.ext 60 = none := rfl
theorem pureS_60 (h : FuncId) (d : Option Tmp) : Cs.pure h 60 d = true := by simp [Cs, Cx, pureF, impF, impC]
@[go_sem] theorem keepS_83 : Cs.keep 83 = [0, 8, 3, 13, 25, 5, 4, 32, 44, 2] := rfl
theorem fnS_83 : Cs.P.funcs[83]? = some Tryz.f83 := Tryz.func83
theorem extS_83 : Cs.ext 83 = none := rfl
theorem pureS_83 (h : FuncId) (d : Option Tmp) : Cs.pure h 83 d = false := by simp [Cs, Cx, pureF, impF, impC]
@[go_sem] theorem keepS_84 : Cs.keep 84 = [0, 5, 1, 4] := rfl
theorem fnS_84 : Cs.P.funcs[84]? = some Tryz.f84 := Tryz.func84
theorem extS_84 : Cs.ext 84 = none := rfl
theorem pureS_84 (h : FuncId) (d : Option Tmp) : Cs.pure h 84 d = false := by simp [Cs, Cx, pureF, impF, impC]
@[go_sem] theorem keepS_96 : Cs.keep 96 = [0, 4, 2] := rfl
@[go_sem] theorem alterS_96 (d : Option Tmp) : Cs.alter 96 d = false := rfl
theorem fnS_96 : Cs.P.funcs[96]? = some Tryz.f96 := Tryz.func96
theorem extS_96 : Cs.ext 96 = none := rfl
theorem pureS_96 (h : FuncId) (d : Option Tmp) : Cs.pure h 96 d = false := by simp [Cs, Cx, pureF, impF, impC]
theorem extS_97 : Cs.ext 97 = none := rfl
theorem pureS_97 (h : FuncId) (d : Option Tmp) : Cs.pure h 97 d = false := by simp [Cs, Cx, pureF, impF, impC]
/-! ### rows of places -/
def clP (ps : List P3) : List AV := (flatE encP ps).map AV.v
theorem clP_cons (p : P3) (ps : List P3) : clP (p :: ps) = [intA p.1, intA p.2.1, intA p.2.2] ++ clP ps := by
  unfold clP flatE encP intA
  simp
theorem clP_append (ps qs : List P3) : clP (ps ++ qs) = clP ps ++ clP qs := by
  unfold clP flatE; simp
theorem clP_len (ps : List P3) : (clP ps).length = ps.length * 3 := by
  unfold clP; rw [List.length_map, flatE_len (k := 3) (fun _ => rfl)]
theorem clP_flat (ps : List P3) : (clP ps).all AV.flat = true := by
  refine List.all_eq_true.2 fun x hx => ?_
  obtain ⟨y, -, rfl⟩ := List.mem_map.1 hx
  rfl
theorem clP_bound (ps : List P3) : boundL (clP ps) = 0 := by
  refine Nat.le_zero.1 (boundL_le.2 fun x hx => ?_)
  obtain ⟨y, -, rfl⟩ := List.mem_map.1 hx
  exact Nat.le_refl _
theorem size32 : sizeT Tryz.prog 32 = some 3 := by kernel_rfl
theorem app47 (H : Heap) (slot : Nat) (s x : AV) : appendA Tryz.prog H slot [47, 47] [s, x] = appG 32 3 24 H slot s (cellsFrom H 3 x) := app_eq2 (by kernel_rfl) (by kernel_rfl) (by kernel_rfl) (by kernel_rfl) (by decide) (by decide) H slot s x
theorem eqNil47 (t : Tmp) (b v o l : Nat) (c : Option Nat) : binA Tryz.prog .eql 47 (.tmp t) (.const (.slice none 0 0)) (.sl b v o l c) (.v (.slice none 0 0)) = some (.v (.bool false)) := by
  unfold binA nilEq
  rw [und_47]; rfl
theorem eqNil47n (t : Tmp) : binA Tryz.prog .eql 47 (.tmp t) (.const (.slice none 0 0)) (.v (.slice none 0 0)) (.v (.slice none 0 0)) = some (.v (.bool true)) := by
  unfold binA nilEq
  rw [und_47]; rfl
theorem appTo_vs0 (e sz b : Nat) (H : Heap) (slot n : Nat) (new : List AV) : appTo e sz b H slot n new (.vs sz [] (some 0)) = if n = 0 then some (.vs sz [] (some 0), H) else if fitsA b n = true then some (.sl slot 0 0 n none, H.put slot (.cells 0 (boundL new) e sz true new)) else none := by
  unfold appTo
  simp only [ne_eq, not_true_eq_false, if_false, List.length_nil, List.flatMap_nil, List.all_nil, Bool.and_true, List.nil_append, Nat.zero_add, if_true]
  rw [show Nat.max (boundL []) (boundL new) = boundL new from Nat.zero_max (boundL new)]
/-- what is left behind, to the object -/
def rawX (H : Heap) (w : AV) (Y : Heap) : PostO := fun v H' => v = w ∧ H'.trim H.size [v] [] = Y
theorem callA_rawX {C : Cfg} {me f : FuncId} {d : Option Tmp} {args : List AV} {H Y : Heap} {w : AV} (hx : C.ext f = none) (hp : C.pure me f d = false) (h : Fn' C f args H (rawX H w Y)) : callA C (lim C) me f d args H = some (w, Y) := by
  unfold Fn' at h
  rw [bindO_iff] at h
  obtain ⟨o, h1, h2⟩ := h
  have hk : callKind C me f d args = 0 := by unfold callKind; rw [hp]; rfl
  cases o with
  | ret v H' =>
    obtain ⟨rfl, hF⟩ := h2
    unfold callA callB
    rw [hx]
    simp only [hk, h1, hF]
  | _ => exact h2.elim
theorem rawX_far {X Y : Heap} {N : Nat} (hN : X.size = N) (w v : AV) (h : v = w) (hv : N < bound v) : AtO (rawX X w Y) v Y := by
  refine ⟨h, ?_⟩
  unfold Heap.trim
  rw [if_neg]
  rw [Bool.and_eq_true, Bool.and_eq_true, Bool.and_eq_true, Nat.ble_eq]
  have : boundL [v] = bound v := by show Nat.max (bound v) 0 = _; exact Nat.max_eq_left (Nat.zero_le _)
  rw [this]
  exact fun g => by have := g.1.1.1; omega
theorem rawX_same {X : Heap} (w v : AV) (h : v = w) : AtO (rawX X w X) v X := ⟨h, trim_size _ _ _⟩
theorem call96_nil (X : Heap) (me : FuncId) (d : Option Tmp) : callA Cs (lim Cs) me 96 d [.v (.slice none 0 0)] X = some (.v (.slice none 0 0), X) := by
  refine callA_rawX extS_96 (pureS_96 _ _) ?_
  rw [fn_step fnS_96 (show Tryz.f96.body = some _ from rfl)]
  generalize hKK : rawX X _ _ = KK
  simp -implicitDefEqProofs only [Tryz.f96, go_sem, ↓reduceIte, Int.reduceEq, Int.reduceLT, Int.reduceLE, List.reduceReplicate, intA, setT_nil, setT_cons, ↓boolP_bool, ↓iteB_true, ↓iteB_false, eqNil47n]
  rw [← hKK]
  exact rawX_same _ _ rfl
set_option maxHeartbeats 1000000 in
theorem call96 {X : Heap} {N : Nat} (hN : X.size = N) (ps : List P3) (h0 : ps ≠ []) (hn : ps.length < 2 ^ 33) (b v : Nat) (hb : b < N) (hr : X.row b v = some (0, 32, 3, true, clP ps)) (me : FuncId) (d : Option Tmp) :
    callA Cs (lim Cs) me 96 d [.sl b v 0 ps.length none] X = some (.sl N 0 0 ps.length none, X.plus [some (.cells 0 0 32 3 true (clP ps))]) := by
  refine callA_rawX extS_96 (pureS_96 _ _) ?_
  rw [fn_step fnS_96 (show Tryz.f96.body = some _ from rfl)]
  have hv0 : ps.length ≠ 0 := fun h => h0 (List.length_eq_zero_iff.1 h)
  have hf : fitsA 24 ps.length = true := by unfold fitsA; exact decide_eq_true (by omega)
  have hrow : ∀ E, (X.plus E).row b v = some (0, 32, 3, true, clP ps) := fun E => by rw [rowLo (by omega), hr]
  have hl3 := clP_len ps
  generalize hKK : rawX X _ _ = KK
  rw [← plus_nil X]
  simp -implicitDefEqProofs only [Tryz.f96, go_sem, ↓reduceIte, Int.reduceEq, Int.reduceLT, Int.reduceLE, List.reduceReplicate, intA, setT_nil, setT_cons, ↓boolP_bool, ↓iteB_true, ↓iteB_false, eqNil47, sizeP hN, putP0 hN, putP hN, settleP0 hN, settleP hN, List.length_nil, Nat.add_zero, app47, hrow, hl3, List.take_of_length_le (Nat.le_of_eq hl3), clP_flat, clP_bound, hv0, hf, appTo_vs0]
  rw [← hKK]
  exact rawX_far hN _ _ rfl (Nat.lt_succ_self _)
/-! ### sorting -/
theorem takeP (ps : List P3) : takeE 3 decP ps.length (clP ps) = some ps := by
  have := takeE_flat codedP [] ps
  rw [List.append_nil] at this
  exact this
theorem antiP' (l : List P3) : antiB ltP eqvP l = true := by rw [← ltF_P]; exact antiP l
def srtP (ps : List P3) : List P3 := sortL ltP ps
theorem srtP_len (ps : List P3) : (srtP ps).length = ps.length := (sortL_perm _ ps).length_eq
theorem call97 {X : Heap} {N : Nat} (hN : X.size = N) (hlk : X.lock ≤ N) (ps : List P3) (h0 : ps ≠ []) (hn : ps.length < 2 ^ 33) (me : FuncId) (d : Option Tmp) :
    callA Cs (lim Cs) me 97 d [.sl N 0 0 ps.length none, .fn (.func 85) [] []] (X.plus [some (.cells 0 0 32 3 true (clP ps))]) = some (.tup [], X.plus [some (.cells 0 0 32 3 true (clP (srtP ps)))]) := by
  have hv0 : ps.length ≠ 0 := fun h => h0 (List.length_eq_zero_iff.1 h)
  have hrow := rowP0 hN [some (.cells 0 0 32 3 true (clP ps))] 0
  have hst := storeP0 hN hlk [some (.cells 0 0 32 3 true (clP ps))] 0 0 (clP (srtP ps))
  have h3 : (clP (srtP ps)).length = (clP ps).length := by rw [clP_len, clP_len, srtP_len]
  have hg : sortH 3 encP decP eqvP cmpPl 85 [.sl N 0 0 ps.length none, .fn (.func 85) [] []] (X.plus [some (.cells 0 0 32 3 true (clP ps))]) = some (.tup [], X.plus [some (.cells 0 0 32 3 true (clP (srtP ps)))]) := by
    unfold sortH
    simp only [if_true, hv0, if_false, hrow, List.getElem?_cons_zero, Option.join_some, objRow_cells]
    rw [if_pos (by omega), List.drop_zero, takeP]
    simp only [ltF_P, antiP', if_true]
    rw [show (flatE encP (sortL ltP ps)).map AV.v = clP (srtP ps) from rfl, hst]
    simp only [List.getElem?_cons_zero, Option.join_some, stP_cells]
    rw [if_pos (show True ∧ 0 + (clP (srtP ps)).length ≤ (clP ps).length ∧ (clP (srtP ps)).all AV.flat = true from ⟨trivial, by omega, clP_flat _⟩)]
    simp only [Option.map_some, sop_zero, clP_bound]
    rw [show splice 0 (clP (srtP ps)) (clP ps) = clP (srtP ps) from by unfold splice; rw [List.take_zero, List.nil_append, Nat.zero_add, h3, List.drop_length, List.append_nil]]
    rfl
  have hk : callKind Cs me 97 d [.sl N 0 0 ps.length none, .fn (.func 85) [] []] = 0 := by unfold callKind; rw [pureS_97]; rfl
  have hl : lim Cs (.call 97 [.sl N 0 0 ps.length none, .fn (.func 85) [] []] (X.plus [some (.cells 0 0 32 3 true (clP ps))])) = some (.ret (.tup []) (X.plus [some (.cells 0 0 32 3 true (clP (srtP ps)))])) := by
    rw [lim_eq]
    have hla : Cs.lay 97 = some (sortH 3 encP decP eqvP cmpPl 85) := rfl
    simp only [taskA, hla, hg, Option.map_some]
  unfold callA
  rw [extS_97]
  unfold callB
  simp only [hk, hl]
  rw [show (X.plus [some (.cells 0 0 32 3 true (clP ps))]).size = (X.plus [some (.cells 0 0 32 3 true (clP (srtP ps)))]).size by rw [sizeP hN, sizeP hN]; rfl, trim_size]
theorem call97_nil (X : Heap) (g : FuncId) (hg : g = 85) (me : FuncId) (d : Option Tmp) : callA Cs (lim Cs) me 97 d [.v (.slice none 0 0), .fn (.func g) [] []] X = some (.tup [], X) := by
  subst hg
  have hk : callKind Cs me 97 d [.v (.slice none 0 0), .fn (.func 85) [] []] = 0 := by unfold callKind; rw [pureS_97]; rfl
  have hl : lim Cs (.call 97 [.v (.slice none 0 0), .fn (.func 85) [] []] X) = some (.ret (.tup []) X) := by
    rw [lim_eq]
    have hla : Cs.lay 97 = some (sortH 3 encP decP eqvP cmpPl 85) := rfl
    simp only [taskA, hla]
    rfl
  unfold callA
  rw [extS_97]
  unfold callB
  simp only [hk, hl]
  rw [trim_size]
/-- in order -/
theorem call84_nil (X : Heap) (me : FuncId) (d : Option Tmp) : callA Cs (lim Cs) me 84 d [.v (.slice none 0 0), .fn (.func 85) [] []] X = some (.v (.slice none 0 0), X) := by
  refine callA_rawX extS_84 (pureS_84 _ _) ?_
  rw [fn_step fnS_84 (show Tryz.f84.body = some _ from rfl)]
  generalize hKK : rawX X _ _ = KK
  simp -implicitDefEqProofs only [Tryz.f84, go_sem, ↓reduceIte, Int.reduceEq, Int.reduceLT, Int.reduceLE, List.reduceReplicate, intA, setT_nil, setT_cons, ↓boolP_bool, ↓iteB_true, ↓iteB_false, call96_nil, call97_nil]
  rw [← hKK]
  exact rawX_same _ _ rfl
theorem call84 {X : Heap} {N : Nat} (hN : X.size = N) (hlk : X.lock ≤ N) (ps : List P3) (h0 : ps ≠ []) (hn : ps.length < 2 ^ 33) (b v : Nat) (hb : b < N) (hr : X.row b v = some (0, 32, 3, true, clP ps)) (me : FuncId) (d : Option Tmp) :
    callA Cs (lim Cs) me 84 d [.sl b v 0 ps.length none, .fn (.func 85) [] []] X = some (.sl N 0 0 ps.length none, X.plus [some (.cells 0 0 32 3 true (clP (srtP ps)))]) := by
  refine callA_rawX extS_84 (pureS_84 _ _) ?_
  rw [fn_step fnS_84 (show Tryz.f84.body = some _ from rfl)]
  have h96 := call96 hN ps h0 hn b v hb hr
  have h97 := call97 hN hlk ps h0 hn
  have hb1 : ltB b N = true := by unfold ltB; simp; omega
  rw [← plus_nil X] at h96 ⊢
  generalize hKK : rawX (X.plus []) _ _ = KK
  simp -implicitDefEqProofs only [Tryz.f84, go_sem, ↓reduceIte, Int.reduceEq, Int.reduceLT, Int.reduceLE, List.reduceReplicate, intA, setT_nil, setT_cons, ↓boolP_bool, ↓iteB_true, ↓iteB_false, h96, h97, sizeP hN, putP0 hN, putP hN, settleP0 hN, settleP hN, List.length_nil, Nat.add_zero]
  rw [← hKK, plus_nil]
  exact rawX_far hN _ _ rfl (Nat.lt_succ_self _)
end Go.Ev
/- Lists in strict order: each once. -/
namespace Go.Ev
section
variable {α : Type} [DecidableEq α]
/-- of those that lie side by side and are the same, one -/
def onceL : List α → List α
  | [] => []
  | x :: r => match r with
    | [] => [x]
    | y :: _ => if x = y then onceL r else x :: onceL r
theorem onceL_cons2 (x y : α) (r : List α) : onceL (x :: y :: r) = if x = y then onceL (y :: r) else x :: onceL (y :: r) := rfl
theorem onceL_mem : ∀ (l : List α) (a : α), a ∈ onceL l ↔ a ∈ l
  | [], a => Iff.rfl
  | [x], a => Iff.rfl
  | x :: y :: r, a => by
    rw [onceL_cons2]
    split
    · rename_i h; subst h
      rw [onceL_mem (x :: r) a]; simp
    · rw [List.mem_cons, onceL_mem (y :: r) a, ← List.mem_cons]
/-- in strict order -/
structure StrictO (lt : α → α → Bool) : Prop where
  irrefl : ∀ a, lt a a = false
  trans : ∀ a b c, lt a b = true → lt b c = true → lt a c = true
  total : ∀ a b, lt a b = false → lt b a = false → a = b
theorem onceL_strict {lt : α → α → Bool} (h : StrictO lt) : ∀ {l : List α}, l.Pairwise (fun a b => lt b a = false) → (onceL l).Pairwise (fun a b => lt a b = true)
  | [], _ => List.Pairwise.nil
  | [x], _ => by simp [onceL]
  | x :: y :: r, hp => by
    rw [onceL_cons2]
    obtain ⟨h1, h2⟩ := List.pairwise_cons.1 hp
    split
    · exact onceL_strict h h2
    · rename_i hne
      refine List.pairwise_cons.2 ⟨fun a ha => ?_, onceL_strict h h2⟩
      have ha' := (onceL_mem _ a).1 ha
      have hyx := h1 y List.mem_cons_self
      have hxy : lt x y = true := by
        cases hc : lt x y with
        | true => rfl
        | false => exact absurd (h.total x y hc hyx) hne
      rcases List.mem_cons.1 ha' with rfl | har
      · exact hxy
      · have hya := (List.pairwise_cons.1 h2).1 a har
        cases hc : lt y a with
        | true => exact h.trans _ _ _ hxy hc
        | false => rw [← h.total y a hc hya]; exact hxy
/-! the same by steps -/
/-- what is kept of a list that goes on, with the last one -/
theorem onceL_snoc : ∀ (l : List α) (a b : α), onceL (l ++ [a, b]) = if a = b then onceL (l ++ [a]) else onceL (l ++ [a]) ++ [b]
  | [], a, b => by
    show onceL [a, b] = _
    rw [onceL_cons2]
    by_cases h : a = b
    · subst h; simp [onceL]
    · simp [onceL, h]
  | [x], a, b => by
    show onceL (x :: a :: [b]) = if a = b then onceL (x :: a :: []) else onceL (x :: a :: []) ++ [b]
    by_cases h : x = a <;> by_cases h2 : a = b <;> simp [onceL, h, h2]
  | x :: y :: r, a, b => by
    have ih := onceL_snoc (y :: r) a b
    show onceL (x :: y :: (r ++ [a, b])) = if a = b then onceL (x :: y :: (r ++ [a])) else onceL (x :: y :: (r ++ [a])) ++ [b]
    rw [onceL_cons2, onceL_cons2]
    simp only [List.cons_append] at ih
    rw [ih]
    by_cases h : x = y <;> by_cases h2 : a = b <;> simp [h, h2]
theorem onceL_le : ∀ l : List α, (onceL l).length ≤ l.length
  | [] => Nat.le_refl _
  | [x] => Nat.le_refl _
  | x :: y :: r => by
    rw [onceL_cons2]
    have := onceL_le (y :: r)
    split
    · simp only [List.length_cons] at *; omega
    · simp only [List.length_cons] at *; omega
/-- each step of a list that goes on: its element i and the one before -/
theorem onceL_take {l : List α} {i : Nat} {a b : α} (h0 : 0 < i) (ha : l[i - 1]? = some a) (hb : l[i]? = some b) : onceL (l.take (i + 1)) = if a = b then onceL (l.take i) else onceL (l.take i) ++ [b] := by
  have h1 : l.take (i + 1) = l.take (i - 1) ++ [a, b] := by
    rw [List.take_add_one, hb, show i = (i - 1) + 1 by omega, List.take_add_one, ha]
    simp
  have h2 : l.take i = l.take (i - 1) ++ [a] := by
    rw [show i = (i - 1) + 1 by omega, List.take_add_one]
    simp [ha]
  rw [h1, h2, onceL_snoc]
/-- nothing is the same as the one before: all is kept -/
theorem onceL_id : ∀ {l : List α}, (∀ i a b, l[i]? = some a → l[i + 1]? = some b → a ≠ b) → onceL l = l
  | [], _ => rfl
  | [x], _ => rfl
  | x :: y :: r, h => by
    rw [onceL_cons2, if_neg (h 0 x y rfl rfl), onceL_id fun i a b ha hb => h (i + 1) a b (by simpa using ha) (by simpa using hb)]
end
end Go.Ev
namespace Go.Ev
open Go.Proofs Go.Sort
set_option maxRecDepth 100000
set_option linter.unusedSimpArgs false
/-! ### places in doubt -/
theorem strictP : StrictO ltP := by
  refine ⟨fun a => ?_, fun a b c h1 h2 => ?_, fun a b h1 h2 => ?_⟩
  · simp [ltP]
  · simp only [ltP, decide_eq_true_eq] at *; omega
  · simp only [ltP, decide_eq_false_iff_not] at *
    obtain ⟨a1, a2, a3⟩ := a
    obtain ⟨b1, b2, b3⟩ := b
    simp only [Prod.mk.injEq] at *
    omega
def atR (r : Rd) : P3 := (r.ch, r.ln, r.wd)
/-- the places of a copy that are in doubt -/
def dbtL (rs : List Rd) : List P3 := (rs.filter fun r => !decide (r.kind = 2)).map atR
theorem dbtL_mem {rs : List Rd} {p : P3} : p ∈ dbtL rs ↔ ∃ r ∈ rs, r.kind ≠ 2 ∧ atR r = p := by
  unfold dbtL
  simp only [List.mem_map, List.mem_filter, Bool.not_eq_true', decide_eq_false_iff_not, ne_eq, and_assoc]
theorem dbtL_len (rs : List Rd) : (dbtL rs).length ≤ rs.length := by
  unfold dbtL; rw [List.length_map]; exact List.length_filter_le _ _
def allD (cs : List (Int × List Rd)) : List P3 := cs.flatMap fun c => dbtL c.2
theorem allD_mem {cs : List (Int × List Rd)} {p : P3} : p ∈ allD cs ↔ ∃ c ∈ cs, p ∈ dbtL c.2 := by
  unfold allD; rw [List.mem_flatMap]
def doubtL (cs : List (Int × List Rd)) : List P3 := onceL (srtP (allD cs))
theorem srtP_mem {l : List P3} {p : P3} : p ∈ srtP l ↔ p ∈ l := (sortL_perm _ l).mem_iff
theorem doubtL_mem {cs : List (Int × List Rd)} {p : P3} : p ∈ doubtL cs ↔ ∃ c ∈ cs, p ∈ dbtL c.2 := by
  unfold doubtL; rw [onceL_mem, srtP_mem, allD_mem]
theorem swoP' : SWO ltP := by rw [← ltF_P]; exact swoP
theorem doubtL_str (cs : List (Int × List Rd)) : (doubtL cs).Pairwise fun a b => ltP a b = true := onceL_strict strictP (sortL_asc swoP' _)
end Go.Ev
namespace Go.Ev
open Go.Proofs
set_option maxRecDepth 100000
set_option linter.unusedSimpArgs false
attribute [local irreducible] Wp WpS
end Go.Ev
namespace Go.Ev
open Go.Proofs
set_option maxRecDepth 100000
set_option linter.unusedSimpArgs false
attribute [local irreducible] Wp WpS
def greatCB (l : List Rd) : Bool := decide (30 < l.length) || l.any fun r => decide (40 < r.word.size)
theorem any_cons_drop {α : Type} {xs : List α} {j : Nat} {x : α} (h : xs[j]? = some x) (p : α → Bool) : (xs.drop j).any p = (p x || (xs.drop (j + 1)).any p) := by rw [drop_eq_cons h]; rfl
set_option maxHeartbeats 2000000 in
theorem ans56 {e : Exts} (id : Int) (l : List Rd) (x : AV) (hx : RdsA l x) : Ans (Cx e) 56 [.agg [intA id, x]] (.v (.bool (greatCB l))) := by
  have hx : SlOf 5 (l.map rdV) x := hx
  unfold Ans
  rw [fn_step (fn_56 e) (show Tryz.f56.body = some _ from rfl)]
  by_cases hl : 30 < (l.length : Int)
  · have hg : greatCB l = true := by unfold greatCB; rw [decide_eq_true (by omega)]; rfl
    simp -implicitDefEqProofs only [Tryz.f56, go_sem, ↓reduceIte, Int.reduceEq, Int.reduceLT, Int.reduceLE, List.reduceReplicate, intA, setT_nil, setT_cons, hx.len, hx.cells, hx.flat, hx.bound, List.length_map, hl]
    rw [hg]
  · have hg : greatCB l = l.any fun r => decide (40 < r.word.size) := by unfold greatCB; rw [decide_eq_false (by omega)]; rfl
    simp -implicitDefEqProofs only [Tryz.f56, go_sem, ↓reduceIte, Int.reduceEq, Int.reduceLT, Int.reduceLE, List.reduceReplicate, intA, setT_nil, setT_cons, hx.len, hx.cells, hx.flat, hx.bound, List.length_map, hl]
    refine Lp_rule (P := fun μ a' H => ∃ j, j ≤ l.length ∧ l.length = j + μ ∧ a' = ⟨23, [(0, .agg [intA id, x]), (1, .ptr 0 0 0), (2, .v (.bool false)), (7, .v (.bool false)), (3, intA j)], []⟩ ∧ H = ⟨[some (.cells 0 0 53 1 false [intA id, x])], 0⟩ ∧ greatCB l = (l.drop j).any fun r => decide (40 < r.word.size)) ?_ l.length _ _ ⟨0, by omega, by omega, rfl, rfl, hg⟩
    rintro μ _ _ ⟨j, hj1, hj2, rfl, rfl, ho⟩
    by_cases hlt : (j : Int) < (l.length : Int)
    · obtain ⟨r, hr⟩ := at_lt l j (by omega)
      have hw := wrap_succ j (by omega)
      have hi := hx.idx (rds_get hr)
      unfold rdV at hi
      rw [any_cons_drop hr] at ho
      by_cases hs : 40 < (r.word.size : Int)
      · have h0 : greatCB l = true := by rw [ho, decide_eq_true (by omega)]; rfl
        simp -implicitDefEqProofs only [go_sem, ↓reduceIte, Int.reduceEq, Int.reduceLT, Int.reduceLE, List.reduceReplicate, intA, setT_nil, setT_cons, hx.len, List.length_map, hlt, hw, hi, hs]
        rw [h0]
      · have h0 : greatCB l = (l.drop (j + 1)).any fun r => decide (40 < r.word.size) := by rw [ho, decide_eq_false (by omega)]; rfl
        simp -implicitDefEqProofs only [go_sem, ↓reduceIte, Int.reduceEq, Int.reduceLT, Int.reduceLE, List.reduceReplicate, intA, setT_nil, setT_cons, hx.len, List.length_map, hlt, hw, hi, hs, trim_at, hx.bound]
        exact ⟨μ - 1, by omega, j + 1, by omega, by omega, rfl, rfl, h0⟩
    · have h0 : greatCB l = false := by rw [ho, show l.drop j = [] from List.drop_eq_nil_of_le (by omega)]; rfl
      simp -implicitDefEqProofs only [go_sem, ↓reduceIte, Int.reduceEq, Int.reduceLT, Int.reduceLE, List.reduceReplicate, intA, setT_nil, setT_cons, hx.len, List.length_map, hlt]
      rw [h0]
theorem call56 {e : Exts} (he : Quiet e) (id : Int) (l : List Rd) (x : AV) (hx : RdsA l x) (me : FuncId) (d : Option Tmp) (H : Heap) : callA (Cx e) (lim (Cx e)) me 56 d [.agg [.v (.int .i64 id), x]] H = some (.v (.bool (greatCB l)), H) :=
  (ans56 id l x hx).call (ext_56 he) (pure_56 _ _ _) (by simp only [boundL_cons, bound_agg, intA, bound_v, SlOf.bound hx, boundL_nil]; rfl) H
end Go.Ev
namespace Go.Ev
open Go.Proofs
set_option maxRecDepth 100000
set_option linter.unusedSimpArgs false
attribute [local irreducible] Wp WpS
/-- a reading of the reference -/
def readB (t : Txt) (r : Rd) : Bool := match lineAt t r.ch r.ln with | none => false | some l => if r.kind = 1 then fits1 l r else if r.kind = 2 then fits2 l r else if r.kind = 3 then fits3 l r else false
theorem callI61 {e : Exts} (he : Quiet e) (s : ByteArray) (hn : s.size < 2 ^ 63) (me : FuncId) (d : Option Tmp) : callI (Cx e) me 61 d [.v (.string s)] = some (.v (.bool (wordB s))) :=
  (ans61 he s hn).callI (ext_61 he) (pure_61 _ _ _) rfl
theorem bin_eq8 (x y : Operand) (m n : Int) : binA Tryz.prog .eql 5 x y (.v (.int .u8 m)) (.v (.int .u8 n)) = some (.v (.bool (decide (m = n)))) := bin_eql m n
set_option maxHeartbeats 2000000 in
theorem ans78 {e : Exts} (he : Quiet e) (t : Txt) (ht : Fits t) (ch : AV) (xs : List AV) (hch : SlOf 2 xs ch) (hall : All2 ChapA t xs) (r : Rd) (hr : RdF r) : Ans (Cx e) 78 [.agg [ch], rdV r] (.v (.bool (readB t r))) := by
  obtain ⟨y, hy, hc⟩ := call42 he t ht ch xs hch hall r.ch r.ln r.wd
  unfold Ans
  rw [fn_step (fn_78 e) (show Tryz.f78.body = some _ from rfl)]
  cases hL : lineAt t r.ch r.ln with
  | none =>
    rw [hL] at hc hy
    simp only [LineO] at hy
    subst hy
    have hB : readB t r = false := by unfold readB; rw [hL]
    rw [hB]
    simp -implicitDefEqProofs only [Tryz.f78, rdV, go_sem, ↓reduceIte, Int.reduceEq, Int.reduceLT, Int.reduceLE, List.reduceReplicate, intA, setT_nil, setT_cons, hch.cells, hch.flat, hch.bound, hc, Option.isSome_none]
  | some ln =>
    rw [hL] at hc hy
    have hy : SlOf 1 (strs ln) y := hy
    obtain ⟨cp, hcm, hlm⟩ := lineAt_mem hL
    have hll := ht.words cp hcm ln hlm
    have hw1 : IntKind.i64.wrap ((ln.length : Int) - 1) = (ln.length : Int) - 1 := wrap_in _ (by omega) (by omega)
    have h43 := call43 he r.wd 0 ((ln.length : Int) - 1)
    rw [within_len] at h43
    have h43' := call43 he r.wd 0 (ln.length : Int)
    have hi43 := callI43 he r.wd 0 ((ln.length : Int) - 1)
    rw [within_len] at hi43
    have h61 := call61 he r.word hr.word
    have hi61 := callI61 he r.word hr.word
    have hB : readB t r = (if r.kind = 1 then fits1 ln r else if r.kind = 2 then fits2 ln r else if r.kind = 3 then fits3 ln r else false) := by unfold readB; rw [hL]
    rw [hB]
    cases k1 : decide (r.kind = 1)
    · have n1 : ¬ r.kind = 1 := of_decide_eq_false k1
      rw [if_neg n1]
      cases k2 : decide (r.kind = 2)
      · have n2 : ¬ r.kind = 2 := of_decide_eq_false k2
        rw [if_neg n2]
        cases k3 : decide (r.kind = 3)
        · rw [if_neg (of_decide_eq_false k3)]
          simp -implicitDefEqProofs only [Tryz.f78, rdV, go_sem, ↓reduceIte, Int.reduceEq, Int.reduceLT, Int.reduceLE, List.reduceReplicate, intA, setT_nil, setT_cons, hch.cells, hch.flat, hch.bound, hc, Option.isSome_some, hy.cells, hy.flat, hy.bound, bin_eq8, k1, k2, k3]
        · rw [if_pos (of_decide_eq_true k3)]
          unfold fits3
          simp -implicitDefEqProofs only [Tryz.f78, rdV, go_sem, ↓reduceIte, Int.reduceEq, Int.reduceLT, Int.reduceLE, List.reduceReplicate, intA, setT_nil, setT_cons, hch.cells, hch.flat, hch.bound, hc, Option.isSome_some, hy.cells, hy.flat, hy.bound, bin_eq8, k1, k2, k3]
          refine wp_drawX [([], [], false), ([], [], false), ([], [], false), ([], [], false), ([2], [], false), ([], [], false), ([], [], false), ([], [], false), ([], [], false), ([], [], false), ([], [], false), ([], [], false), ([], [], false), ([], [], false), ([], [], false), ([], [], false), ([], [], false), ([], [], false), ([14], [], false), ([], [], false), ([14], [], false), ([], [], false), ([], [], false), ([], [], false)] (by kernel_rfl) (by kernel_rfl) ?_
          by_cases h1 : 0 ≤ r.wd ∧ r.wd < ln.length
          · rw [decide_eq_true h1] at hi43 ⊢
            obtain ⟨w, hwn⟩ : ∃ n : Nat, r.wd = n := ⟨r.wd.toNat, by omega⟩
            obtain ⟨s, hs⟩ := at_lt ln w (by omega)
            have hi := hy.idx (strs_get hs)
            rw [hwn] at hi43 ⊢
            have ha : at0 ln w = s := by unfold at0; rw [Int.toNat_natCast, hs]; rfl
            cases h2 : wordB r.word
            · rw [h2] at hi61
              simp -implicitDefEqProofs only [go_sem, ↓reduceIte, Int.reduceEq, Int.reduceLT, Int.reduceLE, List.reduceReplicate, intA, setT_nil, setT_cons, hy.len, hy.lenI, strs_len, hw1, hi43, hi61]
            · rw [h2] at hi61
              simp -implicitDefEqProofs only [go_sem, ↓reduceIte, Int.reduceEq, Int.reduceLT, Int.reduceLE, List.reduceReplicate, intA, setT_nil, setT_cons, hy.len, hy.lenI, strs_len, hw1, hi43, hi61, hi, bin_sne, ha]
          · rw [decide_eq_false h1] at hi43 ⊢
            simp -implicitDefEqProofs only [go_sem, ↓reduceIte, Int.reduceEq, Int.reduceLT, Int.reduceLE, List.reduceReplicate, intA, setT_nil, setT_cons, hy.len, hy.lenI, strs_len, hw1, hi43]
      · rw [if_pos (of_decide_eq_true k2)]
        unfold fits2
        cases h1 : withinB 0 ln.length [r.wd]
        · rw [h1] at h43'
          simp -implicitDefEqProofs only [Tryz.f78, rdV, go_sem, ↓reduceIte, Int.reduceEq, Int.reduceLT, Int.reduceLE, List.reduceReplicate, intA, setT_nil, setT_cons, hch.cells, hch.flat, hch.bound, hc, Option.isSome_some, hy.cells, hy.flat, hy.bound, hy.len, strs_len, bin_eq8, k1, k2, h43']
        · rw [h1] at h43'
          simp -implicitDefEqProofs only [Tryz.f78, rdV, go_sem, ↓reduceIte, Int.reduceEq, Int.reduceLT, Int.reduceLE, List.reduceReplicate, intA, setT_nil, setT_cons, hch.cells, hch.flat, hch.bound, hc, Option.isSome_some, hy.cells, hy.flat, hy.bound, hy.len, strs_len, bin_eq8, k1, k2, h43', h61]
    · rw [if_pos (of_decide_eq_true k1)]
      unfold fits1
      cases h1 : decide (0 ≤ r.wd ∧ r.wd < ln.length)
      · rw [h1] at h43
        simp -implicitDefEqProofs only [Tryz.f78, rdV, go_sem, ↓reduceIte, Int.reduceEq, Int.reduceLT, Int.reduceLE, List.reduceReplicate, intA, setT_nil, setT_cons, hch.cells, hch.flat, hch.bound, hc, Option.isSome_some, hy.cells, hy.flat, hy.bound, hy.len, strs_len, bin_eq8, k1, hw1, h43]
      · rw [h1] at h43
        simp -implicitDefEqProofs only [Tryz.f78, rdV, go_sem, ↓reduceIte, Int.reduceEq, Int.reduceLT, Int.reduceLE, List.reduceReplicate, intA, setT_nil, setT_cons, hch.cells, hch.flat, hch.bound, hc, Option.isSome_some, hy.cells, hy.flat, hy.bound, hy.len, strs_len, bin_eq8, k1, hw1, h43, bin_seq]
        rfl
end Go.Ev
namespace Go.Ev
open Go.Proofs
set_option maxRecDepth 100000
set_option linter.unusedSimpArgs false
attribute [local irreducible] Wp WpS
/-! ### a line of a copy, by the reference -/
def refI (k n w : Int) (s : List ByteArray × ByteArray) (r : Rd) : List ByteArray × ByteArray :=
  if r.ch = k ∧ r.ln = n ∧ r.wd = w then if r.kind = 2 then (s.1 ++ [r.word], s.2) else (s.1, r.word) else s
def refW (l : Line) (rs : List Rd) (k n : Int) (ds : List ByteArray) (w : Nat) : List ByteArray :=
  let s := rs.foldl (refI k n w) (ds, (l[w]?).getD emp)
  if s.2 = emp then s.1 else s.1 ++ [s.2]
def refLine (l : Line) (rs : List Rd) (k n : Int) : List ByteArray := (List.range (l.length + 1)).foldl (refW l rs k n) []
structure M79 (id : Int) (x : AV) (H : Heap) (ds : List ByteArray) (out : AV) : Prop where
  lock : H.lock = 0
  size : 2 ≤ H.size
  b1 : H.get 1 = some (.cells 0 0 53 1 false [.v (.int .i64 id), x])
  done : DoneR H ds out
theorem M79.row1 {id : Int} {x : AV} {H : Heap} {ds : List ByteArray} {out : AV} (h : M79 id x H ds out) (E : List (Option AObj)) : (H.plus E).row 1 0 = some (0, 53, 1, false, [.v (.int .i64 id), x]) := by
  rw [rowLo (by have := h.size; omega)]; exact get_row h.b1
theorem M79.plus {id : Int} {x : AV} {H : Heap} {ds : List ByteArray} {out : AV} (h : M79 id x H ds out) (E : List (Option AObj)) : M79 id x (H.plus E) ds out :=
  ⟨h.lock, by have := h.size; rw [plus_size]; omega, (plus_get E (by have := h.size; omega)).trans h.b1, h.done.plus E⟩
theorem M79.trim {id : Int} {x : AV} {H : Heap} {ds : List ByteArray} {out : AV} (h : M79 id x H ds out) {n : Nat} (hn : 2 ≤ n) (hn2 : n ≤ H.size) (vs : List AV) (ms : List Nat) (hv : bound out ≤ boundL vs) : M79 id x (H.trim n vs ms) ds out := by
  refine ⟨trim_lock.trans h.lock, Nat.le_trans hn (trim_size' hn2), (trim_lo (by omega)).trans h.b1, ?_⟩
  rcases h.done with hd | ⟨b, v, h1, h2, rfl, h4⟩
  · exact Or.inl hd
  · unfold Heap.trim
    split
    · rename_i hq
      rw [Bool.and_eq_true, Bool.and_eq_true, Bool.and_eq_true, Nat.ble_eq] at hq
      have h5 := hq.1.1.1
      have hb : b < n := by simp only [bound] at hv; omega
      have hg := (takeH_get (H := H) hb).trans (row_of_get h4)
      exact Or.inr ⟨b, v, h1, get_size hg, rfl, get_row hg⟩
    · exact Or.inr ⟨b, v, h1, h2, rfl, h4⟩
theorem M79.more {id : Int} {x : AV} {H : Heap} {ds : List ByteArray} {b v : Nat} (h : M79 id x H ds (.sl b v 0 ds.length none)) (hb : b < H.size) (hr : H.row b v = some (0, 9, 1, true, strs ds)) (s : List ByteArray) (n : Nat) (hn : n = ds.length + s.length) : M79 id x (H.put b (.cells (v + 1) 0 9 1 true (strs (ds ++ s)))) (ds ++ s) (.sl b (v + 1) 0 n none) := by
  have hne : 1 ≠ b := by
    rintro rfl
    have := (row_of_get hr).symm.trans h.b1
    simp at this
  refine ⟨h.lock, by rw [put_sizeI _ hb]; exact h.size, (put_get_ne _ (by have := h.size; omega) hne).trans h.b1, Or.inr ⟨b, v + 1, ?_, by rw [put_sizeI _ hb]; exact hb, by rw [hn, List.length_append], row_put_same hb⟩⟩
  have := h.lock
  show H.lock ≤ b
  omega
theorem M79.new {id : Int} {x : AV} {H : Heap} {ds : List ByteArray} {out : AV} (h : M79 id x H ds out) {N : Nat} (hN : H.size = N) (E : List (Option AObj)) (k : Nat) (ds' : List ByteArray) (hE : E[k]? = some (some (.cells 0 0 9 1 true (strs ds')))) : M79 id x (H.plus E) ds' (.sl (N + k) 0 0 ds'.length none) := by
  have hk := (List.getElem?_eq_some_iff.1 hE).1
  refine ⟨h.lock, by have := h.size; rw [plus_size]; omega, (plus_get E (by have := h.size; omega)).trans h.b1, Or.inr ⟨N + k, 0, ?_, by rw [plus_size]; omega, rfl, ?_⟩⟩
  · have := h.lock
    show H.lock ≤ _
    omega
  · rw [rowP hN, hE]; rfl
theorem le_boundL {v : AV} : ∀ {vs : List AV}, v ∈ vs → bound v ≤ boundL vs
  | a :: r, h => by
    rw [boundL_cons]
    rcases List.mem_cons.1 h with rfl | h
    · exact Nat.le_max_left _ _
    · exact Nat.le_trans (le_boundL h) (Nat.le_max_right _ _)
theorem fitsA1 : fitsA 16 1 = true := by decide
noncomputable def bodyI79 : Code := ((Tryz.f79.body.map loops).getD [])[1]?.getD .skip
def T79 (ch x lx : AV) (id k n w : Int) (b33 : Bool) (out : AV) (own : ByteArray) (i : Int) : List (Tmp × AV) :=
  [(0, .agg [ch]), (1, .agg [.v (.int .i64 id), x]), (2, .v (.int .i64 k)), (3, .v (.int .i64 n)), (4, .ptr 0 0 0), (5, .ptr 1 0 0), (8, .v (.slice none 0 0)), (9, out), (10, lx), (11, .v (.int .i64 w)), (27, .v (.bool true)), (12, .v (.string own)), (33, .v (.bool b33)), (13, .v (.int .i64 i))]
set_option maxHeartbeats 4000000 in
theorem inner79 {e : Exts} (rs : List Rd) (x : AV) (hx : SlOf 5 (rs.map rdV) x) (ch lx : AV) (id k n w : Int) (b33 : Bool) (ds0 : List ByteArray) (own0 : ByteArray) (K : Post)
    (hK : ∀ H out, M79 id x H (rs.foldl (refI k n w) (ds0, own0)).1 out → AtK K (.exit 2) ⟨86, T79 ch x lx id k n w b33 out (rs.foldl (refI k n w) (ds0, own0)).2 rs.length, []⟩ H)
    (X : Heap) (out0 : AV) (hM0 : M79 id x X ds0 out0) (hlen : ds0.length + rs.length < 2 ^ 32) :
    Lp (Cx e) 79 none [0, 1, 2, 3, 4, 5, 8, 9, 10, 11, 27, 12, 33, 13] bodyI79 ⟨86, T79 ch x lx id k n w b33 out0 own0 0, []⟩ X K := by
  refine Lp_ruleQ (P := fun μ a H => ∃ (i : Nat) (s : List ByteArray × ByteArray) (out : AV), i + μ = rs.length ∧ s = (rs.take i).foldl (refI k n w) (ds0, own0) ∧ s.1.length ≤ ds0.length + i ∧ a = ⟨86, T79 ch x lx id k n w b33 out s.2 i, []⟩ ∧ M79 id x H s.1 out) ?_ rs.length _ _ ⟨0, (ds0, own0), out0, by omega, rfl, Nat.le_refl _, rfl, hM0⟩
  rintro Q KK hQ hKK μ _ Y ⟨i, ⟨ds, own⟩, out, hi0, hs, hsl, rfl, hM⟩
  unfold bodyI79 T79
  simp only [Tryz.f79, loops, Option.map_some, Option.getD_some, List.nil_append, List.append_nil, List.cons_append, List.getElem?_cons_zero, List.getElem?_cons_succ]
  obtain ⟨N, hN⟩ : ∃ N, Y.size = N := ⟨_, rfl⟩
  have hlk : Y.lock ≤ N := by have := hM.lock; omega
  have hr1 := hM.row1
  by_cases hlt : (i : Int) < (rs.length : Int)
  · obtain ⟨r, hr⟩ := at_lt rs i (by omega)
    have hw := wrap_succ i (by omega)
    have hir := hx.idx (rds_get hr)
    unfold rdV at hir
    have ht : (rs.take (i + 1)).foldl (refI k n w) (ds0, own0) = refI k n w (ds, own) r := by
      rw [List.take_add_one, hr, List.foldl_append, ← hs]; rfl
    rw [← plus_nil Y]
    have hn2 : 2 ≤ N := by have := hM.size; omega
    have stay : refI k n w (ds, own) r = (ds, own) → ∀ E : List (Option AObj), Again Q μ ⟨86, T79 ch x lx id k n w b33 out own (i + 1 : Nat), []⟩ ((Y.plus E).trim N ((T79 ch x lx id k n w b33 out own (i + 1 : Nat)).map (·.2)) []) := fun hq E =>
      ⟨μ - 1, by omega, hQ _ _ _ ⟨i + 1, (ds, own), out, by omega, (ht.trans hq).symm, by simp only at hsl ⊢; omega, rfl, (hM.plus E).trim hn2 (by rw [plus_size]; omega) _ _ (le_boundL (by simp [T79]))⟩⟩
    cases h1 : decide (r.ch = k)
    · simp -implicitDefEqProofs only [go_sem, ↓reduceIte, Int.reduceEq, Int.reduceLT, Int.reduceLE, List.reduceReplicate, intA, setT_nil, setT_cons, hr1, hx.len, List.length_map, hlt, hw, hir, h1, sizeP hN, putP0 hN, putP hN, settleP0 hN, settleP hN, rowP0 hN, rowP hN, storeP0 hN hlk, storeP hN hlk, List.length_nil, Nat.add_zero]
      exact stay (by unfold refI; rw [if_neg (fun h => of_decide_eq_false h1 h.1)]) _
    cases h2 : decide (r.ln = n)
    · simp -implicitDefEqProofs only [go_sem, ↓reduceIte, Int.reduceEq, Int.reduceLT, Int.reduceLE, List.reduceReplicate, intA, setT_nil, setT_cons, hr1, hx.len, List.length_map, hlt, hw, hir, h1, h2, sizeP hN, putP0 hN, putP hN, settleP0 hN, settleP hN, rowP0 hN, rowP hN, storeP0 hN hlk, storeP hN hlk, List.length_nil, Nat.add_zero]
      exact stay (by unfold refI; rw [if_neg (fun h => of_decide_eq_false h2 h.2.1)]) _
    cases h3 : decide (r.wd = w)
    · simp -implicitDefEqProofs only [go_sem, ↓reduceIte, Int.reduceEq, Int.reduceLT, Int.reduceLE, List.reduceReplicate, intA, setT_nil, setT_cons, hr1, hx.len, List.length_map, hlt, hw, hir, h1, h2, h3, sizeP hN, putP0 hN, putP hN, settleP0 hN, settleP hN, rowP0 hN, rowP hN, storeP0 hN hlk, storeP hN hlk, List.length_nil, Nat.add_zero]
      exact stay (by unfold refI; rw [if_neg (fun h => of_decide_eq_false h3 h.2.2)]) _
    have hat : r.ch = k ∧ r.ln = n ∧ r.wd = w := ⟨of_decide_eq_true h1, of_decide_eq_true h2, of_decide_eq_true h3⟩
    cases h4 : decide (r.kind = 2)
    · have hq : refI k n w (ds, own) r = (ds, r.word) := by unfold refI; rw [if_pos hat, if_neg (of_decide_eq_false h4)]
      simp -implicitDefEqProofs only [go_sem, ↓reduceIte, Int.reduceEq, Int.reduceLT, Int.reduceLE, List.reduceReplicate, intA, setT_nil, setT_cons, hr1, hx.len, List.length_map, hlt, hw, hir, h1, h2, h3, bin_eq8, h4, sizeP hN, putP0 hN, putP hN, settleP0 hN, settleP hN, rowP0 hN, rowP hN, storeP0 hN hlk, storeP hN hlk, List.length_nil, Nat.add_zero]
      exact ⟨μ - 1, by omega, hQ _ _ _ ⟨i + 1, (ds, r.word), out, by omega, (ht.trans hq).symm, by simp only at hsl ⊢; omega, rfl, (hM.plus _).trim hn2 (by rw [plus_size]; omega) _ _ (le_boundL (by simp))⟩⟩
    have hq : refI k n w (ds, own) r = (ds ++ [r.word], own) := by unfold refI; rw [if_pos hat, if_pos (of_decide_eq_true h4)]
    rcases hM.done with ⟨hd, ho⟩ | ⟨b, v, hb1, hb2, ho, hrow⟩
    · simp only at hd ho
      subst hd ho
      simp -implicitDefEqProofs only [go_sem, ↓reduceIte, Int.reduceEq, Int.reduceLT, Int.reduceLE, List.reduceReplicate, intA, setT_nil, setT_cons, hr1, hx.len, List.length_map, hlt, hw, hir, h1, h2, h3, bin_eq8, h4, fitsA1, List.flatMap_cons, List.flatMap_nil, sizeP hN, putP0 hN, putP hN, settleP0 hN, settleP hN, rowP0 hN, rowP hN, storeP0 hN hlk, storeP hN hlk, List.length_nil, Nat.add_zero]
      have hnew := hM.new hN [some (.cells 0 0 65 1 false [.v (.int .i64 r.ch), .v (.int .i64 r.ln), .v (.int .i64 r.wd), .v (.int .u8 r.kind), .v (.string r.word)]), some (.cells 0 0 9 1 true [.v (.string r.word)])] 1 [r.word] rfl
      exact ⟨μ - 1, by omega, hQ _ _ _ ⟨i + 1, ([] ++ [r.word], own), .sl (N + 1) 0 0 1 none, by omega, (ht.trans hq).symm, by simp only [List.nil_append, List.length_cons, List.length_nil] at hsl ⊢; omega, rfl, hnew.trim hn2 (by rw [plus_size]; omega) _ _ (le_boundL (by simp))⟩⟩
    · simp only at ho hrow
      subst ho
      simp -implicitDefEqProofs only [go_sem, ↓reduceIte, Int.reduceEq, Int.reduceLT, Int.reduceLE, List.reduceReplicate, intA, setT_nil, setT_cons, hr1, hx.len, List.length_map, hlt, hw, hir, h1, h2, h3, bin_eq8, h4, List.flatMap_cons, List.flatMap_nil, sizeP hN, putP0 hN, putP hN, settleP0 hN, settleP hN, rowP0 hN, rowP hN, storeP0 hN hlk, storeP hN hlk, List.length_nil, Nat.add_zero]
      have hrp : ∀ E, (Y.plus E).row b v = some (0, 9, 1, true, strs ds) := fun E => by rw [rowLo hb2]; exact hrow
      have hf : fitsA 16 (ds.length + 1) = true := by unfold fitsA; exact decide_eq_true (by simp only at hsl; omega)
      have hmore := hM.more hb2 hrow [r.word] (ds.length + 1) rfl
      rw [appTo_own (m := 0) (e' := 9) (cs := strs ds) (hrp _) (by rw [strs_len, Nat.mul_one]) hb1 hf (by omega) (by omega)]
      rw [putLo hb2]
      have hNY : (Y.put b (.cells (v + 1) (Nat.max 0 0) 9 1 true (strs ds ++ [.v (.string r.word)]))).size = N := by rw [put_sizeI _ hb2]; exact hN
      have hst : strs (ds ++ [r.word]) = strs ds ++ [.v (.string r.word)] := strs_append _ _
      rw [hst] at hmore
      change M79 id x (Y.put b (.cells (v + 1) (Nat.max 0 0) 9 1 true (strs ds ++ [.v (.string r.word)]))) _ _ at hmore
      change bindO (some (AV.sl b (v + 1) 0 (ds.length + 1) none, (Y.put b (.cells (v + 1) (Nat.max 0 0) 9 1 true (strs ds ++ [.v (.string r.word)]))).plus _)) _
      generalize Y.put b (.cells (v + 1) (Nat.max 0 0) 9 1 true (strs ds ++ [.v (.string r.word)])) = Z at hmore hNY ⊢
      simp -implicitDefEqProofs only [go_sem, ↓reduceIte, Int.reduceEq, Int.reduceLT, Int.reduceLE, List.reduceReplicate, intA, setT_nil, setT_cons, sizeP hNY, settleP0 hNY, settleP hNY]
      exact ⟨μ - 1, by omega, hQ _ _ _ ⟨i + 1, (ds ++ [r.word], own), .sl b (v + 1) 0 (ds.length + 1) none, by omega, (ht.trans hq).symm, by simp only [List.length_append, List.length_cons, List.length_nil] at hsl ⊢; omega, rfl, (hmore.plus _).trim hn2 (by rw [plus_size]; omega) _ _ (le_boundL (by simp))⟩⟩
  · obtain rfl : i = rs.length := by omega
    rw [List.take_length] at hs
    have hc := hK Y out (by rw [← hs]; exact hM)
    rw [← hs] at hc
    unfold T79 at hc
    rw [← plus_nil Y] at hc ⊢
    simp -implicitDefEqProofs only [go_sem, ↓reduceIte, Int.reduceEq, Int.reduceLT, Int.reduceLE, List.reduceReplicate, intA, setT_nil, setT_cons, ↓boolP_bool, ↓iteB_true, ↓iteB_false, hr1, hx.len, List.length_map, Int.lt_irrefl, sizeP hN, settleP0 hN, settleP hN, trimP0 hN, List.length_nil, Nat.add_zero]
    exact hKK _ _ _ hc
end Go.Ev
namespace Go.Ev
open Go.Proofs
set_option maxRecDepth 100000
set_option linter.unusedSimpArgs false
attribute [local irreducible] Wp WpS
theorem M79.trim' {id : Int} {x : AV} {H : Heap} {ds : List ByteArray} {out : AV} (h : M79 id x H ds out) {n : Nat} (hn : 2 ≤ n) (vs : List AV) (ms : List Nat) (hv : bound out ≤ boundL vs) : M79 id x (H.trim n vs ms) ds out := by
  by_cases h2 : n ≤ H.size
  · exact h.trim hn h2 vs ms hv
  · rw [trim_whole (by omega)]; exact h
theorem refI_len (k n w : Int) : ∀ (rs : List Rd) (s : List ByteArray × ByteArray), (rs.foldl (refI k n w) s).1.length ≤ s.1.length + rs.length
  | [], s => Nat.le_refl _
  | r :: rs, s => by
    have h := refI_len k n w rs (refI k n w s r)
    have h2 : (refI k n w s r).1.length ≤ s.1.length + 1 := by
      unfold refI; split
      · split
        · simp
        · exact Nat.le_succ _
      · exact Nat.le_succ _
    simp only [List.foldl_cons, List.length_cons]; omega
theorem refW_len (l : Line) (rs : List Rd) (k n : Int) (w : Nat) (ds : List ByteArray) : (refW l rs k n ds w).length ≤ ds.length + rs.length + 1 := by
  have h := refI_len k n w rs (ds, (l[w]?).getD emp)
  unfold refW
  simp only at h ⊢
  split
  · omega
  · rw [List.length_append]; simp only [List.length_cons, List.length_nil]; omega
theorem refs_len (l : Line) (rs : List Rd) (k n : Int) (hrs : rs.length ≤ 1000) : ∀ w : Nat, ((List.range w).foldl (refW l rs k n) []).length ≤ w * 1001
  | 0 => Nat.le_refl _
  | w + 1 => by
    rw [List.range_succ, List.foldl_append]
    have h := refs_len l rs k n hrs w
    have h2 := refW_len l rs k n w ((List.range w).foldl (refW l rs k n) [])
    show (refW l rs k n _ w).length ≤ _
    omega
set_option maxHeartbeats 2000000 in
theorem ans79 {e : Exts} (t : Txt) (ht : Fits t) (ch : AV) (xs : List AV) (hch : SlOf 2 xs ch) (hall : All2 ChapA t xs) (id : Int) (rs : List Rd) (x : AV) (hx : RdsA rs x) (k n : Nat) (cp : Chap) (hk : t[k]? = some cp) (ln : Line) (hn : cp.2[n]? = some ln) (hlen : ln.length ≤ 1000) (hrs : rs.length ≤ 1000) : ∃ v, SlOf 1 (strs (refLine ln rs k n)) v ∧ Ans (Cx e) 79 [.agg [ch], .agg [intA id, x], intA k, intA n] v := by
  have hx : SlOf 5 (rs.map rdV) x := hx
  obtain ⟨z, hz, l, rfl, lxs, hl, hls⟩ := hall.get hk
  obtain ⟨lx, hlx, hll⟩ := hls.get hn
  have hll : SlOf 1 (strs ln) lx := hll
  have hi := hch.idx hz
  unfold intA at hi
  refine ans_of_P ?_
  rw [fn_step (fn_79 e) (show Tryz.f79.body = some _ from rfl)]
  simp -implicitDefEqProofs only [Tryz.f79, go_sem, ↓reduceIte, Int.reduceEq, Int.reduceLT, Int.reduceLE, List.reduceReplicate, intA, setT_nil, setT_cons, hch.cells, hch.flat, hch.bound, hx.cells, hx.flat, hx.bound, hi, hl.cells, hl.idx hlx, hll.cells, hll.flat]
  refine Lp_rule (P := fun μ a H => ∃ w ds out, w + μ = ln.length + 1 ∧ a = ⟨86, [(0, .agg [ch]), (1, .agg [intA id, x]), (2, intA k), (3, intA n), (4, .ptr 0 0 0), (5, .ptr 1 0 0), (8, .v (.slice none 0 0)), (9, out), (10, lx), (11, intA w)], []⟩ ∧ M79 id x H ds out ∧ ds = (List.range w).foldl (refW ln rs k n) []) ?_ (ln.length + 1) _ _ ⟨0, [], .v (.slice none 0 0), by omega, rfl, ⟨rfl, Nat.le_refl _, rfl, Or.inl ⟨rfl, rfl⟩⟩, rfl⟩
  rintro μ _ X ⟨w, ds, out, hw0, rfl, hM, hds⟩
  have hfit := ht.words cp (List.mem_of_getElem? hk) ln (List.mem_of_getElem? hn)
  by_cases hle : (w : Int) ≤ (ln.length : Int)
  · have hw := wrap_succ w (by omega)
    have hds2 : ds.length ≤ w * 1001 := by rw [hds]; exact refs_len ln rs k n hrs w
    have hNx : ds.length + rs.length < 2 ^ 32 := by omega
    have hstep : (List.range (w + 1)).foldl (refW ln rs k n) [] = refW ln rs k n ds w := by rw [List.range_succ, List.foldl_append, ← hds]; rfl
    by_cases hlt : (w : Int) < (ln.length : Int)
    · obtain ⟨s, hs⟩ := at_lt ln w (by omega)
      have hsi := hll.idx (strs_get hs)
      have how : (ln[w]?).getD emp = s := by rw [hs]; rfl
      simp -implicitDefEqProofs only [go_sem, ↓reduceIte, Int.reduceEq, Int.reduceLT, Int.reduceLE, List.reduceReplicate, intA, setT_nil, setT_cons, ↓boolP_bool, ↓iteB_true, ↓iteB_false, hll.len, strs_len, hle, hlt, hsi]
      refine inner79 rs x hx ch lx id k n w true ds s _ ?_ X out hM hNx
      intro Y o2 hM2
      unfold T79
      obtain ⟨N, hN⟩ : ∃ N, Y.size = N := ⟨_, rfl⟩
      have hlk : Y.lock ≤ N := by have := hM2.lock; omega
      have hl2 := refI_len k n w rs (ds, s)
      have hqW : refW ln rs k n ds w = if (rs.foldl (refI k n w) (ds, s)).2 = emp then (rs.foldl (refI k n w) (ds, s)).1 else (rs.foldl (refI k n w) (ds, s)).1 ++ [(rs.foldl (refI k n w) (ds, s)).2] := by unfold refW; rw [how]
      generalize rs.foldl (refI k n w) (ds, s) = st at hM2 hl2 hqW ⊢
      obtain ⟨ds2, own2⟩ := st
      simp only at hM2 hl2 hqW
      rw [← plus_nil Y]
      by_cases he : own2 = ({ data := #[] } : ByteArray)
      · rw [if_pos (show own2 = emp from he)] at hqW
        have he' : decide (own2 = ({ data := #[] } : ByteArray)) = true := decide_eq_true he
        simp -implicitDefEqProofs only [go_sem, ↓reduceIte, Int.reduceEq, Int.reduceLT, Int.reduceLE, List.reduceReplicate, intA, setT_nil, setT_cons, ↓boolP_bool, ↓iteB_true, ↓iteB_false, bin_sne, he', hw, sizeP hN, settleP0 hN, settleP hN, List.length_nil, Nat.add_zero]
        exact ⟨μ - 1, by omega, w + 1, ds2, o2, by omega, rfl, (hM2.plus _).trim' hM.size _ _ (le_boundL (by simp)), by rw [hstep, hqW]⟩
      · rw [if_neg (show ¬ own2 = emp from he)] at hqW
        have he' : decide (own2 = ({ data := #[] } : ByteArray)) = false := decide_eq_false he
        rcases hM2.done with ⟨hd, ho⟩ | ⟨b, v, hb1, hb2, ho, hrow⟩
        · subst hd ho
          simp -implicitDefEqProofs only [go_sem, ↓reduceIte, Int.reduceEq, Int.reduceLT, Int.reduceLE, List.reduceReplicate, intA, setT_nil, setT_cons, ↓boolP_bool, ↓iteB_true, ↓iteB_false, bin_sne, he', hw, fitsA1, List.flatMap_cons, List.flatMap_nil, sizeP hN, putP0 hN, putP hN, settleP0 hN, settleP hN, rowP0 hN, rowP hN, storeP0 hN hlk, storeP hN hlk, List.length_nil, Nat.add_zero]
          have hnew := hM2.new hN [some (.cells 0 0 9 1 true [.v (.string own2)])] 0 [own2] rfl
          exact ⟨μ - 1, by omega, w + 1, [] ++ [own2], .sl N 0 0 1 none, by omega, rfl, hnew.trim' hM.size _ _ (le_boundL (by simp)), by rw [hstep, hqW]⟩
        · subst ho
          have hrp : ∀ E, (Y.plus E).row b v = some (0, 9, 1, true, strs ds2) := fun E => by rw [rowLo hb2]; exact hrow
          have hf : fitsA 16 (ds2.length + 1) = true := by unfold fitsA; exact decide_eq_true (by omega)
          have hmore := hM2.more hb2 hrow [own2] (ds2.length + 1) rfl
          simp -implicitDefEqProofs only [go_sem, ↓reduceIte, Int.reduceEq, Int.reduceLT, Int.reduceLE, List.reduceReplicate, intA, setT_nil, setT_cons, ↓boolP_bool, ↓iteB_true, ↓iteB_false, bin_sne, he', hw, List.flatMap_cons, List.flatMap_nil, sizeP hN, putP0 hN, putP hN, settleP0 hN, settleP hN, rowP0 hN, rowP hN, storeP0 hN hlk, storeP hN hlk, List.length_nil, Nat.add_zero]
          rw [appTo_own (m := 0) (e' := 9) (cs := strs ds2) (hrp _) (by rw [strs_len, Nat.mul_one]) hb1 hf (by omega) (by omega)]
          rw [putLo hb2]
          have hNY : (Y.put b (.cells (v + 1) (Nat.max 0 0) 9 1 true (strs ds2 ++ [.v (.string own2)]))).size = N := by rw [put_sizeI _ hb2]; exact hN
          have hst : strs (ds2 ++ [own2]) = strs ds2 ++ [.v (.string own2)] := strs_append _ _
          rw [hst] at hmore
          change M79 id x (Y.put b (.cells (v + 1) (Nat.max 0 0) 9 1 true (strs ds2 ++ [.v (.string own2)]))) _ _ at hmore
          change bindO (some (AV.sl b (v + 1) 0 (ds2.length + 1) none, (Y.put b (.cells (v + 1) (Nat.max 0 0) 9 1 true (strs ds2 ++ [.v (.string own2)]))).plus _)) _
          generalize Y.put b (.cells (v + 1) (Nat.max 0 0) 9 1 true (strs ds2 ++ [.v (.string own2)])) = Z at hmore hNY ⊢
          simp -implicitDefEqProofs only [go_sem, ↓reduceIte, Int.reduceEq, Int.reduceLT, Int.reduceLE, List.reduceReplicate, intA, setT_nil, setT_cons, ↓boolP_bool, ↓iteB_true, ↓iteB_false, hw, sizeP hNY, settleP0 hNY, settleP hNY]
          exact ⟨μ - 1, by omega, w + 1, ds2 ++ [own2], .sl b (v + 1) 0 (ds2.length + 1) none, by omega, rfl, (hmore.plus _).trim' hM.size _ _ (le_boundL (by simp)), by rw [hstep, hqW]⟩
    · obtain rfl : w = ln.length := by omega
      simp -implicitDefEqProofs only [go_sem, ↓reduceIte, Int.reduceEq, Int.reduceLT, Int.reduceLE, List.reduceReplicate, intA, setT_nil, setT_cons, ↓boolP_bool, ↓iteB_true, ↓iteB_false, hll.len, strs_len, hle, hlt]
      refine inner79 rs x hx ch lx id k n ln.length false ds emp _ ?_ X out hM hNx
      intro Y o2 hM2
      have how : (ln[ln.length]?).getD emp = emp := by rw [List.getElem?_eq_none_iff.2 (Nat.le_refl _)]; rfl
      unfold T79
      obtain ⟨N, hN⟩ : ∃ N, Y.size = N := ⟨_, rfl⟩
      have hlk : Y.lock ≤ N := by have := hM2.lock; omega
      have hl2 := refI_len k n ln.length rs (ds, emp)
      have hqW : refW ln rs k n ds ln.length = if (rs.foldl (refI k n ln.length) (ds, emp)).2 = emp then (rs.foldl (refI k n ln.length) (ds, emp)).1 else (rs.foldl (refI k n ln.length) (ds, emp)).1 ++ [(rs.foldl (refI k n ln.length) (ds, emp)).2] := by unfold refW; rw [how]
      generalize rs.foldl (refI k n ln.length) (ds, emp) = st at hM2 hl2 hqW ⊢
      obtain ⟨ds2, own2⟩ := st
      simp only at hM2 hl2 hqW
      rw [← plus_nil Y]
      by_cases he : own2 = ({ data := #[] } : ByteArray)
      · rw [if_pos (show own2 = emp from he)] at hqW
        have he' : decide (own2 = ({ data := #[] } : ByteArray)) = true := decide_eq_true he
        simp -implicitDefEqProofs only [go_sem, ↓reduceIte, Int.reduceEq, Int.reduceLT, Int.reduceLE, List.reduceReplicate, intA, setT_nil, setT_cons, ↓boolP_bool, ↓iteB_true, ↓iteB_false, bin_sne, he', hw, sizeP hN, settleP0 hN, settleP hN, List.length_nil, Nat.add_zero]
        exact ⟨μ - 1, by omega, ln.length + 1, ds2, o2, by omega, rfl, (hM2.plus _).trim' hM.size _ _ (le_boundL (by simp)), by rw [hstep, hqW]⟩
      · rw [if_neg (show ¬ own2 = emp from he)] at hqW
        have he' : decide (own2 = ({ data := #[] } : ByteArray)) = false := decide_eq_false he
        rcases hM2.done with ⟨hd, ho⟩ | ⟨b, v, hb1, hb2, ho, hrow⟩
        · subst hd ho
          simp -implicitDefEqProofs only [go_sem, ↓reduceIte, Int.reduceEq, Int.reduceLT, Int.reduceLE, List.reduceReplicate, intA, setT_nil, setT_cons, ↓boolP_bool, ↓iteB_true, ↓iteB_false, bin_sne, he', hw, fitsA1, List.flatMap_cons, List.flatMap_nil, sizeP hN, putP0 hN, putP hN, settleP0 hN, settleP hN, rowP0 hN, rowP hN, storeP0 hN hlk, storeP hN hlk, List.length_nil, Nat.add_zero]
          have hnew := hM2.new hN [some (.cells 0 0 9 1 true [.v (.string own2)])] 0 [own2] rfl
          exact ⟨μ - 1, by omega, ln.length + 1, [] ++ [own2], .sl N 0 0 1 none, by omega, rfl, hnew.trim' hM.size _ _ (le_boundL (by simp)), by rw [hstep, hqW]⟩
        · subst ho
          have hrp : ∀ E, (Y.plus E).row b v = some (0, 9, 1, true, strs ds2) := fun E => by rw [rowLo hb2]; exact hrow
          have hf : fitsA 16 (ds2.length + 1) = true := by unfold fitsA; exact decide_eq_true (by omega)
          have hmore := hM2.more hb2 hrow [own2] (ds2.length + 1) rfl
          simp -implicitDefEqProofs only [go_sem, ↓reduceIte, Int.reduceEq, Int.reduceLT, Int.reduceLE, List.reduceReplicate, intA, setT_nil, setT_cons, ↓boolP_bool, ↓iteB_true, ↓iteB_false, bin_sne, he', hw, List.flatMap_cons, List.flatMap_nil, sizeP hN, putP0 hN, putP hN, settleP0 hN, settleP hN, rowP0 hN, rowP hN, storeP0 hN hlk, storeP hN hlk, List.length_nil, Nat.add_zero]
          rw [appTo_own (m := 0) (e' := 9) (cs := strs ds2) (hrp _) (by rw [strs_len, Nat.mul_one]) hb1 hf (by omega) (by omega)]
          rw [putLo hb2]
          have hNY : (Y.put b (.cells (v + 1) (Nat.max 0 0) 9 1 true (strs ds2 ++ [.v (.string own2)]))).size = N := by rw [put_sizeI _ hb2]; exact hN
          have hst : strs (ds2 ++ [own2]) = strs ds2 ++ [.v (.string own2)] := strs_append _ _
          rw [hst] at hmore
          change M79 id x (Y.put b (.cells (v + 1) (Nat.max 0 0) 9 1 true (strs ds2 ++ [.v (.string own2)]))) _ _ at hmore
          change bindO (some (AV.sl b (v + 1) 0 (ds2.length + 1) none, (Y.put b (.cells (v + 1) (Nat.max 0 0) 9 1 true (strs ds2 ++ [.v (.string own2)]))).plus _)) _
          generalize Y.put b (.cells (v + 1) (Nat.max 0 0) 9 1 true (strs ds2 ++ [.v (.string own2)])) = Z at hmore hNY ⊢
          simp -implicitDefEqProofs only [go_sem, ↓reduceIte, Int.reduceEq, Int.reduceLT, Int.reduceLE, List.reduceReplicate, intA, setT_nil, setT_cons, ↓boolP_bool, ↓iteB_true, ↓iteB_false, hw, sizeP hNY, settleP0 hNY, settleP hNY]
          exact ⟨μ - 1, by omega, ln.length + 1, ds2 ++ [own2], .sl b (v + 1) 0 (ds2.length + 1) none, by omega, rfl, (hmore.plus _).trim' hM.size _ _ (le_boundL (by simp)), by rw [hstep, hqW]⟩
  · have hw1 : w = ln.length + 1 := by omega
    have hfin : ds = refLine ln rs k n := by rw [hds, hw1]; rfl
    rw [hfin] at hM
    obtain ⟨v, hv1, hv2⟩ := freeze_done hM.done hM.lock
    simp -implicitDefEqProofs only [go_sem, ↓reduceIte, Int.reduceEq, Int.reduceLT, Int.reduceLE, List.reduceReplicate, intA, setT_nil, setT_cons, ↓boolP_bool, ↓iteB_true, ↓iteB_false, hll.len, strs_len, hle]
    exact ⟨v, hv2, hv1⟩
end Go.Ev
namespace Go.Ev
open Go.Proofs
set_option maxRecDepth 100000
set_option linter.unusedSimpArgs false
attribute [local irreducible] Wp WpS
theorem call78 {e : Exts} (he : Quiet e) (t : Txt) (ht : Fits t) (ch : AV) (xs : List AV) (hch : SlOf 2 xs ch) (hall : All2 ChapA t xs) (r : Rd) (hr : RdF r) (me : FuncId) (d : Option Tmp) (H : Heap) : callA (Cx e) (lim (Cx e)) me 78 d [.agg [ch], rdV r] H = some (.v (.bool (readB t r)), H) :=
  (ans78 he t ht ch xs hch hall r hr).call (ext_78 he) (pure_78 _ _ _) (by simp only [boundL_cons, bound_agg, hch.bound, rdV_bound, boundL_nil]; rfl) H
theorem call79 {e : Exts} (he : Quiet e) (t : Txt) (ht : Fits t) (ch : AV) (xs : List AV) (hch : SlOf 2 xs ch) (hall : All2 ChapA t xs) (id : Int) (rs : List Rd) (x : AV) (hx : RdsA rs x) (k n : Nat) (cp : Chap) (hk : t[k]? = some cp) (ln : Line) (hn : cp.2[n]? = some ln) (hlen : ln.length ≤ 1000) (hrs : rs.length ≤ 1000) :
    ∃ v, SlOf 1 (strs (refLine ln rs k n)) v ∧ ∀ (me : FuncId) (d : Option Tmp) (H : Heap), callA (Cx e) (lim (Cx e)) me 79 d [.agg [ch], .agg [.v (.int .i64 id), x], .v (.int .i64 k), .v (.int .i64 n)] H = some (v, H) := by
  obtain ⟨v, hv, ha⟩ := ans79 (e := e) t ht ch xs hch hall id rs x hx k n cp hk ln hn hlen hrs
  exact ⟨v, hv, fun me d H => ha.call (ext_79 he) (pure_79 _ _ _) (by simp only [boundL_cons, bound_agg, hch.bound, intA, bound_v, SlOf.bound hx, boundL_nil]; rfl) H⟩
/-- for texts without empty lines the two tests of a reading agree -/
theorem fit_read {t : Txt} {r : Rd} (h : ∀ l, lineAt t r.ch r.ln = some l → l.length ≠ 0) : fitOne t r = readB t r := by
  unfold fitOne readB
  cases hL : lineAt t r.ch r.ln with
  | none => rfl
  | some l =>
    have h0 := h l hL
    have hz : decide (l.length = 0) = false := decide_eq_false h0
    simp only [hz, Bool.not_false, Bool.true_and]
    by_cases h1 : r.kind = 1
    · rw [h1]; rfl
    · by_cases h2 : r.kind = 2
      · rw [h2]; rfl
      · by_cases h3 : r.kind = 3
        · rw [h3]; rfl
        · rw [if_neg h1, if_neg h1, if_neg h2, if_neg h2, if_neg h3]
          have : withinB 1 3 [r.kind] = false := by
            simp only [withinB, List.all_cons, List.all_nil, Bool.and_true, Bool.and_eq_false_iff, decide_eq_false_iff_not]; omega
          rw [this]; rfl
end Go.Ev
namespace Go.Ev
open Go.Proofs
set_option maxRecDepth 100000
set_option linter.unusedSimpArgs false
attribute [local irreducible] Wp WpS
/-! ### a copy, by the reference -/
def pairR (p r : Rd) : Bool := !(beforeB (r.ch, r.ln, r.wd) (p.ch, p.ln, p.wd) || (eqP r.ch r.ln r.wd p.ch p.ln p.wd && !decide (p.kind = 2)))
def rdsB (t : Txt) : Option Rd → List Rd → Bool
  | _, [] => true
  | p, r :: l => readB t r && (match p with | none => true | some p => pairR p r) && rdsB t (some r) l
def linesN (rs : List Rd) (k : Nat) : Nat → List Line → Bool
  | _, [] => true
  | n, l :: r => withinB 1 10 [((refLine l rs k n).length : Int)] && linesN rs k (n + 1) r
def chapsN (rs : List Rd) : Nat → Txt → Bool
  | _, [] => true
  | k, c :: r => linesN rs k 0 c.2 && chapsN rs (k + 1) r
def copyB (t : Txt) (id : Int) (rs : List Rd) : Bool := withinB 0 9999 [id] && !decide (20 < (rs.length : Int)) && (rdsB t none rs && chapsN rs 0 t)
set_option maxHeartbeats 4000000 in
theorem ans57 {e : Exts} (he : Quiet e) (t : Txt) (ht : Fits t) (hlen : ∀ c ∈ t, ∀ l ∈ c.2, l.length ≤ 1000) (ch : AV) (xs : List AV) (hch : SlOf 2 xs ch) (hall : All2 ChapA t xs) (id : Int) (rs : List Rd) (x : AV) (hx : RdsA rs x) (hrf : ∀ r ∈ rs, RdF r) : Ans (Cx e) 57 [.agg [ch], .agg [intA id, x]] (.v (.bool (copyB t id rs))) := by
  have hxr := hx
  have hx : SlOf 5 (rs.map rdV) x := hx
  have hfit := ht.chs
  have h43 := call43 he id 0 9999
  unfold Ans
  rw [fn_step (fn_57 e) (show Tryz.f57.body = some _ from rfl)]
  cases h1 : withinB 0 9999 [id]
  · rw [h1] at h43
    have hB : copyB t id rs = false := by unfold copyB; rw [h1]; rfl
    rw [hB]
    simp -implicitDefEqProofs only [Tryz.f57, go_sem, ↓reduceIte, Int.reduceEq, Int.reduceLT, Int.reduceLE, List.reduceReplicate, intA, setT_nil, setT_cons, ↓boolP_bool, ↓iteB_true, ↓iteB_false, hch.cells, hch.flat, hch.bound, hx.cells, hx.flat, hx.bound, hx.len, List.length_map, h43]
  by_cases h20 : 20 < (rs.length : Int)
  · have h2 : decide (20 < (rs.length : Int)) = true := decide_eq_true h20
    rw [h1] at h43
    have hB : copyB t id rs = false := by unfold copyB; rw [h1, h2]; rfl
    rw [hB]
    simp -implicitDefEqProofs only [Tryz.f57, go_sem, ↓reduceIte, Int.reduceEq, Int.reduceLT, Int.reduceLE, List.reduceReplicate, intA, setT_nil, setT_cons, ↓boolP_bool, ↓iteB_true, ↓iteB_false, hch.cells, hch.flat, hch.bound, hx.cells, hx.flat, hx.bound, hx.len, List.length_map, h43, h2]
  have h2 : decide (20 < (rs.length : Int)) = false := decide_eq_false h20
  rw [h1] at h43
  have hB : copyB t id rs = (rdsB t none rs && chapsN rs 0 t) := by unfold copyB; rw [h1, h2]; rfl
  rw [hB]
  simp -implicitDefEqProofs only [Tryz.f57, go_sem, ↓reduceIte, Int.reduceEq, Int.reduceLT, Int.reduceLE, List.reduceReplicate, intA, setT_nil, setT_cons, ↓boolP_bool, ↓iteB_true, ↓iteB_false, hch.cells, hch.flat, hch.bound, hx.cells, hx.flat, hx.bound, hx.len, List.length_map, h43, h2]
  refine Lp_rule (P := fun μ a H => ∃ j, j + μ = rs.length ∧ a = ⟨97, [(0, .agg [ch]), (1, .agg [intA id, x]), (2, .ptr 0 0 0), (3, .ptr 1 0 0), (4, .v (.bool false)), (18, .v (.bool false)), (5, intA j)], []⟩ ∧ H = ⟨[some (.cells 0 0 24 1 false [ch]), some (.cells 0 0 53 1 false [intA id, x])], 0⟩ ∧ rdsB t none rs = rdsB t (if j = 0 then none else rs[j - 1]?) (rs.drop j)) ?_ rs.length _ _ ⟨0, by omega, rfl, rfl, rfl⟩
  rintro μ _ _ ⟨j, hj, rfl, rfl, ho⟩
  by_cases hlt : (j : Int) < (rs.length : Int)
  · obtain ⟨r, hr⟩ := at_lt rs j (by omega)
    have hw := wrap_succ j (by omega)
    have hir := hx.idx (rds_get hr)
    have hc78 := call78 he t ht ch xs hch hall r (hrf r (List.mem_of_getElem? hr))
    unfold rdV at hir hc78
    rw [drop_eq_cons hr] at ho
    cases hrd : readB t r
    · have hf : rdsB t none rs = false := by rw [ho]; unfold rdsB; rw [hrd, Bool.false_and, Bool.false_and]
      rw [hrd] at hc78
      rw [hf, Bool.false_and]
      simp -implicitDefEqProofs only [go_sem, ↓reduceIte, Int.reduceEq, Int.reduceLT, Int.reduceLE, List.reduceReplicate, intA, setT_nil, setT_cons, ↓boolP_bool, ↓iteB_true, ↓iteB_false, trim_at, hx.bound, hch.bound, hx.len, List.length_map, hch.cells, hx.cells, hlt, hw, hir, hc78]
    rw [hrd] at hc78
    cases j with
    | zero =>
      have hf : rdsB t none rs = rdsB t (some r) (rs.drop 1) := by rw [ho]; show (readB t r && true && _) = _; rw [hrd]; rfl
      simp -implicitDefEqProofs only [go_sem, ↓reduceIte, Int.reduceEq, Int.reduceLT, Int.reduceLE, List.reduceReplicate, intA, setT_nil, setT_cons, ↓boolP_bool, ↓iteB_true, ↓iteB_false, trim_at, hx.bound, hch.bound, hx.len, List.length_map, hch.cells, hx.cells, hlt, hw, hir, hc78]
      refine wp_drawX [([], [], false), ([], [], false), ([], [], false), ([], [], false), ([], [], false), ([], [], false), ([4], [], false), ([], [], false), ([], [], false), ([], [], false), ([], [], false), ([4], [], false), ([], [], false), ([], [], false), ([], [], false), ([], [], false), ([], [], false), ([15], [], false), ([], [], false), ([], [], false), ([], [], false), ([], [], false), ([15], [], false), ([], [], false), ([], [], false), ([], [], false), ([], [], false), ([], [], false), ([], [], false), ([], [], false), ([], [], false), ([], [], false), ([], [], false), ([], [], false), ([], [], false), ([], [], false)] (by kernel_rfl) (by kernel_rfl) ?_
      simp -implicitDefEqProofs only [go_sem, ↓reduceIte, Int.reduceEq, Int.reduceLT, Int.reduceLE, List.reduceReplicate, intA, setT_nil, setT_cons, ↓boolP_bool, ↓iteB_true, ↓iteB_false, trim_at, hx.bound, hch.bound, hx.len, List.length_map, hch.cells, hx.cells, hw, Int.natCast_zero, Int.lt_irrefl, decide_false, show IntKind.i64.wrap (0 + 1) = 1 from rfl]
      exact ⟨μ - 1, by omega, 1, by omega, rfl, rfl, by rw [hf, if_neg (by omega)]; show _ = rdsB t rs[0]? _; rw [hr]⟩
    | succ i => 
      obtain ⟨p, hp⟩ := at_lt rs i (by omega)
      have hip := hx.idx (rds_get hp)
      unfold rdV at hip
      have hw1 : IntKind.i64.wrap (((i + 1 : Nat) : Int) - 1) = (i : Int) := by rw [wrap_in _ (by omega) (by omega)]; omega
      have hpos : (0 : Int) < ((i + 1 : Nat) : Int) := by omega
      have hc18 : ∀ (me : FuncId) (d : Option Tmp), callI (Cx e) me 18 d [.agg [.v (.int .i64 r.ch), .v (.int .i64 r.ln), .v (.int .i64 r.wd)], .agg [.v (.int .i64 p.ch), .v (.int .i64 p.ln), .v (.int .i64 p.wd)]] = some (.v (.bool (beforeB (r.ch, r.ln, r.wd) (p.ch, p.ln, p.wd)))) := fun me d => (ans18 r.ch r.ln r.wd p.ch p.ln p.wd).callI (ext_18 he) (pure_18 _ _ _) rfl
      have hf : rdsB t none rs = (pairR p r && rdsB t (some r) (rs.drop (i + 1 + 1))) := by rw [ho, if_neg (by omega), Nat.add_sub_cancel, hp]; show (readB t r && pairR p r && _) = _; rw [hrd]; rfl
      simp -implicitDefEqProofs only [go_sem, ↓reduceIte, Int.reduceEq, Int.reduceLT, Int.reduceLE, List.reduceReplicate, intA, setT_nil, setT_cons, ↓boolP_bool, ↓iteB_true, ↓iteB_false, trim_at, hx.bound, hch.bound, hx.len, List.length_map, hch.cells, hx.cells, hlt, hw, hir, hc78]
      refine wp_drawX [([], [], false), ([], [], false), ([], [], false), ([], [], false), ([], [], false), ([], [], false), ([4], [], false), ([], [], false), ([], [], false), ([], [], false), ([], [], false), ([4], [], false), ([], [], false), ([], [], false), ([], [], false), ([], [], false), ([], [], false), ([15], [], false), ([], [], false), ([], [], false), ([], [], false), ([], [], false), ([15], [], false), ([], [], false), ([], [], false), ([], [], false), ([], [], false), ([], [], false), ([], [], false), ([], [], false), ([], [], false), ([], [], false), ([], [], false), ([], [], false), ([], [], false), ([], [], false)] (by kernel_rfl) (by kernel_rfl) ?_
      cases k1 : beforeB (r.ch, r.ln, r.wd) (p.ch, p.ln, p.wd)
      · cases k2 : eqP r.ch r.ln r.wd p.ch p.ln p.wd
        · have hpr : pairR p r = true := by unfold pairR; rw [k1, k2]; rfl
          rw [k1] at hc18
          simp -implicitDefEqProofs only [go_sem, ↓reduceIte, Int.reduceEq, Int.reduceLT, Int.reduceLE, List.reduceReplicate, intA, setT_nil, setT_cons, ↓boolP_bool, ↓iteB_true, ↓iteB_false, trim_at, hx.bound, hch.bound, hx.len, List.length_map, hch.cells, hx.cells, hw, hw1, hpos, hip, hc18, eq32, k2]
          exact ⟨μ - 1, by omega, i + 1 + 1, by omega, rfl, rfl, by rw [hf, hpr, Bool.true_and, if_neg (by omega), Nat.add_sub_cancel, hr]⟩
        · cases k3 : decide (p.kind = 2)
          · have hpr : pairR p r = false := by unfold pairR; rw [k1, k2, k3]; rfl
            rw [k1] at hc18
            rw [hf, hpr, Bool.false_and, Bool.false_and]
            simp -implicitDefEqProofs only [go_sem, ↓reduceIte, Int.reduceEq, Int.reduceLT, Int.reduceLE, List.reduceReplicate, intA, setT_nil, setT_cons, ↓boolP_bool, ↓iteB_true, ↓iteB_false, trim_at, hx.bound, hch.bound, hx.len, List.length_map, hch.cells, hx.cells, hw, hw1, hpos, hip, hc18, eq32, k2, bin_neq8, k3]
          · have hpr : pairR p r = true := by unfold pairR; rw [k1, k2, k3]; rfl
            rw [k1] at hc18
            simp -implicitDefEqProofs only [go_sem, ↓reduceIte, Int.reduceEq, Int.reduceLT, Int.reduceLE, List.reduceReplicate, intA, setT_nil, setT_cons, ↓boolP_bool, ↓iteB_true, ↓iteB_false, trim_at, hx.bound, hch.bound, hx.len, List.length_map, hch.cells, hx.cells, hw, hw1, hpos, hip, hc18, eq32, k2, bin_neq8, k3]
            exact ⟨μ - 1, by omega, i + 1 + 1, by omega, rfl, rfl, by rw [hf, hpr, Bool.true_and, if_neg (by omega), Nat.add_sub_cancel, hr]⟩
      · have hpr : pairR p r = false := by unfold pairR; rw [k1]; rfl
        rw [k1] at hc18
        rw [hf, hpr, Bool.false_and, Bool.false_and]
        simp -implicitDefEqProofs only [go_sem, ↓reduceIte, Int.reduceEq, Int.reduceLT, Int.reduceLE, List.reduceReplicate, intA, setT_nil, setT_cons, ↓boolP_bool, ↓iteB_true, ↓iteB_false, trim_at, hx.bound, hch.bound, hx.len, List.length_map, hch.cells, hx.cells, hw, hw1, hpos, hip, hc18]
  · have hdone : rdsB t none rs = true := by rw [ho, show rs.drop j = [] from List.drop_eq_nil_of_le (by omega)]; rfl
    rw [hdone, Bool.true_and]
    simp -implicitDefEqProofs only [go_sem, ↓reduceIte, Int.reduceEq, Int.reduceLT, Int.reduceLE, List.reduceReplicate, intA, setT_nil, setT_cons, ↓boolP_bool, ↓iteB_true, ↓iteB_false, trim_at, hx.bound, hch.bound, hx.len, List.length_map, hch.cells, hx.cells, hlt]
    have hj5 : j = rs.length := by omega
    subst hj5
    refine Lp_rule (P := fun μ a H => ∃ k, k + μ = t.length ∧ a = ⟨97, [(0, .agg [ch]), (1, .agg [intA id, x]), (2, .ptr 0 0 0), (3, .ptr 1 0 0), (4, .v (.bool false)), (18, .v (.bool false)), (5, intA rs.length), (7, intA k)], []⟩ ∧ H = ⟨[some (.cells 0 0 24 1 false [ch]), some (.cells 0 0 53 1 false [intA id, x])], 0⟩ ∧ chapsN rs 0 t = chapsN rs k (t.drop k)) ?_ t.length _ _ ⟨0, by omega, rfl, rfl, rfl⟩
    rintro μ2 _ _ ⟨k, hk, rfl, rfl, hok⟩
    by_cases hltk : (k : Int) < (t.length : Int)
    · obtain ⟨cp, hcp⟩ := at_lt t k (by omega)
      have hwk := wrap_succ k (by omega)
      obtain ⟨z, hz, l, rfl, lxs, hll, hls⟩ := hall.get hcp
      have hik := hch.idx hz
      unfold intA at hik
      have hcm := List.mem_of_getElem? hcp
      have hfl := ht.lines cp hcm
      rw [drop_eq_cons hcp] at hok
      simp -implicitDefEqProofs only [go_sem, ↓reduceIte, Int.reduceEq, Int.reduceLT, Int.reduceLE, List.reduceReplicate, intA, setT_nil, setT_cons, ↓boolP_bool, ↓iteB_true, ↓iteB_false, trim_at, hx.bound, hch.bound, hx.len, List.length_map, hch.cells, hx.cells, hch.len, ← hall.1, hltk]
      refine Lp_rule (P := fun μ a H => ∃ n, n + μ = cp.2.length ∧ a = ⟨97, [(0, .agg [ch]), (1, .agg [intA id, x]), (2, .ptr 0 0 0), (3, .ptr 1 0 0), (4, .v (.bool false)), (18, .v (.bool false)), (5, intA rs.length), (7, intA k), (75, .v (.bool true)), (8, intA n)], []⟩ ∧ H = ⟨[some (.cells 0 0 24 1 false [ch]), some (.cells 0 0 53 1 false [intA id, x])], 0⟩ ∧ linesN rs k 0 cp.2 = linesN rs k n (cp.2.drop n)) ?_ cp.2.length _ _ ⟨0, by omega, rfl, rfl, rfl⟩
      rintro μ3 _ _ ⟨n, hn, rfl, rfl, hon⟩
      by_cases hltn : (n : Int) < (cp.2.length : Int)
      · obtain ⟨ln, hln⟩ := at_lt cp.2 n (by omega)
        have hwn := wrap_succ n (by omega)
        obtain ⟨v, hv, h79⟩ := call79 he t ht ch xs hch hall id rs x hxr k n cp hcp ln hln (hlen cp hcm ln (List.mem_of_getElem? hln)) (by omega)
        have hv : SlOf 1 (strs (refLine ln rs k n)) v := hv
        have hw10 := call43 he ((refLine ln rs k n).length : Int) 1 10
        rw [drop_eq_cons hln] at hon
        cases h10 : withinB 1 10 [((refLine ln rs k n).length : Int)]
        · rw [h10] at hw10
          have hf : chapsN rs 0 t = false := by rw [hok]; show (linesN rs k 0 cp.2 && _) = _; rw [hon]; show ((withinB 1 10 _ && _) && _) = _; rw [h10]; rfl
          rw [hf]
          simp -implicitDefEqProofs only [go_sem, ↓reduceIte, Int.reduceEq, Int.reduceLT, Int.reduceLE, List.reduceReplicate, intA, setT_nil, setT_cons, ↓boolP_bool, ↓iteB_true, ↓iteB_false, trim_at, hx.bound, hch.bound, hx.len, List.length_map, hch.cells, hx.cells, hch.len, ← hall.1, hik, hll.len, hll.cells, ← hls.1, hltn, h79, hv.len, hv.flat, strs_len, hw10]
        · rw [h10] at hw10
          simp -implicitDefEqProofs only [go_sem, ↓reduceIte, Int.reduceEq, Int.reduceLT, Int.reduceLE, List.reduceReplicate, intA, setT_nil, setT_cons, ↓boolP_bool, ↓iteB_true, ↓iteB_false, trim_at, hx.bound, hch.bound, hx.len, List.length_map, hch.cells, hx.cells, hch.len, ← hall.1, hik, hll.len, hll.cells, ← hls.1, hltn, h79, hv.len, hv.flat, strs_len, hw10, hwn]
          exact ⟨μ3 - 1, by omega, n + 1, by omega, rfl, rfl, by rw [hon]; show (withinB 1 10 _ && _) = _; rw [h10]; rfl⟩
      · have hf : linesN rs k 0 cp.2 = true := by rw [hon, show cp.2.drop n = [] from List.drop_eq_nil_of_le (by omega)]; rfl
        simp -implicitDefEqProofs only [go_sem, ↓reduceIte, Int.reduceEq, Int.reduceLT, Int.reduceLE, List.reduceReplicate, intA, setT_nil, setT_cons, ↓boolP_bool, ↓iteB_true, ↓iteB_false, trim_at, hx.bound, hch.bound, hx.len, List.length_map, hch.cells, hx.cells, hch.len, ← hall.1, hik, hll.len, hll.cells, ← hls.1, hltn, hwk]
        exact ⟨μ2 - 1, by omega, k + 1, by omega, rfl, rfl, by rw [hok]; show (linesN rs k 0 cp.2 && _) = _; rw [hf]; rfl⟩
    · have hf : chapsN rs 0 t = true := by rw [hok, show t.drop k = [] from List.drop_eq_nil_of_le (by omega)]; rfl
      rw [hf]
      simp -implicitDefEqProofs only [go_sem, ↓reduceIte, Int.reduceEq, Int.reduceLT, Int.reduceLE, List.reduceReplicate, intA, setT_nil, setT_cons, ↓boolP_bool, ↓iteB_true, ↓iteB_false, trim_at, hx.bound, hch.bound, hx.len, List.length_map, hch.cells, hx.cells, hch.len, ← hall.1, hltk]
end Go.Ev
namespace Go.Ev
open Go.Proofs
set_option maxRecDepth 100000
set_option linter.unusedSimpArgs false
attribute [local irreducible] Wp WpS
def rightB (t : Txt) (id : Int) (rs : List Rd) : Bool := !greatCB rs && copyB t id rs
set_option maxHeartbeats 2000000 in
theorem ans28 {e : Exts} (he : Quiet e) (t : Txt) (ht : Fits t) (hlen : ∀ c ∈ t, ∀ l ∈ c.2, l.length ≤ 1000) (ch : AV) (xs : List AV) (hch : SlOf 2 xs ch) (hall : All2 ChapA t xs) (id : Int) (rs : List Rd) (x : AV) (hx : RdsA rs x) (hrf : ∀ r ∈ rs, RdF r) : Ans (Cx e) 28 [.agg [ch], .agg [intA id, x]] (.v (.bool (rightB t id rs))) := by
  have hxr := hx
  have hx : SlOf 5 (rs.map rdV) x := hx
  have h56 := call56 he id rs x hxr
  have h57 : ∀ (me : FuncId) (d : Option Tmp) (H : Heap), callA (Cx e) (lim (Cx e)) me 57 d [.agg [ch], .agg [.v (.int .i64 id), x]] H = some (.v (.bool (copyB t id rs)), H) := fun me d H =>
    (ans57 he t ht hlen ch xs hch hall id rs x hxr hrf).call (ext_57 he) (pure_57 _ _ _) (by simp only [boundL_cons, bound_agg, hch.bound, intA, bound_v, SlOf.bound hx, boundL_nil]; rfl) H
  unfold Ans
  rw [fn_step (fn_28 e) (show Tryz.f28.body = some _ from rfl)]
  cases h1 : greatCB rs
  · have hB : rightB t id rs = copyB t id rs := by unfold rightB; rw [h1]; rfl
    rw [h1] at h56
    rw [hB]
    simp -implicitDefEqProofs only [Tryz.f28, go_sem, ↓reduceIte, Int.reduceEq, Int.reduceLT, Int.reduceLE, List.reduceReplicate, intA, setT_nil, setT_cons, ↓boolP_bool, ↓iteB_true, ↓iteB_false, hch.cells, hch.flat, hch.bound, hx.cells, hx.flat, hx.bound, h56, h57]
  · have hB : rightB t id rs = false := by unfold rightB; rw [h1]; rfl
    rw [h1] at h56
    rw [hB]
    simp -implicitDefEqProofs only [Tryz.f28, go_sem, ↓reduceIte, Int.reduceEq, Int.reduceLT, Int.reduceLE, List.reduceReplicate, intA, setT_nil, setT_cons, ↓boolP_bool, ↓iteB_true, ↓iteB_false, hch.cells, hch.flat, hch.bound, hx.cells, hx.flat, hx.bound, h56]
end Go.Ev
namespace Go.Ev
open Go.Proofs
set_option maxRecDepth 100000
set_option linter.unusedSimpArgs false
attribute [local irreducible] Wp WpS
/-- the copy is one of the text, as hasCopy has it -/
def Has58 (e : Exts) (ch : AV) (id : Int) (x : AV) (b : Bool) : Prop := ∀ (me : FuncId) (d : Option Tmp) (H : Heap), callA (Cx e) (lim (Cx e)) me 58 d [.agg [ch], .agg [.v (.int .i64 id), x]] H = some (.v (.bool b), H)
set_option maxHeartbeats 2000000 in
theorem ans54 {e : Exts} (he : Quiet e) (t : Txt) (ht : Fits t) (htx : textB t = true) (ch : AV) (xs : List AV) (hch : SlOf 2 xs ch) (hall : All2 ChapA t xs) (id : Int) (rs : List Rd) (x : AV) (hx : RdsA rs x) (h58 : Has58 e ch id x true) : Ans (Cx e) 54 [.agg [ch], .agg [intA id, x]] (.tup [.agg [ch], intA 0]) := by
  have hx : SlOf 5 (rs.map rdV) x := hx
  have h40 := call40 he t ht ch ⟨xs, hch, hall⟩
  rw [htx, if_pos rfl] at h40
  unfold intA at h40
  unfold Has58 at h58
  unfold Ans
  rw [fn_step (fn_54 e) (show Tryz.f54.body = some _ from rfl)]
  simp -implicitDefEqProofs only [Tryz.f54, go_sem, ↓reduceIte, Int.reduceEq, Int.reduceLT, Int.reduceLE, List.reduceReplicate, intA, setT_nil, setT_cons, ↓boolP_bool, ↓iteB_true, ↓iteB_false, hch.cells, hch.flat, hch.bound, hx.cells, hx.flat, hx.bound, h40, h58]
  rcases hch with ⟨rfl, -⟩ | ⟨cap, rfl⟩ <;> rfl
theorem call54 {e : Exts} (he : Quiet e) (t : Txt) (ht : Fits t) (htx : textB t = true) (ch : AV) (xs : List AV) (hch : SlOf 2 xs ch) (hall : All2 ChapA t xs) (id : Int) (rs : List Rd) (x : AV) (hx : RdsA rs x) (h58 : Has58 e ch id x true) (me : FuncId) (d : Option Tmp) (H : Heap) : callA (Cx e) (lim (Cx e)) me 54 d [.agg [ch], .agg [.v (.int .i64 id), x]] H = some (.tup [.agg [ch], .v (.int .i64 0)], H) :=
  (ans54 he t ht htx ch xs hch hall id rs x hx h58).call (ext_54 he) (pure_54 _ _ _) (by simp only [boundL_cons, bound_agg, hch.bound, intA, bound_v, SlOf.bound hx, boundL_nil]; rfl) H
def takesB (a b c : Int) (r : Rd) : Bool := eqP r.ch r.ln r.wd a b c && !decide (r.kind = 2)
def standL (rs : List Rd) (a b c : Int) (own : ByteArray) : ByteArray := match rs.find? (takesB a b c) with | some r => r.word | none => own
set_option maxHeartbeats 2000000 in
theorem ans30 {e : Exts} (he : Quiet e) (t : Txt) (ht : Fits t) (htx : textB t = true) (ch : AV) (xs : List AV) (hch : SlOf 2 xs ch) (hall : All2 ChapA t xs) (id : Int) (rs : List Rd) (x : AV) (hx : RdsA rs x) (hrs : rs.length ≤ 1000) (h58 : Has58 e ch id x true) (a b c : Nat) (ln : Line) (hL : lineAt t a b = some ln) (own : ByteArray) (hc : ln[c]? = some own) :
    Ans (Cx e) 30 [.agg [ch], .agg [intA id, x], .agg [intA a, intA b, intA c]] (.tup [.v (.string (standL rs a b c own)), intA 0]) := by
  have h54 := call54 he t ht htx ch xs hch hall id rs x hx h58
  have hx : SlOf 5 (rs.map rdV) x := hx
  have hcl := (List.getElem?_eq_some_iff.1 hc).1
  have h44 := call44 he t ht ch xs hch hall a b c
  have hp : placeB' t a b c = true := by unfold placeB'; rw [hL]; simp; omega
  rw [hp] at h44
  obtain ⟨y, hy, h45, hi45⟩ := call45 he t ht ch xs hch hall a b c
  rw [hL] at hy
  have hy : SlOf 1 (strs ln) y := hy
  have hyi := hy.idx (strs_get hc)
  unfold Ans
  rw [fn_step (fn_30 e) (show Tryz.f30.body = some _ from rfl)]
  simp -implicitDefEqProofs only [Tryz.f30, go_sem, ↓reduceIte, Int.reduceEq, Int.reduceLT, Int.reduceLE, List.reduceReplicate, intA, setT_nil, setT_cons, ↓boolP_bool, ↓iteB_true, ↓iteB_false, hch.cells, hch.flat, hch.bound, hx.cells, hx.flat, hx.bound, h54, h44, hx.len, List.length_map]
  refine Lp_rule (P := fun μ a' H => ∃ j, j + μ = rs.length ∧ a' = ⟨51, [(0, .agg [ch]), (1, .agg [intA id, x]), (2, .agg [intA a, intA b, intA c]), (3, .ptr 0 0 0), (4, .ptr 1 0 0), (5, .ptr 2 0 0), (6, .v (.string { data := #[] })), (7, intA 0), (8, .ptr 3 0 0), (9, intA 0), (19, .v (.bool false)), (24, .v (.bool false)), (26, x), (27, intA rs.length), (28, intA j)], []⟩ ∧ H = ⟨[some (.cells 0 0 24 1 false [ch]), some (.cells 0 0 53 1 false [intA id, x]), some (.cells 0 0 32 1 false [intA a, intA b, intA c]), some (.cells 0 0 79 1 false [ch])], 0⟩ ∧ standL rs a b c own = standL (rs.drop j) a b c own) ?_ rs.length _ _ ⟨0, by omega, rfl, rfl, rfl⟩
  rintro μ _ _ ⟨j, hj, rfl, rfl, ho⟩
  by_cases hlt : (j : Int) < (rs.length : Int)
  · obtain ⟨r, hr⟩ := at_lt rs j (by omega)
    have hw := wrap_succ j (by omega)
    have hir := hx.idx (rds_get hr)
    unfold rdV at hir
    rw [drop_eq_cons hr] at ho
    have hgo : takesB a b c r = false → standL rs a b c own = standL (rs.drop (j + 1)) a b c own := fun h => by rw [ho]; unfold standL; rw [List.find?_cons, h]
    cases k1 : eqP r.ch r.ln r.wd a b c
    · simp -implicitDefEqProofs only [go_sem, ↓reduceIte, Int.reduceEq, Int.reduceLT, Int.reduceLE, List.reduceReplicate, intA, setT_nil, setT_cons, ↓boolP_bool, ↓iteB_true, ↓iteB_false, trim_at, hx.bound, hch.bound, hx.len, List.length_map, hch.cells, hx.cells, hlt, hw, hir, eq32, k1]
      exact ⟨μ - 1, by omega, j + 1, by omega, rfl, rfl, hgo (by unfold takesB; rw [k1]; rfl)⟩
    · cases k2 : decide (r.kind = 2)
      · have hf : standL rs a b c own = r.word := by rw [ho]; unfold standL; rw [List.find?_cons, show takesB a b c r = true by unfold takesB; rw [k1, k2]; rfl]
        rw [hf]
        simp -implicitDefEqProofs only [go_sem, ↓reduceIte, Int.reduceEq, Int.reduceLT, Int.reduceLE, List.reduceReplicate, intA, setT_nil, setT_cons, ↓boolP_bool, ↓iteB_true, ↓iteB_false, trim_at, hx.bound, hch.bound, hx.len, List.length_map, hch.cells, hx.cells, hlt, hw, hir, eq32, k1, bin_neq8, k2]
        rfl
      · simp -implicitDefEqProofs only [go_sem, ↓reduceIte, Int.reduceEq, Int.reduceLT, Int.reduceLE, List.reduceReplicate, intA, setT_nil, setT_cons, ↓boolP_bool, ↓iteB_true, ↓iteB_false, trim_at, hx.bound, hch.bound, hx.len, List.length_map, hch.cells, hx.cells, hlt, hw, hir, eq32, k1, bin_neq8, k2]
        exact ⟨μ - 1, by omega, j + 1, by omega, rfl, rfl, hgo (by unfold takesB; rw [k1, k2]; rfl)⟩
  · have hf : standL rs a b c own = own := by rw [ho, show rs.drop j = [] from List.drop_eq_nil_of_le (by omega)]; rfl
    rw [hf]
    simp -implicitDefEqProofs only [go_sem, ↓reduceIte, Int.reduceEq, Int.reduceLT, Int.reduceLE, List.reduceReplicate, intA, setT_nil, setT_cons, ↓boolP_bool, ↓iteB_true, ↓iteB_false, trim_at, hx.bound, hch.bound, hx.len, List.length_map, hch.cells, hx.cells, hlt]
    refine wp_drawX [([], [], false), ([0], [], false), ([], [], false), ([], [], false), ([0, 1, 2], [], false), ([], [], false), ([], [], false), ([], [], false), ([], [], false)] (by kernel_rfl) (by kernel_rfl) ?_
    simp -implicitDefEqProofs only [go_sem, ↓reduceIte, Int.reduceEq, Int.reduceLT, Int.reduceLE, List.reduceReplicate, intA, setT_nil, setT_cons, ↓boolP_bool, ↓iteB_true, ↓iteB_false, trim_at, hx.bound, hch.bound, hx.len, List.length_map, hch.cells, hx.cells, h45, hi45, hyi]
    rfl
end Go.Ev
namespace Go.Ev
open Go.Proofs Go.Sort
set_option maxRecDepth 100000
set_option linter.unusedSimpArgs false
attribute [local irreducible] Wp WpS
/-! ### the word of a place -/
set_option maxHeartbeats 2000000 in
theorem ans19 {e : Exts} (he : Quiet e) (t : Txt) (ht : Fits t) (htx : textB t = true) (ch : AV) (xs : List AV) (hch : SlOf 2 xs ch) (hall : All2 ChapA t xs) (a b c : Nat) (ln : Line) (hL : lineAt t a b = some ln) (own : ByteArray) (hc : ln[c]? = some own) :
    Ans (Cx e) 19 [.agg [ch], .agg [intA a, intA b, intA c]] (.tup [.v (.string own), intA 0]) := by
  have h40 := call40 he t ht ch ⟨xs, hch, hall⟩
  rw [htx, if_pos rfl] at h40
  unfold intA at h40
  have hcl := (List.getElem?_eq_some_iff.1 hc).1
  have h44 := call44 he t ht ch xs hch hall a b c
  have hp : placeB' t a b c = true := by unfold placeB'; rw [hL]; simp; omega
  rw [hp] at h44
  obtain ⟨y, hy, h45, hi45⟩ := call45 he t ht ch xs hch hall a b c
  rw [hL] at hy
  have hy : SlOf 1 (strs ln) y := hy
  have hyi := hy.idx (strs_get hc)
  unfold Ans
  rw [fn_step (fn_19 e) (show Tryz.f19.body = some _ from rfl)]
  simp -implicitDefEqProofs only [Tryz.f19, go_sem, ↓reduceIte, Int.reduceEq, Int.reduceLT, Int.reduceLE, List.reduceReplicate, intA, setT_nil, setT_cons, ↓boolP_bool, ↓iteB_true, ↓iteB_false, hch.cells, hch.flat, hch.bound, h40, h44]
  refine wp_drawX [([], [], false), ([0], [], false), ([], [], false), ([], [], false), ([0, 1, 2], [], false), ([], [], false), ([], [], false), ([], [], false), ([], [], false)] (by kernel_rfl) (by kernel_rfl) ?_
  simp -implicitDefEqProofs only [go_sem, ↓reduceIte, Int.reduceEq, Int.reduceLT, Int.reduceLE, List.reduceReplicate, intA, setT_nil, setT_cons, ↓boolP_bool, ↓iteB_true, ↓iteB_false, hch.cells, hch.flat, hch.bound, h45, hi45, hyi]
  rfl
/-! ### the places of a copy that are in doubt -/
def plsV : List P3 → AV
  | [] => .v (.slice none 0 0)
  | p :: l => .vs 3 ((p :: l).map p3V) none
theorem chunk_pls : ∀ f : List P3, chunk 3 f.length (clP f) = f.map p3V
  | [] => rfl
  | r :: f => by
    rw [clP_cons, List.length_cons, List.map_cons, ← chunk_pls f]; rfl
def In59 (id : Int) (x : AV) (n j : Nat) (f : List P3) (a : AAct) (H : Heap) : Prop :=
  (f = [] ∧ a = ⟨23, [(0, .agg [intA id, x]), (1, .ptr 0 0 0), (2, .v (.slice none 0 0)), (3, .v (.slice none 0 0)), (7, x), (8, intA n), (9, intA j)], []⟩ ∧ H = ⟨[some (.cells 0 0 53 1 false [intA id, x])], 0⟩) ∨
  ∃ c1 v, f ≠ [] ∧ a = ⟨23, [(0, .agg [intA id, x]), (1, .ptr 0 0 0), (2, .v (.slice none 0 0)), (3, .sl 2 v 0 f.length none), (7, x), (8, intA n), (9, intA j)], []⟩ ∧ H = ⟨[some (.cells 0 0 53 1 false [intA id, x]), some (.cells 0 0 65 1 false c1), some (.cells v 0 32 3 true (clP f))], 0⟩
theorem freeze_pls (H : Heap) (b v : Nat) (f : List P3) (hf : f ≠ []) (hk : H.lock = 0) (hr : H.row b v = some (0, 32, 3, true, clP f)) : freezeV H 1000000 (.sl b v 0 f.length none) = some (plsV f) := by
  have : plsV f = .vs 3 (f.map p3V) none := by cases f with | nil => exact absurd rfl hf | cons r f => rfl
  rw [this, ← chunk_pls f]
  unfold freezeV
  simp only [hr, hk]
  rw [if_neg (by omega), if_pos ⟨by rw [clP_len]; omega, by omega⟩, if_pos trivial, List.drop_zero, List.take_of_length_le (by rw [clP_len]; omega)]
theorem dbtL_step (l : List Rd) {j : Nat} {r : Rd} (hr : l[j]? = some r) : dbtL (l.take (j + 1)) = dbtL (l.take j) ++ if r.kind = 2 then [] else [atR r] := by
  unfold dbtL
  rw [List.take_add_one, hr, List.filter_append, List.map_append]
  by_cases h : r.kind = 2 <;> simp [h]
set_option maxHeartbeats 1000000 in
theorem ans59 {e : Exts} (_he : Quiet e) (id : Int) (l : List Rd) (x : AV) (hx : RdsA l x) (hn : l.length < 2 ^ 33) : Ans (Cx e) 59 [.agg [intA id, x]] (plsV (dbtL l)) := by
  have hx : SlOf 5 (l.map rdV) x := hx
  unfold Ans
  rw [fn_step (fn_59 e) (show Tryz.f59.body = some _ from rfl)]
  simp -implicitDefEqProofs only [Tryz.f59, go_sem, ↓reduceIte, Int.reduceEq, Int.reduceLT, Int.reduceLE, List.reduceReplicate, intA, setT_nil, setT_cons, hx.len, hx.cells, hx.flat, hx.bound, List.length_map]
  refine Lp_rule (P := fun μ a H => ∃ j, j + μ = l.length ∧ In59 id x l.length j (dbtL (l.take j)) a H) ?_ l.length _ _ ⟨0, by omega, Or.inl ⟨rfl, rfl, rfl⟩⟩
  rintro μ _ _ ⟨j, hj, ⟨hf, rfl, rfl⟩ | ⟨c1, v, hf, rfl, rfl⟩⟩
  · cases μ with
    | zero =>
      obtain rfl : j = l.length := by omega
      rw [List.take_of_length_le (Nat.le_refl _)] at hf
      rw [hf]
      simp -implicitDefEqProofs only [go_sem, ↓reduceIte, Int.reduceEq, Int.reduceLT, Int.reduceLE, List.reduceReplicate, intA, setT_nil, setT_cons, Int.lt_irrefl, plsV]
    | succ μ =>
      obtain ⟨r, hr⟩ := at_lt l j (by omega)
      have hlt : (j : Int) < (l.length : Int) := by omega
      have hw := wrap_succ j (by omega)
      have hir := hx.idx (rds_get hr)
      unfold rdV at hir
      have ht := dbtL_step l hr
      rw [hf] at ht
      cases h1 : decide (r.kind = 2)
      · have hf24 : fitsA 24 1 = true := by decide
        rw [if_neg (of_decide_eq_false h1)] at ht
        simp -implicitDefEqProofs only [go_sem, ↓reduceIte, Int.reduceEq, Int.reduceLT, Int.reduceLE, List.reduceReplicate, intA, setT_nil, setT_cons, hlt, hw, hir, bin_neq8, h1, trim_at, hx.bound, hf24, List.flatMap_cons, List.flatMap_nil, trim_not, bound_sl]
        exact ⟨μ, by omega, j + 1, by omega, Or.inr ⟨_, 0, by rw [ht]; simp, by rw [ht]; simp [intA], by rw [ht]; simp [clP, flatE, encP, atR]; exact ⟨rfl, rfl⟩⟩⟩
      · rw [if_pos (of_decide_eq_true h1)] at ht
        simp -implicitDefEqProofs only [go_sem, ↓reduceIte, Int.reduceEq, Int.reduceLT, Int.reduceLE, List.reduceReplicate, intA, setT_nil, setT_cons, hlt, hw, hir, bin_neq8, h1, trim_at, hx.bound]
        exact ⟨μ, by omega, j + 1, by omega, Or.inl ⟨by rw [ht]; rfl, rfl, rfl⟩⟩
  · cases μ with
    | zero =>
      obtain rfl : j = l.length := by omega
      rw [List.take_of_length_le (Nat.le_refl _)] at hf ⊢
      simp -implicitDefEqProofs only [go_sem, ↓reduceIte, Int.reduceEq, Int.reduceLT, Int.reduceLE, List.reduceReplicate, intA, setT_nil, setT_cons, Int.lt_irrefl]
      exact freeze_pls _ 2 v _ hf rfl (by simp [Heap.row, Heap.get])
    | succ μ =>
      obtain ⟨r, hr⟩ := at_lt l j (by omega)
      have hlt : (j : Int) < (l.length : Int) := by omega
      have hw := wrap_succ j (by omega)
      have hir := hx.idx (rds_get hr)
      unfold rdV at hir
      have ht := dbtL_step l hr
      have hfl : (dbtL (l.take j)).length ≤ l.length := Nat.le_trans (dbtL_len _) (by rw [List.length_take]; omega)
      generalize dbtL (l.take j) = f at *
      cases h1 : decide (r.kind = 2)
      · rw [if_neg (of_decide_eq_false h1)] at ht
        simp -implicitDefEqProofs only [go_sem, ↓reduceIte, Int.reduceEq, Int.reduceLT, Int.reduceLE, List.reduceReplicate, intA, setT_nil, setT_cons, hlt, hw, hir, bin_neq8, h1, trim_at, hx.bound, bound_sl, List.flatMap_cons, List.flatMap_nil]
        rw [appTo_own (m := 0) (e' := 32) (cs := clP f) (by simp [Heap.row, Heap.get]) (by rw [clP_len]) (Nat.zero_le _) (by unfold fitsA; exact decide_eq_true (by omega)) (by omega) (by omega)]
        simp -implicitDefEqProofs only [go_sem, ↓reduceIte, Int.reduceEq, Int.reduceLT, Int.reduceLE, List.reduceReplicate, intA, setT_nil, setT_cons, trim_at, hx.bound, bound_sl]
        exact ⟨μ, by omega, j + 1, by omega, Or.inr ⟨c1, v + 1, by rw [ht]; simp, by rw [ht]; simp [intA], by rw [ht]; simp [clP_append]; simp [clP, flatE, encP, atR]; rfl⟩⟩
      · rw [if_pos (of_decide_eq_true h1), List.append_nil] at ht
        simp -implicitDefEqProofs only [go_sem, ↓reduceIte, Int.reduceEq, Int.reduceLT, Int.reduceLE, List.reduceReplicate, intA, setT_nil, setT_cons, hlt, hw, hir, bin_neq8, h1, trim_at, hx.bound, bound_sl]
        exact ⟨μ, by omega, j + 1, by omega, Or.inr ⟨c1, v, by rw [ht]; exact hf, by rw [ht]; simp [intA], by rw [ht]; simp [intA]⟩⟩
theorem plsV_bound (l : List P3) : bound (plsV l) = 0 := by cases l <;> rfl
end Go.Ev
namespace Go.Ev
open Go.Proofs Go.Sort
set_option maxRecDepth 100000
set_option linter.unusedSimpArgs false
attribute [local irreducible] Wp WpS
variable {C : Cfg} {me : FuncId} {a : AAct} {H : Heap} {s : Nat} {K : PostO} {d : Option Tmp}
@[go_sem ↓] theorem wpO_clear (args : Array Operand) (ts : Array TypeId) : WpO C me d (.call ⟨.builtin .clear, args, ts⟩) a H s K = bindO (evals a args.toList) fun l => bindO (clearA C.P H ts.toList l) fun H' => AtO K (.tup []) H' := by
  unfold WpO; simp only [opA]
  rcases evals a args.toList with _ | l
  · rfl
  · simp only [bindO_some]; cases clearA C.P H ts.toList l <;> rfl
@[go_sem] theorem slLen_sl (b v o len : Nat) (c : Option Nat) : slLen (.sl b v o len c) = some (.v (.int .i64 len)) := rfl
theorem slIdx_at (sz b v o len : Nat) (c : Option Nat) (i : Nat) (h : i < len) : slIdx sz (.sl b v o len c) (.v (.int .i64 (i : Int))) = some (.ptr b v (o + i * sz)) := by
  unfold slIdx
  simp only [Int.toNat_natCast]
  rw [if_pos (by omega)]
theorem clP_at : ∀ {L : List P3} {k : Nat} {p : P3}, L[k]? = some p → ((clP L).drop (k * 3)).take 3 = [intA p.1, intA p.2.1, intA p.2.2]
  | q :: L, 0, p, h => by
    simp only [List.getElem?_cons_zero, Option.some.injEq] at h
    subst h
    rw [Nat.zero_mul, List.drop_zero, clP_cons]; rfl
  | q :: L, k + 1, p, h => by
    rw [clP_cons, Nat.succ_mul, ← List.drop_drop, show k * 3 = k * 3 from rfl]
    have h2 := clP_at (L := L) (k := k) (p := p) (by simpa using h)
    rw [List.drop_drop, Nat.add_comm, ← List.drop_drop]
    exact h2
theorem clP_set : ∀ {L : List P3} {k : Nat} (p : P3), k < L.length → splice (k * 3) [intA p.1, intA p.2.1, intA p.2.2] (clP L) = clP (L.set k p)
  | q :: L, 0, p, h => by
    unfold splice
    rw [List.set_cons_zero, clP_cons, clP_cons]; rfl
  | q :: L, k + 1, p, h => by
    have h2 := clP_set (L := L) (k := k) p (by simpa using h)
    have e : ∀ (r : P3) (M : List P3), clP (r :: M) = intA r.1 :: intA r.2.1 :: intA r.2.2 :: clP M := fun r M => clP_cons r M
    rw [List.set_cons_succ, e, e, ← h2]
    unfold splice
    rw [show (k + 1) * 3 = k * 3 + 1 + 1 + 1 by omega, List.take_succ_cons, List.take_succ_cons, List.take_succ_cons, show k * 3 + 1 + 1 + 1 + [intA p.1, intA p.2.1, intA p.2.2].length = (k * 3 + [intA p.1, intA p.2.1, intA p.2.2].length) + 1 + 1 + 1 by omega, List.drop_succ_cons, List.drop_succ_cons, List.drop_succ_cons]
    simp only [List.cons_append]
theorem eqP_iff (p q : P3) : eqP p.1 p.2.1 p.2.2 q.1 q.2.1 q.2.2 = decide (p = q) := by
  unfold eqP
  obtain ⟨a, b, c⟩ := p
  obtain ⟨x, y, z⟩ := q
  simp only [Prod.mk.injEq]
  by_cases h1 : a = x <;> by_cases h2 : b = y <;> by_cases h3 : c = z <;> simp [h1, h2, h3]
theorem slice_lo {H : Heap} {b v o len m e : Nat} {g : Bool} {cs : List AV} (hr : H.row b v = some (m, e, 3, g, cs)) {k : Nat} (hk : k < len) : sliceA Tryz.prog H 47 (.sl b v o len none) (some (.v (.int .i64 (k : Int)))) none none = some (.sl b v (o + k * 3) (len - k) none) := by
  unfold sliceA boundA
  have h1 : (0 : Int) ≤ (k : Int) ∧ (k : Int) ≤ (len : Int) := by omega
  simp [und_47, size32, hr, h1]
  omega
theorem slice_hi {H : Heap} {b v o len m e : Nat} {g : Bool} {cs : List AV} (hr : H.row b v = some (m, e, 3, g, cs)) {k : Nat} (hk : k ≤ len) (h0 : len ≠ 0) : sliceA Tryz.prog H 47 (.sl b v o len none) none (some (.v (.int .i64 (k : Int)))) none = some (.sl b v o k none) := by
  unfold sliceA boundA
  have h1 : (0 : Int) ≤ (k : Int) ∧ (k : Int) ≤ (len : Int) := by omega
  simp [und_47, size32, hr, h1]
  omega
theorem neq32 (x y : Operand) (a b c a' b' c' : Int) : binA Tryz.prog .neq 32 x y (.agg [.v (.int .i64 a), .v (.int .i64 b), .v (.int .i64 c)]) (.agg [.v (.int .i64 a'), .v (.int .i64 b'), .v (.int .i64 c')]) = some (.v (.bool (!eqP a b c a' b' c'))) := by
  have := (bin_struct (P := Tryz.prog) (t := 32) (us := [.int .i64 a, .int .i64 b, .int .i64 c]) (ws := [.int .i64 a', .int .i64 b', .int .i64 c']) (n := 3) (by kernel_rfl) (by decide) (by kernel_rfl) (by kernel_rfl) x y).2
  rw [eqP_cells] at this
  exact this
theorem clear_pl {H : Heap} {b v o len : Nat} {c : Option Nat} (h : 0 < len) : clearA Tryz.prog H [47] [.sl b v o len c] = storeCells H b v o (repeatCells [.v (.int .i64 0), .v (.int .i64 0), .v (.int .i64 0)] len) := by
  unfold clearA
  simp only [und_47, size32, zero_32, h, if_true]
  rfl
theorem clP_take : ∀ (L : List P3) (k : Nat), (clP L).take (k * 3) = clP (L.take k)
  | [], k => by simp [clP, flatE]
  | q :: L, 0 => by simp [clP, flatE]
  | q :: L, k + 1 => by
    rw [List.take_succ_cons, clP_cons, clP_cons, ← clP_take L k, show (k + 1) * 3 = 3 + k * 3 by omega, show (3 : Nat) + k * 3 = [intA q.1, intA q.2.1, intA q.2.2].length + k * 3 from rfl, List.take_length_add_append]
def rowO (cs : List AV) : List (Option AObj) := [some (.cells 0 0 32 3 true cs)]
/-- what is left of a row: these things in front -/
def CmpQ (X : Heap) (l : List P3) (Y : Heap) : Prop := ∃ cs, Y = X.plus (rowO cs) ∧ l.length * 3 ≤ cs.length ∧ cs.take (l.length * 3) = clP l ∧ cs.all AV.flat = true ∧ boundL cs = 0
set_option maxHeartbeats 4000000 in
theorem call83 {X : Heap} {N : Nat} (hN : X.size = N) (hlk : X.lock ≤ N) (L : List P3) (h0 : L ≠ []) (hn : L.length < 2 ^ 33) (me : FuncId) (d : Option Tmp) :
    ∃ Y, callA Cs (lim Cs) me 83 d [.sl N 0 0 L.length none] (X.plus (rowO (clP L))) = some (.sl N 0 0 (onceL L).length none, Y) ∧ CmpQ X (onceL L) Y := by
  refine callA_rawT extS_83 (pureS_83 _ _) ?_
  rw [fn_step fnS_83 (show Tryz.f83.body = some _ from rfl)]
  generalize hKK : rawT _ _ _ = KK
  have hpos : 0 < L.length := List.length_pos_iff.2 h0
  by_cases hlt2 : (L.length : Int) < 2
  · simp -implicitDefEqProofs only [Tryz.f83, go_sem, ↓reduceIte, Int.reduceEq, Int.reduceLT, Int.reduceLE, List.reduceReplicate, intA, setT_nil, setT_cons, ↓boolP_bool, ↓iteB_true, ↓iteB_false, hlt2]
    obtain ⟨p, rfl⟩ : ∃ p, L = [p] := by
      match L, hpos, hlt2 with
      | [p], _, _ => exact ⟨p, rfl⟩
      | p :: q :: r, _, h => simp at h; omega
    rw [← hKK]
    refine ⟨rfl, clP [p], trim_size _ _ _, by rw [clP_len]; exact Nat.le_refl _, by rw [List.take_of_length_le (by rw [clP_len]; exact Nat.le_refl _)]; rfl, clP_flat _, clP_bound _⟩
  · simp -implicitDefEqProofs only [Tryz.f83, go_sem, ↓reduceIte, Int.reduceEq, Int.reduceLT, Int.reduceLE, List.reduceReplicate, intA, setT_nil, setT_cons, ↓boolP_bool, ↓iteB_true, ↓iteB_false, hlt2]
    refine Lp_rule (P := fun μ a H => ∃ k : Nat, 1 ≤ k ∧ k + μ = L.length ∧ (∀ i a b, i + 1 < k → L[i]? = some a → L[i + 1]? = some b → a ≠ b) ∧ a = ⟨61, [(0, .sl N 0 0 L.length none), (2, .v (.slice none 0 0)), (8, .v (.bool false)), (3, intA k)], []⟩ ∧ H = X.plus (rowO (clP L))) ?_ (L.length - 1) _ _ ⟨1, Nat.le_refl _, by omega, fun i a b hi _ _ => by omega, rfl, rfl⟩
    rintro μ _ _ ⟨k, hk1, hk, hne, rfl, rfl⟩
    by_cases hlt : (k : Int) < (L.length : Int)
    · have hkl : k < L.length := by omega
      have hk0 : k - 1 < L.length := by omega
      obtain ⟨p, hp⟩ := at_lt L k hkl
      obtain ⟨q, hq⟩ := at_lt L (k - 1) hk0
      have hwm : IntKind.i64.wrap ((k : Int) - 1) = ((k - 1 : Nat) : Int) := by rw [wrap_in _ (by omega) (by omega)]; omega
      have hw := wrap_succ k (by omega)
      have hi1 := slIdx_at 3 N 0 0 L.length none k hkl
      have hi2 := slIdx_at 3 N 0 0 L.length none (k - 1) hk0
      have hc1 := clP_at hp
      have hc2 := clP_at hq
      have hl1 : k * 3 + 3 ≤ (clP L).length := by rw [clP_len]; omega
      have hl2 : (k - 1) * 3 + 3 ≤ (clP L).length := by rw [clP_len]; omega
      have hsl := fun (E : List (Option AObj)) => slice_lo (b := N) (v := 0) (o := 0) (len := L.length) (H := X.plus (some (.cells 0 0 32 3 true (clP L)) :: E)) (m := 0) (e := 32) (g := true) (cs := clP L) (rowP0 hN _ _) hkl
      have htr : ∀ (cs : List AV) (vs : List AV) (ms : List Nat), (X.plus [some (.cells 0 0 32 3 true cs)]).trim (N + 1) vs ms = X.plus [some (.cells 0 0 32 3 true cs)] := fun cs vs ms => by
        have h := trim_size (X.plus [some (.cells 0 0 32 3 true cs)]) vs ms
        rw [sizeP hN] at h
        exact h
      simp -implicitDefEqProofs only [go_sem, ↓reduceIte, Int.reduceEq, Int.reduceLT, Int.reduceLE, List.reduceReplicate, intA, setT_nil, setT_cons, ↓boolP_bool, ↓iteB_true, ↓iteB_false, hlt, rowO]
      refine wp_drawX [([], [], false), ([], [], false), ([], [], false), ([], [], false), ([], [], false), ([], [], false), ([], [], false), ([], [], false), ([3], [], false), ([], [], false)] (by kernel_rfl) (by kernel_rfl) ?_
      cases hpq : decide (p = q)
      · simp -implicitDefEqProofs only [go_sem, ↓reduceIte, Int.reduceEq, Int.reduceLT, Int.reduceLE, List.reduceReplicate, intA, setT_nil, setT_cons, ↓boolP_bool, ↓iteB_true, ↓iteB_false, hlt, hwm, hw, hi1, hi2, hl1, hl2, hc1, hc2, Nat.zero_add, rowP0 hN, rowP hN, sizeP hN, settleP0 hN, settleP hN, List.length_cons, List.length_nil, ltB_hi, eq32, eqP_iff, hpq, rowO]
        refine ⟨μ - 1, by omega, k + 1, by omega, by omega, fun i a b hi ha hb => ?_, rfl, htr _ _ _⟩
        by_cases h : i + 1 < k
        · exact hne i a b h ha hb
        · obtain rfl : i = k - 1 := by omega
          rw [show k - 1 + 1 = k by omega, hp] at hb
          rw [hq] at ha
          cases ha; cases hb
          exact fun e => of_decide_eq_false hpq e.symm
      · simp -implicitDefEqProofs only [go_sem, ↓reduceIte, Int.reduceEq, Int.reduceLT, Int.reduceLE, List.reduceReplicate, intA, setT_nil, setT_cons, ↓boolP_bool, ↓iteB_true, ↓iteB_false, hlt, hwm, hw, hi1, hi2, hl1, hl2, hc1, hc2, Nat.zero_add, rowP0 hN, rowP hN, sizeP hN, settleP0 hN, settleP hN, List.length_cons, List.length_nil, ltB_hi, eq32, eqP_iff, hpq, rowO, hsl]
        obtain rfl : p = q := of_decide_eq_true hpq
        have hbase : onceL (L.take (k + 1)) = L.take k := by
          rw [onceL_take hk1 hq hp, if_pos rfl]
          refine onceL_id fun i a b ha hb => ?_
          have h1 := (List.getElem?_eq_some_iff.1 hb).1
          rw [List.length_take] at h1
          rw [List.getElem?_take_of_lt (by omega)] at ha hb
          exact hne i a b (by omega) ha hb
        refine Lp_rule (P := fun μ a H => ∃ (k2 kk : Nat) (M : List P3), 1 ≤ k2 ∧ k2 + μ = L.length - k ∧ M.length = L.length ∧ kk = (onceL (L.take (k + k2))).length ∧ kk ≤ k + k2 - 1 ∧ M.take kk = onceL (L.take (k + k2)) ∧ M.drop (k + k2 - 1) = L.drop (k + k2 - 1) ∧ a = ⟨61, [(0, .sl N 0 0 L.length none), (2, .v (.slice none 0 0)), (8, .v (.bool false)), (3, intA kk), (13, .v (.bool true)), (25, .v (.bool true)), (4, .sl N 0 (k * 3) (L.length - k) none), (5, intA k2)], []⟩ ∧ H = X.plus [some (.cells 0 0 32 3 true (clP M))]) ?_ (L.length - k - 1) _ _ ⟨1, k, L, Nat.le_refl _, by omega, rfl, by rw [hbase, List.length_take]; omega, by omega, hbase.symm, rfl, rfl, rfl⟩
        rintro μ2 _ _ ⟨k2, kk, M, hk21, hk2, hML, hkk, hkkle, hMt, hMd, rfl, rfl⟩
        by_cases hlt3 : (k2 : Int) < ((L.length - k : Nat) : Int)
        · have hil : k + k2 < L.length := by omega
          obtain ⟨p2, hp2⟩ := at_lt L (k + k2) hil
          obtain ⟨q2, hq2⟩ := at_lt L (k + k2 - 1) (by omega)
          have hMp : M[k + k2]? = some p2 := by
            have := congrArg (fun l => l[1]?) hMd
            simp only [List.getElem?_drop] at this
            rw [show k + k2 - 1 + 1 = k + k2 by omega] at this
            rw [this, hp2]
          have hMq : M[k + k2 - 1]? = some q2 := by
            have := congrArg (fun l => l[0]?) hMd
            simp only [List.getElem?_drop, Nat.add_zero] at this
            rw [this, hq2]
          have hwm2 : IntKind.i64.wrap ((k2 : Int) - 1) = ((k2 - 1 : Nat) : Int) := by rw [wrap_in _ (by omega) (by omega)]; omega
          have hw2 := wrap_succ k2 (by omega)
          have hwk := wrap_succ kk (by omega)
          have hj1 := slIdx_at 3 N 0 (k * 3) (L.length - k) none k2 (by omega)
          have hj2 := slIdx_at 3 N 0 (k * 3) (L.length - k) none (k2 - 1) (by omega)
          have hj3 := slIdx_at 3 N 0 0 L.length none kk (by omega)
          have hd1 := clP_at hMp
          have hd2 := clP_at hMq
          rw [show (k + k2) * 3 = k * 3 + k2 * 3 by omega] at hd1
          rw [show (k + k2 - 1) * 3 = k * 3 + (k2 - 1) * 3 by omega] at hd2
          have hm1 : k * 3 + k2 * 3 + 3 ≤ (clP M).length := by rw [clP_len]; omega
          have hm2 : k * 3 + (k2 - 1) * 3 + 3 ≤ (clP M).length := by rw [clP_len]; omega
          have hm3 : kk * 3 + 3 ≤ (clP M).length := by rw [clP_len]; omega
          have hset : List.take (kk * 3) (clP M) ++ [.v (.int .i64 p2.1), .v (.int .i64 p2.2.1), .v (.int .i64 p2.2.2)] ++ List.drop (kk * 3 + 3) (clP M) = clP (M.set kk p2) := clP_set (L := M) (k := kk) p2 (by omega)
          have hMd2 : M.drop (k + (k2 + 1) - 1) = L.drop (k + (k2 + 1) - 1) := by
            rw [show k + (k2 + 1) - 1 = (k + k2 - 1) + 1 by omega, ← List.drop_drop, ← List.drop_drop, hMd]
          have hst := onceL_take (by omega) hq2 hp2
          simp -implicitDefEqProofs only [go_sem, ↓reduceIte, Int.reduceEq, Int.reduceLT, Int.reduceLE, List.reduceReplicate, intA, setT_nil, setT_cons, ↓boolP_bool, ↓iteB_true, ↓iteB_false, hlt3]
          refine wp_drawX [([], [], false), ([], [], false), ([], [], false), ([], [], false), ([], [], false), ([], [], false), ([], [], false), ([], [], false), ([3], [], false), ([], [], false)] (by kernel_rfl) (by kernel_rfl) ?_
          cases hpq2 : decide (p2 = q2)
          · have hne2 : ¬ q2 = p2 := fun e => of_decide_eq_false hpq2 e.symm
            rw [if_neg hne2] at hst
            simp -implicitDefEqProofs only [go_sem, ↓reduceIte, Int.reduceEq, Int.reduceLT, Int.reduceLE, List.reduceReplicate, intA, setT_nil, setT_cons, ↓boolP_bool, ↓iteB_true, ↓iteB_false, hwm2, hw2, hwk, hj1, hj2, hj3, hd1, hd2, hm1, hm2, hm3, hset, Nat.zero_add, rowP0 hN, rowP hN, sizeP hN, settleP0 hN, settleP hN, storeP0 hN hlk, List.length_cons, List.length_nil, ltB_hi, neq32, eqP_iff, hpq2, Bool.not_false]
            refine ⟨μ2 - 1, by omega, k2 + 1, kk + 1, M.set kk p2, by omega, by omega, by rw [List.length_set]; exact hML, ?_, by omega, ?_, ?_, rfl, htr _ _ _⟩
            · rw [← Nat.add_assoc, hst, List.length_append, ← hkk]; rfl
            · rw [← Nat.add_assoc, hst, ← hMt, List.take_add_one, List.getElem?_set_self (by omega), List.take_set_of_le (Nat.le_refl kk)]; rfl
            · rw [List.drop_set_of_lt (by omega)]; exact hMd2
          · have he2 : q2 = p2 := (of_decide_eq_true hpq2).symm
            rw [if_pos he2] at hst
            simp -implicitDefEqProofs only [go_sem, ↓reduceIte, Int.reduceEq, Int.reduceLT, Int.reduceLE, List.reduceReplicate, intA, setT_nil, setT_cons, ↓boolP_bool, ↓iteB_true, ↓iteB_false, hwm2, hw2, hwk, hj1, hj2, hj3, hd1, hd2, hm1, hm2, hm3, hset, Nat.zero_add, rowP0 hN, rowP hN, sizeP hN, settleP0 hN, settleP hN, storeP0 hN hlk, List.length_cons, List.length_nil, ltB_hi, neq32, eqP_iff, hpq2, Bool.not_true]
            exact ⟨μ2 - 1, by omega, k2 + 1, kk, M, by omega, by omega, hML, by rw [← Nat.add_assoc, hst]; exact hkk, by omega, by rw [← Nat.add_assoc, hst]; exact hMt, hMd2, rfl, htr _ _ _⟩
        · have hk2e : k + k2 = L.length := by omega
          rw [hk2e, List.take_length] at hkk hMt
          have hkl2 : kk < L.length := by omega
          have hsl2 := fun (E : List (Option AObj)) => slice_lo (b := N) (v := 0) (o := 0) (len := L.length) (H := X.plus (some (.cells 0 0 32 3 true (clP M)) :: E)) (m := 0) (e := 32) (g := true) (cs := clP M) (rowP0 hN _ _) hkl2
          rw [Nat.zero_add] at hsl2
          have hcl := fun (E : List (Option AObj)) => clear_pl (H := X.plus (some (.cells 0 0 32 3 true (clP M)) :: E)) (b := N) (v := 0) (o := kk * 3) (len := L.length - kk) (c := none) (by omega)
          have hrl : (repeatCells [.v (.int .i64 0), .v (.int .i64 0), .v (.int .i64 0)] (L.length - kk)).length = (L.length - kk) * 3 := repeat_len _ _
          have hrf : (repeatCells [.v (.int .i64 0), .v (.int .i64 0), .v (.int .i64 0)] (L.length - kk)).all AV.flat = true := repeat_flat rfl _
          have hrb : boundL (repeatCells [.v (.int .i64 0), .v (.int .i64 0), .v (.int .i64 0)] (L.length - kk)) = 0 := repeat_bound rfl _
          generalize repeatCells [.v (.int .i64 0), .v (.int .i64 0), .v (.int .i64 0)] (L.length - kk) = zs at hcl hrl hrf hrb
          have hle : kk * 3 + (L.length - kk) * 3 ≤ (clP M).length := by rw [clP_len]; omega
          have hsh := fun (cs : List AV) (E : List (Option AObj)) => slice_hi (b := N) (v := 0) (o := 0) (len := L.length) (H := X.plus (some (.cells 0 0 32 3 true cs) :: E)) (m := 0) (e := 32) (g := true) (cs := cs) (rowP0 hN _ _) (k := kk) (by omega) (by omega)
          simp -implicitDefEqProofs only [go_sem, ↓reduceIte, Int.reduceEq, Int.reduceLT, Int.reduceLE, List.reduceReplicate, intA, setT_nil, setT_cons, ↓boolP_bool, ↓iteB_true, ↓iteB_false, hlt3, htr, hsl2, hcl, hrl, hrf, hrb, hle, hsh, Nat.zero_add, rowP0 hN, rowP hN, sizeP hN, settleP0 hN, settleP hN, storeP0 hN hlk, List.length_cons, List.length_nil]
          rw [← hKK, hkk]
          have hlM : (List.take (kk * 3) (clP M)).length = kk * 3 := by rw [List.length_take, clP_len]; omega
          refine ⟨rfl, _, by rw [show (X.plus (rowO (clP L))).size = N + 1 from by rw [sizeP hN]; rfl]; exact htr _ _ _, ?_, ?_, ?_, ?_⟩
          · rw [← hkk, List.length_append, List.length_append, hlM]; omega
          · rw [← hkk, List.append_assoc, List.take_append_of_le_length (Nat.le_of_eq hlM.symm), List.take_of_length_le (Nat.le_of_eq hlM), clP_take, hMt]
          · have h1 := clP_flat M
            rw [List.all_eq_true] at h1 hrf ⊢
            intro x hx
            rcases List.mem_append.1 hx with hx | hx
            · rcases List.mem_append.1 hx with hx | hx
              · exact h1 x (List.mem_of_mem_take hx)
              · exact hrf x hx
            · exact h1 x (List.mem_of_mem_drop hx)
          · refine Nat.le_zero.1 (boundL_le.2 fun x hx => ?_)
            have h1 := boundL_le.1 (Nat.le_of_eq (clP_bound M))
            have h2 := boundL_le.1 (Nat.le_of_eq hrb)
            rcases List.mem_append.1 hx with hx | hx
            · rcases List.mem_append.1 hx with hx | hx
              · exact h1 x (List.mem_of_mem_take hx)
              · exact h2 x hx
            · exact h1 x (List.mem_of_mem_drop hx)
    · simp -implicitDefEqProofs only [go_sem, ↓reduceIte, Int.reduceEq, Int.reduceLT, Int.reduceLE, List.reduceReplicate, intA, setT_nil, setT_cons, ↓boolP_bool, ↓iteB_true, ↓iteB_false, hlt]
      obtain rfl : k = L.length := by omega
      have hid : onceL L = L := onceL_id fun i a b ha hb => hne i a b (List.getElem?_eq_some_iff.1 hb).1 ha hb
      rw [← hKK, hid]
      exact ⟨rfl, clP L, trim_size _ _ _, by rw [clP_len]; exact Nat.le_refl _, by rw [List.take_of_length_le (by rw [clP_len]; exact Nat.le_refl _)], clP_flat _, clP_bound _⟩
end Go.Ev
namespace Go.Ev
open Go.Proofs Go.Sort
set_option maxRecDepth 100000
set_option linter.unusedSimpArgs false
attribute [local irreducible] Wp WpS
/-- a call on live memory, whose answer is frozen -/
theorem callA_fz {C : Cfg} {me f : FuncId} {d : Option Tmp} {args : List AV} {X : Heap} {w : AV} (hx : C.ext f = none) (hp : C.pure me f d = true) (hy : args.any isYld = false) (hb : boundL args ≠ 0)
    (h2 : Fn' C f args { X with lock := X.size } (fun v H' => freezeV { H' with lock := X.size } 1000000 v = some w)) : callA C (lim C) me f d args X = some (w, X) := by
  unfold callA callB callKind
  rw [hx]
  simp only [hp, if_true]
  unfold Fn' at h2
  rw [bindO_iff] at h2
  obtain ⟨o, h3, h4⟩ := h2
  rw [if_neg (fun h => hb (Nat.eq_of_beq_eq_true h)), hy]
  simp only [Bool.false_eq_true, if_false]
  cases o with
  | ret v H => 
    have h5 : freezeV { H with lock := X.size } 1000000 v = some w := h4
    simp only [h3, h5]; rfl
  | _ => exact h4.elim
theorem fn_mono {C : Cfg} {f : FuncId} {args : List AV} {H : Heap} {K K' : PostO} (h : Fn' C f args H K) (hk : ∀ v H', K v H' → K' v H') : Fn' C f args H K' := by
  unfold Fn' at h ⊢
  rw [bindO_iff] at h ⊢
  obtain ⟨o, h1, h2⟩ := h
  refine ⟨o, h1, ?_⟩
  cases o with
  | ret v H' => exact hk v H' h2
  | _ => exact h2.elim
theorem onceL_ne {l : List P3} (h : l ≠ []) : onceL l ≠ [] := fun e => by
  cases l with
  | nil => exact h rfl
  | cons p r =>
    have := (onceL_mem (p :: r) p).2 List.mem_cons_self
    rw [e] at this; cases this
theorem srtP_ne {l : List P3} (h : l ≠ []) : srtP l ≠ [] := fun e => h (List.length_eq_zero_iff.1 (by rw [← srtP_len, e]; rfl))
/-- each once, in order -/
theorem ans60_nil : Ans Cs 60 [.v (.slice none 0 0)] (.v (.slice none 0 0)) := by
  have h83 : ∀ (X : Heap) (me : FuncId) (d : Option Tmp), callA Cs (lim Cs) me 83 d [.v (.slice none 0 0)] X = some (.v (.slice none 0 0), X) := fun X me d => by
    refine callA_rawX extS_83 (pureS_83 _ _) ?_
    rw [fn_step fnS_83 (show Tryz.f83.body = some _ from rfl)]
    generalize hKK : rawX X _ _ = KK
    simp -implicitDefEqProofs only [Tryz.f83, go_sem, ↓reduceIte, Int.reduceEq, Int.reduceLT, Int.reduceLE, List.reduceReplicate, intA, setT_nil, setT_cons, ↓boolP_bool, ↓iteB_true, ↓iteB_false]
    rw [← hKK]
    exact rawX_same _ _ rfl
  unfold Ans
  rw [fn_step fnS_60 (show Tryz.f60.body = some _ from rfl)]
  simp -implicitDefEqProofs only [Tryz.f60, go_sem, ↓reduceIte, Int.reduceEq, Int.reduceLT, Int.reduceLE, List.reduceReplicate, intA, setT_nil, setT_cons, ↓boolP_bool, ↓iteB_true, ↓iteB_false, call84_nil, h83]
theorem call60_nil (me : FuncId) (d : Option Tmp) (H : Heap) : callA Cs (lim Cs) me 60 d [.v (.slice none 0 0)] H = some (.v (.slice none 0 0), H) :=
  ans60_nil.call extS_60 (pureS_60 _ _) rfl H
set_option maxHeartbeats 1000000 in
theorem call60 {X : Heap} (ps : List P3) (h0 : ps ≠ []) (hn : ps.length < 2 ^ 33) (b v : Nat) (hb : b < X.size) (hr : X.row b v = some (0, 32, 3, true, clP ps)) (me : FuncId) (d : Option Tmp) :
    callA Cs (lim Cs) me 60 d [.sl b v 0 ps.length none] X = some (plsV (onceL (srtP ps)), X) := by
  refine callA_fz extS_60 (pureS_60 _ _) rfl (fun h => ?_) ?_
  · have : Nat.max (b + 1) 0 = 0 := h
    have h1 := Nat.le_max_left (b + 1) 0
    have h2 : b + 1 ≤ 0 := this ▸ h1
    omega
  rw [fn_step fnS_60 (show Tryz.f60.body = some _ from rfl)]
  generalize hX : ({ X with lock := X.size } : Heap) = X'
  have hN : X'.size = X.size := by rw [← hX]; rfl
  have hlk : X'.lock ≤ X.size := by rw [← hX]; exact Nat.le_refl _
  have hr' : X'.row b v = some (0, 32, 3, true, clP ps) := by rw [← hX]; exact hr
  have h84 := call84 hN hlk ps h0 hn b v hb hr'
  obtain ⟨Y, h83, cs, rfl, hc1, hc2, hc3, hc4⟩ := call83 hN hlk (srtP ps) (srtP_ne h0) (by rw [srtP_len]; exact hn) 60 (some 5)
  rw [srtP_len] at h83
  have hb1 : ltB b X.size = true := by unfold ltB; simp; omega
  unfold rowO at h83
  generalize hKK : (fun (v : AV) (H' : Heap) => freezeV { H' with lock := X.size } 1000000 v = some (plsV (onceL (srtP ps)))) = KK
  simp -implicitDefEqProofs only [Tryz.f60, go_sem, ↓reduceIte, Int.reduceEq, Int.reduceLT, Int.reduceLE, List.reduceReplicate, intA, setT_nil, setT_cons, ↓boolP_bool, ↓iteB_true, ↓iteB_false, h84, h83, rowO, sizeP hN, putP0 hN, putP hN, settleP0 hN, settleP hN, List.length_nil, Nat.add_zero]
  rw [← hKK]
  have hne := onceL_ne (srtP_ne h0)
  have e1 : plsV (onceL (srtP ps)) = .vs 3 ((onceL (srtP ps)).map p3V) none := by
    generalize onceL (srtP ps) = f at hne
    cases f with | nil => exact absurd rfl hne | cons r f => rfl
  show freezeV _ 1000000 (.sl X.size 0 0 (onceL (srtP ps)).length none) = _
  rw [e1, ← chunk_pls]
  unfold freezeV
  have hrow : ∀ k, Heap.row { X'.plus [some (.cells 0 0 32 3 true cs)] with lock := k } X.size 0 = some (0, 32, 3, true, cs) := fun k => rowP0 hN [some (.cells 0 0 32 3 true cs)] 0
  have hse : settleH X'.size (X'.plus [some (.cells 0 0 32 3 true cs)]) = X'.plus [some (.cells 0 0 32 3 true cs)] := by rw [hN, settleP0 hN]; rfl
  simp only [hse, hrow]
  rw [if_neg (Nat.lt_irrefl _), if_pos ⟨by omega, by omega⟩, if_pos trivial, List.drop_zero, hc2]
end Go.Ev
namespace Go.Ev
open Go.Proofs Go.Sort
set_option maxRecDepth 100000
set_option linter.unusedSimpArgs false
attribute [local irreducible] Wp WpS
/-! ### lists of copies: closed, or in memory -/
/-- a list that can be gone through wherever this memory is -/
structure Rdb (X : Heap) (zs : List AV) (lx : AV) : Prop where
  len : slLen lx = some (.v (.int .i64 zs.length))
  yld : isYld lx = false
  get : ∀ (i : Nat) (z : AV), zs[i]? = some z → ∃ p, slIdx 2 lx (.v (.int .i64 (i : Int))) = some p ∧ ∀ H : Heap, (∀ b, b < X.size → H.get b = X.get b) → loadA Tryz.prog H 53 p = some z
theorem rdb_closed {zs : List AV} {lx : AV} (h : SlOf 2 zs lx) (hz : ∀ z ∈ zs, ∃ a b, z = .agg [a, b]) (X : Heap) : Rdb X zs lx := by
  refine ⟨h.len, ?_, fun i z hi => ⟨.ro z 0, h.idx hi .i64, fun H _ => ?_⟩⟩
  · rcases h with ⟨rfl, -⟩ | ⟨c, rfl⟩ <;> rfl
  · obtain ⟨a, b, rfl⟩ := hz z (List.mem_of_getElem? hi)
    have e1 : isAggT Tryz.prog 53 = some true := isagg_53
    have e2 : sizeT Tryz.prog 53 = some 2 := size_53
    unfold loadA partOf
    rw [e1, e2]
    rfl
/-- what is told of the copies of a list -/
structure CpsOk (ch : AV) (cs : List (Int × List Rd)) (zs : List AV) : Prop where
  len : cs.length = zs.length
  get : ∀ (i : Nat) (c : Int × List Rd), cs[i]? = some c → ∃ y, zs[i]? = some (.agg [intA c.1, y]) ∧ RdsA c.2 y ∧ c.2.length ≤ 20 ∧
    (∀ (me : FuncId) (d : Option Tmp) (H : Heap), callA Cs (lim Cs) me 58 d [.agg [ch], .agg [intA c.1, y]] H = some (.v (.bool true), H)) ∧
    ∀ (me : FuncId) (d : Option Tmp) (H : Heap), callA Cs (lim Cs) me 59 d [.agg [intA c.1, y]] H = some (plsV (dbtL c.2), H)
/-! ### memory behind which places are laid -/
structure MP (X : Heap) (ch : AV) (H : Heap) (ps : List P3) (out : AV) : Prop where
  lock : H.lock = X.lock
  size : X.size + 2 ≤ H.size
  low : ∀ b, b < X.size → H.get b = X.get b
  b1 : H.get X.size = some (.cells 0 0 24 1 false [ch])
  b2 : H.get (X.size + 1) = some (.cells 0 0 79 1 false [ch])
  done : (ps = [] ∧ out = .v (.slice none 0 0)) ∨ (ps ≠ [] ∧ ∃ b v, X.size + 2 ≤ b ∧ b < H.size ∧ out = .sl b v 0 ps.length none ∧ H.row b v = some (0, 32, 3, true, clP ps))
theorem MP.plus {X : Heap} {ch : AV} {H : Heap} {ps : List P3} {out : AV} (h : MP X ch H ps out) (E : List (Option AObj)) : MP X ch (H.plus E) ps out := by
  have hs := h.size
  refine ⟨h.lock, by rw [plus_size]; omega, fun b hb => (plus_get E (by omega)).trans (h.low b hb), (plus_get E (by omega)).trans h.b1, (plus_get E (by omega)).trans h.b2, ?_⟩
  rcases h.done with hd | ⟨h0, b, v, h1, h2, h3, h4⟩
  · exact Or.inl hd
  · exact Or.inr ⟨h0, b, v, h1, by rw [plus_size]; omega, h3, by rw [rowLo h2]; exact h4⟩
theorem MP.trim {X : Heap} {ch : AV} {H : Heap} {ps : List P3} {out : AV} (h : MP X ch H ps out) {n : Nat} (hn : X.size + 2 ≤ n) (hn2 : n ≤ H.size) (vs : List AV) (ms : List Nat) (hv : bound out ≤ boundL vs) : MP X ch (H.trim n vs ms) ps out := by
  refine ⟨trim_lock.trans h.lock, Nat.le_trans hn (trim_size' hn2), fun b hb => (trim_lo (by omega)).trans (h.low b hb), (trim_lo (by omega)).trans h.b1, (trim_lo (by omega)).trans h.b2, ?_⟩
  rcases h.done with hd | ⟨h0, b, v, h1, h2, rfl, h4⟩
  · exact Or.inl hd
  · unfold Heap.trim
    split
    · rename_i hq
      rw [Bool.and_eq_true, Bool.and_eq_true, Bool.and_eq_true, Nat.ble_eq] at hq
      have h5 := hq.1.1.1
      have hb : b < n := by simp only [bound] at hv; omega
      have hg := (takeH_get (H := H) hb).trans (row_of_get h4)
      exact Or.inr ⟨h0, b, v, h1, get_size hg, rfl, get_row hg⟩
    · exact Or.inr ⟨h0, b, v, h1, h2, rfl, h4⟩
theorem MP.more {X : Heap} {ch : AV} {H : Heap} {ps : List P3} {b v : Nat} (h : MP X ch H ps (.sl b v 0 ps.length none)) (h0 : ps ≠ []) (h1 : X.size + 2 ≤ b) (hb : b < H.size) (s : List P3) (n : Nat) (hn : n = ps.length + s.length) : MP X ch (H.put b (.cells (v + 1) 0 32 3 true (clP (ps ++ s)))) (ps ++ s) (.sl b (v + 1) 0 n none) := by
  have hs := h.size
  refine ⟨h.lock, by rw [put_sizeI _ hb]; omega, fun c hc => (put_get_ne _ (by omega) (by omega)).trans (h.low c hc), (put_get_ne _ (by omega) (by omega)).trans h.b1, (put_get_ne _ (by omega) (by omega)).trans h.b2, Or.inr ⟨fun e => h0 (List.append_eq_nil_iff.1 e).1, b, v + 1, h1, by rw [put_sizeI _ hb]; exact hb, by rw [hn, List.length_append], row_put_same hb⟩⟩
theorem MP.new {X : Heap} {ch : AV} {H : Heap} {ps : List P3} {out : AV} (h : MP X ch H ps out) {N : Nat} (hN : H.size = N) (E : List (Option AObj)) (k : Nat) (qs : List P3) (h0 : qs ≠ []) (hE : E[k]? = some (some (.cells 0 0 32 3 true (clP qs)))) : MP X ch (H.plus E) qs (.sl (N + k) 0 0 qs.length none) := by
  have hk := (List.getElem?_eq_some_iff.1 hE).1
  have hs := h.size
  refine ⟨h.lock, by rw [plus_size]; omega, fun b hb => (plus_get E (by omega)).trans (h.low b hb), (plus_get E (by omega)).trans h.b1, (plus_get E (by omega)).trans h.b2, Or.inr ⟨h0, N + k, 0, by omega, by rw [plus_size]; omega, rfl, ?_⟩⟩
  rw [rowP hN, hE]; rfl
theorem call40S {t : Txt} (ht : Fits t) (htx : textB t = true) {ch : AV} {xs : List AV} (hch : SlOf 2 xs ch) (hall : All2 ChapA t xs) (me : FuncId) (d : Option Tmp) (H : Heap) : callA Cs (lim Cs) me 40 d [.agg [ch]] H = some (.tup [.agg [ch], .v (.int .i64 0)], H) := by
  have h := ans40 quietA t ht ch ⟨xs, hch, hall⟩
  rw [htx, if_pos rfl] at h
  exact told rfl h (by simp only [boundL_cons, bound_agg, hch.bound, boundL_nil]; rfl) me d H
theorem plsV_cells (H : Heap) (l : List P3) : cellsFrom H 3 (plsV l) = some (l.length, clP l) := by
  cases l with
  | nil => rfl
  | cons p r =>
    show cellsFrom H 3 (.vs 3 ((p :: r).map p3V) none) = _
    rw [cells_vs', if_pos rfl, List.length_map]
    congr 2
    unfold clP flatE
    rw [List.flatMap_map, List.map_flatMap]
    rfl
set_option maxHeartbeats 4000000 in
theorem fn32 {X : Heap} (hlk : X.lock ≤ X.size) {t : Txt} (ht : Fits t) (htx : textB t = true) {ch : AV} {xs : List AV} (hch : SlOf 2 xs ch) (hall : All2 ChapA t xs) {cs : List (Int × List Rd)} {zs : List AV} (hcs : CpsOk ch cs zs) (hc5 : cs.length ≤ 5) {lx : AV} (hr : Rdb X zs lx) :
    Fn' Cs 32 [.agg [ch], lx] X (fun v _ => v = .tup [plsV (doubtL cs), .v (.int .i64 0)]) := by
  obtain ⟨N, hN⟩ : ∃ N, X.size = N := ⟨_, rfl⟩
  have h40 := call40S ht htx hch hall
  have hl := hr.len
  rw [← hcs.len] at hl
  rw [hN] at hlk
  generalize hKK : (fun (v : AV) (_ : Heap) => v = .tup [plsV (doubtL cs), .v (.int .i64 0)]) = KK
  rw [fn_step fnS_32 (show Tryz.f32.body = some _ from rfl), ← plus_nil X]
  have hnot : ¬ 5 < (cs.length : Int) := by omega
  simp -implicitDefEqProofs only [Tryz.f32, go_sem, ↓reduceIte, Int.reduceEq, Int.reduceLT, Int.reduceLE, List.reduceReplicate, intA, setT_nil, setT_cons, ↓boolP_bool, ↓iteB_true, ↓iteB_false, hch.cells, hch.flat, hch.bound, h40, hl, hnot, sizeP hN, putP0 hN, putP hN, settleP0 hN, settleP hN, rowP0 hN, rowP hN, storeP0 hN hlk, storeP hN hlk, List.length_nil, List.length_cons, Nat.add_zero, Nat.zero_add]
  refine Lp_rule (P := fun μ a H => ∃ (i : Nat) (ps : List P3) (out : AV), i + μ = cs.length ∧ ps = allD (cs.take i) ∧ ps.length ≤ i * 20 ∧ a = ⟨39, [(0, .agg [ch]), (1, lx), (2, .ptr N 0 0), (4, .v (.slice none 0 0)), (5, intA 0), (6, .ptr (N + 1) 0 0), (7, intA 0), (17, .v (.bool false)), (21, .v (.bool false)), (8, out), (22, lx), (23, intA cs.length), (24, intA i)], []⟩ ∧ MP X ch H ps out) ?_ cs.length _ _ ⟨0, [], _, by omega, rfl, Nat.le_refl _, rfl, ?_⟩
  · rintro μ _ H ⟨i, ps, out, hi, hps, hpl, rfl, hM⟩
    obtain ⟨M, hMs⟩ : ∃ M, H.size = M := ⟨_, rfl⟩
    have hsz := hM.size
    have hlkM : H.lock ≤ M := by rw [hM.lock]; omega
    by_cases hlt : (i : Int) < (cs.length : Int)
    · obtain ⟨c, hc⟩ := at_lt cs i (by omega)
      obtain ⟨y, hz, hRd, hrl, h58, h59⟩ := hcs.get i c hc
      obtain ⟨p, hp1, hp2⟩ := hr.get i _ hz
      have hw := wrap_succ i (by omega)
      have hld : ∀ E, loadA Tryz.prog (H.plus E) 53 p = some (.agg [intA c.1, y]) := fun E => hp2 _ fun b hb => ((hM.plus E).low b hb)
      have hb2 : ∀ E, (H.plus E).row (N + 1) 0 = some (0, 79, 1, false, [ch]) := fun E => get_row (by rw [← hN]; exact (hM.plus E).b2)
      have hyf : SlOf 5 (c.2.map rdV) y := hRd
      have hdl := dbtL_len c.2
      have hall2 : allD (cs.take (i + 1)) = ps ++ dbtL c.2 := by
        rw [hps]; unfold allD; rw [List.take_add_one, hc, List.flatMap_append]; simp
      unfold intA at hld h58 h59
      have hpc := plsV_cells
      have hcf := clP_flat
      rw [← plus_nil H]
      rcases hM.done with ⟨rfl, rfl⟩ | ⟨h0, b, v, hb1, hb3, rfl, hrow⟩
      · cases hd : dbtL c.2 with
        | nil =>
          rw [hd] at h59 hall2
          simp -implicitDefEqProofs only [go_sem, ↓reduceIte, Int.reduceEq, Int.reduceLT, Int.reduceLE, List.reduceReplicate, intA, setT_nil, setT_cons, ↓boolP_bool, ↓iteB_true, ↓iteB_false, hlt, hw, hp1, hld, hb2, h58, h59, hpc, hcf, app47, hch.cells, hch.flat, hch.bound, hyf.cells, hyf.flat, hyf.bound, sizeP hMs, putP0 hMs, putP hMs, settleP0 hMs, settleP hMs, rowP0 hMs, rowP hMs, storeP0 hMs hlkM, storeP hMs hlkM, List.length_nil, List.length_cons, Nat.add_zero, Nat.zero_add]
          exact ⟨μ - 1, by omega, i + 1, [], _, by omega, hall2.symm, Nat.zero_le _, rfl, (hM.plus _).trim (by omega) (by rw [plus_size]; omega) _ _ (Nat.zero_le _)⟩
        | cons q r =>
          rw [hd] at h59 hall2 hdl
          have hf : fitsA 24 (r.length + 1) = true := by unfold fitsA; simp only [List.length_cons] at hdl; exact decide_eq_true (by omega)
          simp -implicitDefEqProofs only [go_sem, ↓reduceIte, Int.reduceEq, Int.reduceLT, Int.reduceLE, List.reduceReplicate, intA, setT_nil, setT_cons, ↓boolP_bool, ↓iteB_true, ↓iteB_false, hlt, hw, hp1, hld, hb2, h58, h59, hpc, hcf, hf, clP_bound, app47, hch.cells, hch.flat, hch.bound, hyf.cells, hyf.flat, hyf.bound, sizeP hMs, putP0 hMs, putP hMs, settleP0 hMs, settleP hMs, rowP0 hMs, rowP hMs, storeP0 hMs hlkM, storeP hMs hlkM, List.length_nil, Nat.add_zero, Nat.zero_add]
          exact ⟨μ - 1, by omega, i + 1, q :: r, _, by omega, hall2.symm, by simp only [List.length_cons] at hdl ⊢; omega, rfl, (hM.new hMs [some (.cells 0 0 53 1 false [.v (.int .i64 c.1), y]), some (.cells 0 0 32 3 true (clP (q :: r)))] 1 (q :: r) (by simp) rfl).trim (by omega) (by rw [plus_size]; omega) _ _ (le_boundL (by simp))⟩
      · cases hd : dbtL c.2 with
        | nil =>
          rw [hd, List.append_nil] at hall2
          rw [hd] at h59
          simp -implicitDefEqProofs only [go_sem, ↓reduceIte, Int.reduceEq, Int.reduceLT, Int.reduceLE, List.reduceReplicate, intA, setT_nil, setT_cons, ↓boolP_bool, ↓iteB_true, ↓iteB_false, hlt, hw, hp1, hld, hb2, h58, h59, hpc, hcf, app47, appTo_none, hch.cells, hch.flat, hch.bound, hyf.cells, hyf.flat, hyf.bound, sizeP hMs, putP0 hMs, putP hMs, settleP0 hMs, settleP hMs, rowP0 hMs, rowP hMs, storeP0 hMs hlkM, storeP hMs hlkM, List.length_nil, List.length_cons, Nat.add_zero, Nat.zero_add]
          exact ⟨μ - 1, by omega, i + 1, ps, _, by omega, hall2.symm, by omega, rfl, (hM.plus _).trim (by omega) (by rw [plus_size]; omega) _ _ (le_boundL (by simp))⟩
        | cons q r =>
          rw [hd] at h59 hall2 hdl
          have hlen : (q :: r).length = r.length + 1 := rfl
          have hf : fitsA 24 (ps.length + (r.length + 1)) = true := by unfold fitsA; exact decide_eq_true (by omega)
          have hrp : ∀ E, (H.plus E).row b v = some (0, 32, 3, true, clP ps) := fun E => by rw [rowLo hb3]; exact hrow
          have hmore := hM.more h0 hb1 hb3 (q :: r) (ps.length + (r.length + 1)) rfl
          simp -implicitDefEqProofs only [go_sem, ↓reduceIte, Int.reduceEq, Int.reduceLT, Int.reduceLE, List.reduceReplicate, intA, setT_nil, setT_cons, ↓boolP_bool, ↓iteB_true, ↓iteB_false, hlt, hw, hp1, hld, hb2, h58, h59, hpc, hcf, app47, hch.cells, hch.flat, hch.bound, hyf.cells, hyf.flat, hyf.bound, sizeP hMs, putP0 hMs, putP hMs, settleP0 hMs, settleP hMs, rowP0 hMs, rowP hMs, storeP0 hMs hlkM, storeP hMs hlkM, List.length_nil, List.length_cons, Nat.add_zero, Nat.zero_add]
          rw [appTo_own (m := 0) (e' := 32) (cs := clP ps) (hrp _) (by rw [clP_len]) (by show H.lock ≤ b; rw [hM.lock]; omega) hf (by omega) (by omega)]
          rw [putLo hb3, clP_bound, ← clP_append]
          change bindO (some (AV.sl b (v + 1) 0 (ps.length + (r.length + 1)) none, (H.put b (.cells (v + 1) 0 32 3 true (clP (ps ++ q :: r)))).plus _)) _
          have hNZ : (H.put b (.cells (v + 1) 0 32 3 true (clP (ps ++ q :: r)))).size = M := by rw [put_sizeI _ hb3]; exact hMs
          generalize H.put b (.cells (v + 1) 0 32 3 true (clP (ps ++ q :: r))) = Z at hmore hNZ ⊢
          simp -implicitDefEqProofs only [go_sem, ↓reduceIte, Int.reduceEq, Int.reduceLT, Int.reduceLE, List.reduceReplicate, intA, setT_nil, setT_cons, ↓boolP_bool, ↓iteB_true, ↓iteB_false, hw, sizeP hNZ, settleP0 hNZ, settleP hNZ]
          exact ⟨μ - 1, by omega, i + 1, ps ++ q :: r, _, by omega, hall2.symm, by rw [List.length_append, hlen]; simp only [hlen] at hdl; omega, rfl, (hmore.plus _).trim (by omega) (by rw [plus_size]; omega) _ _ (le_boundL (by simp))⟩
    · obtain rfl : i = cs.length := by omega
      rw [List.take_length] at hps
      rcases hM.done with ⟨h0, rfl⟩ | ⟨h0, b, v, hb1, hb3, rfl, hrow⟩
      · have hd : doubtL cs = [] := by unfold doubtL; rw [← hps, h0]; rfl
        have h60 := call60_nil
        simp -implicitDefEqProofs only [go_sem, ↓reduceIte, Int.reduceEq, Int.reduceLT, Int.reduceLE, List.reduceReplicate, intA, setT_nil, setT_cons, ↓boolP_bool, ↓iteB_true, ↓iteB_false, hlt, h60]
        rw [← hKK]
        show AV.tup [.v (.slice none 0 0), .v (.int .i64 0)] = AV.tup [plsV (doubtL cs), .v (.int .i64 0)]
        rw [hd]; rfl
      · have h60 := fun me d E => call60 (X := H.plus E) ps h0 (by omega) b v (by rw [plus_size]; omega) (by rw [rowLo hb3]; exact hrow) me d
        rw [← plus_nil H]
        simp -implicitDefEqProofs only [go_sem, ↓reduceIte, Int.reduceEq, Int.reduceLT, Int.reduceLE, List.reduceReplicate, intA, setT_nil, setT_cons, ↓boolP_bool, ↓iteB_true, ↓iteB_false, hlt, h60]
        rw [← hKK]
        show AV.tup [plsV (onceL (srtP ps)), .v (.int .i64 0)] = AV.tup [plsV (doubtL cs), .v (.int .i64 0)]
        unfold doubtL; rw [hps]
  · have hq : (X.plus [some (.cells 0 0 24 1 false [ch]), some (.cells 0 0 79 1 false [ch])]).size = N + 2 := by rw [sizeP hN]; rfl
    refine ⟨rfl, by rw [hq, hN]; exact Nat.le_refl _, fun b hb => plus_get _ hb, ?_, ?_, Or.inl ⟨rfl, rfl⟩⟩
    · rw [plus_get_hi _ (Nat.le_refl _), Nat.sub_self]; rfl
    · rw [plus_get_hi _ (by omega), show X.size + 1 - X.size = 1 by omega]; rfl
end Go.Ev
namespace Go.Ev
open Go.Proofs
set_option maxRecDepth 100000
set_option linter.unusedSimpArgs false
attribute [local irreducible] Wp WpS
set_option maxHeartbeats 2000000 in
/-- what read answers, Read answers of a copy that is one of the text -/
theorem ans25 {e : Exts} (he : Quiet e) (t : Txt) (ht : Fits t) (htx : textB t = true) (ch : AV) (xs : List AV) (hch : SlOf 2 xs ch) (hall : All2 ChapA t xs) (id : Int) (rs : List Rd) (x : AV) (hx : RdsA rs x) (h58 : Has58 e ch id x true) (ys : List AV) (o : AV) (ho : SlOf 2 ys o) (h55 : Ans (Cx e) 55 [.agg [ch], .agg [intA id, x]] (.agg [o])) : Ans (Cx e) 25 [.agg [ch], .agg [intA id, x]] (.tup [.agg [o], intA 0]) := by
  have h54 := call54 he t ht htx ch xs hch hall id rs x hx h58
  have hx : SlOf 5 (rs.map rdV) x := hx
  have hc55 : ∀ (me : FuncId) (d : Option Tmp) (H : Heap), callA (Cx e) (lim (Cx e)) me 55 d [.agg [ch], .agg [.v (.int .i64 id), x]] H = some (.agg [o], H) := fun me d H =>
    h55.call (ext_55 he) (pure_55 _ _ _) (by simp only [boundL_cons, bound_agg, hch.bound, intA, bound_v, hx.bound, boundL_nil]; rfl) H
  unfold Ans
  rw [fn_step (fn_25 e) (show Tryz.f25.body = some _ from rfl)]
  simp -implicitDefEqProofs only [Tryz.f25, go_sem, ↓reduceIte, Int.reduceEq, Int.reduceLT, Int.reduceLE, List.reduceReplicate, intA, setT_nil, setT_cons, ↓boolP_bool, ↓iteB_true, ↓iteB_false, hch.cells, hch.flat, hch.bound, hx.cells, hx.flat, hx.bound, h54, hc55, ho.cells, ho.flat, ho.bound]
  rcases ho with ⟨rfl, -⟩ | ⟨cap, rfl⟩ <;> rfl
end Go.Ev
namespace Go.Ev
open Go.Proofs
set_option maxRecDepth 100000
set_option linter.unusedSimpArgs false
attribute [local irreducible] Wp WpS
theorem trimP1 {X : Heap} {N : Nat} (hN : X.size = N) (o : Option AObj) (vs : List AV) (ms : List Nat) : (X.plus [o]).trim (N + 1) vs ms = X.plus [o] := by
  have : N + 1 = (X.plus [o]).size := by rw [sizeP hN]; rfl
  rw [this, trim_size]
theorem isAgg3 : isAggT Tryz.prog 3 = some false := by kernel_rfl
theorem size3 : sizeT Tryz.prog 3 = some 1 := by kernel_rfl
set_option maxHeartbeats 4000000 in
theorem fn69 {e : Exts} {X : Heap} {N : Nat} (hN : X.size = N) (lo hi : Int) (ns : List Int) (a : AV) (ha : SlH X (ns.map intA) a) (hn : ns.length < 2 ^ 63) : Fn' (Cx e) 69 [.agg [.v (.int .i64 lo), .v (.int .i64 hi)], a] X (fun v _ => v = .v (.bool (withinB lo hi ns))) := by
  rw [fn_step (fn_69 e) (show Tryz.f69.body = some _ from rfl)]
  rw [← plus_nil X]
  simp -implicitDefEqProofs only [Tryz.f69, go_sem, ↓reduceIte, Int.reduceEq, Int.reduceLT, Int.reduceLE, List.reduceReplicate, intA, setT_nil, setT_cons, ↓boolP_bool, ↓iteB_true, ↓iteB_false, ha.len, List.length_map, sizeP hN, putP0 hN, putP hN, settleP0 hN, settleP hN, List.length_nil, Nat.add_zero]
  refine Lp_rule (P := fun μ a' H => ∃ j, j + μ = ns.length ∧ a' = ⟨24, [(0, .agg [intA lo, intA hi]), (1, a), (2, .ptr N 0 0), (4, .v (.bool false)), (7, a), (8, intA ns.length), (9, intA j)], []⟩ ∧ X.plus [some (.cells 0 0 120 1 false [intA lo, intA hi])] = H ∧ withinB lo hi ns = withinB lo hi (ns.drop j)) ?_ ns.length _ _ ⟨0, by omega, rfl, rfl, rfl⟩
  rintro μ _ _ ⟨j, hj, rfl, rfl, ho⟩
  by_cases hlt : (j : Int) < (ns.length : Int)
  · obtain ⟨n, hr⟩ := at_lt ns j (by omega)
    have hw := wrap_succ j (by omega)
    obtain ⟨p, hp1, hp2, hp3⟩ := ha.get hN (show (ns.map intA)[j]? = some (intA n) by rw [List.getElem?_map, hr]; rfl) rfl .i64
    unfold intA at hp2
    rw [drop_eq_cons hr] at ho
    have hgo : withinB lo hi [n] = true → withinB lo hi ns = withinB lo hi (ns.drop (j + 1)) := fun h => by
      rw [ho]; unfold withinB at h ⊢; simp only [List.all_cons, List.all_nil, Bool.and_true] at h ⊢; rw [h, Bool.true_and]
    have hno : withinB lo hi [n] = false → withinB lo hi ns = false := fun h => by
      rw [ho]; unfold withinB at h ⊢; simp only [List.all_cons, List.all_nil, Bool.and_true] at h ⊢; rw [h, Bool.false_and]
    by_cases k1 : n < lo
    · have hf := hno (by unfold withinB; simp; omega)
      rw [hf]
      simp -implicitDefEqProofs only [go_sem, ↓reduceIte, Int.reduceEq, Int.reduceLT, Int.reduceLE, List.reduceReplicate, intA, setT_nil, setT_cons, ↓boolP_bool, ↓iteB_true, ↓iteB_false, hlt, hw, hp1, hp2 _ _ isAgg3 size3, k1, sizeP hN, rowP0 hN, rowP hN, settleP0 hN, settleP hN, List.length_nil, Nat.add_zero]
      rfl
    · by_cases k2 : hi < n
      · have hf := hno (by unfold withinB; simp; omega)
        rw [hf]
        simp -implicitDefEqProofs only [go_sem, ↓reduceIte, Int.reduceEq, Int.reduceLT, Int.reduceLE, List.reduceReplicate, intA, setT_nil, setT_cons, ↓boolP_bool, ↓iteB_true, ↓iteB_false, hlt, hw, hp1, hp2 _ _ isAgg3 size3, k1, k2, sizeP hN, rowP0 hN, rowP hN, settleP0 hN, settleP hN, List.length_nil, Nat.add_zero]
        rfl
      · have hf := hgo (by unfold withinB; simp; omega)
        simp -implicitDefEqProofs only [go_sem, ↓reduceIte, Int.reduceEq, Int.reduceLT, Int.reduceLE, List.reduceReplicate, intA, setT_nil, setT_cons, ↓boolP_bool, ↓iteB_true, ↓iteB_false, hlt, hw, hp1, hp2 _ _ isAgg3 size3, k1, k2, sizeP hN, rowP0 hN, rowP hN, settleP0 hN, settleP hN, List.length_nil, Nat.add_zero, trimP1 hN]
        exact ⟨μ - 1, by omega, j + 1, by omega, rfl, rfl, hf⟩
  · have hf : withinB lo hi ns = true := by rw [ho, show ns.drop j = [] from List.drop_eq_nil_of_le (by omega)]; rfl
    rw [hf]
    simp -implicitDefEqProofs only [go_sem, ↓reduceIte, Int.reduceEq, Int.reduceLT, Int.reduceLE, List.reduceReplicate, intA, setT_nil, setT_cons, ↓boolP_bool, ↓iteB_true, ↓iteB_false, hlt, sizeP hN, settleP0 hN, settleP hN, List.length_nil, Nat.add_zero, trimP1 hN]
    rfl
theorem callP69 {e : Exts} (he : Quiet e) {X : Heap} (lo hi : Int) (ns : List Int) (a : AV) (ha : SlH X (ns.map intA) a) (hn : ns.length < 2 ^ 63) (me : FuncId) (d : Option Tmp) : callA (Cx e) (lim (Cx e)) me 69 d [.agg [.v (.int .i64 lo), .v (.int .i64 hi)], a] X = some (.v (.bool (withinB lo hi ns)), X) := by
  refine callA_still (ext_69 he) (pure_69 _ _ _) ?_ (fun h0 => fn69 rfl lo hi ns a (ha.closed ?_ _) hn) (fn69 rfl lo hi ns a (ha.lock _) hn)
  · have : isYld (.agg [.v (.int .i64 lo), .v (.int .i64 hi)]) = false := rfl
    simp [ha.yld, this]
  · rw [boundL_cons, boundL_cons] at h0
    exact Nat.le_zero.1 (h0 ▸ Nat.le_trans (Nat.le_max_left _ _) (Nat.le_max_right _ _))
theorem fn82 {e : Exts} (he : Quiet e) {X : Heap} (ns : List Int) (a : AV) (ha : SlH X (ns.map intA) a) (hn : ns.length < 2 ^ 63) : Fn' (Cx e) 82 [a] X (fun v _ => v = .v (.bool (withinB 1 10 ns))) := by
  rw [fn_step (fn_82 e) (show Tryz.f82.body = some _ from rfl)]
  have hc := callP69 he 1 10 ns a ha hn
  simp -implicitDefEqProofs only [Tryz.f82, go_sem, ↓reduceIte, Int.reduceEq, Int.reduceLT, Int.reduceLE, List.reduceReplicate, intA, setT_nil, setT_cons, ↓boolP_bool, ↓iteB_true, ↓iteB_false, hc]
  rfl
theorem callP82 {e : Exts} (he : Quiet e) {X : Heap} (ns : List Int) (a : AV) (ha : SlH X (ns.map intA) a) (hn : ns.length < 2 ^ 63) (me : FuncId) (d : Option Tmp) : callA (Cx e) (lim (Cx e)) me 82 d [a] X = some (.v (.bool (withinB 1 10 ns)), X) := by
  refine callA_still (ext_82 he) (pure_82 _ _ _) ?_ (fun h0 => fn82 he ns a (ha.closed ?_ _) hn) (fn82 he ns a (ha.lock _) hn)
  · simp [ha.yld]
  · rw [boundL_cons] at h0
    exact Nat.le_zero.1 (h0 ▸ Nat.le_max_left _ _)
end Go.Ev
namespace Go.Ev
open Go.Proofs
set_option maxRecDepth 100000
set_option linter.unusedSimpArgs false
attribute [local irreducible] Wp WpS
/-! ### the lengths of the lines of a copy -/
def lenIt (x : List AV) : Int := match x with | [_, z] => ((slElems z).length : Int) | _ => 0
def lensOf (ys : List AV) : List Int := ys.flatMap fun y => (linesOf y).map fun z => ((slElems z).length : Int)
theorem lineIts_lens (i : Nat) : ∀ (k : Nat) (zs : List AV), (lineIts i k zs).map lenIt = zs.map fun z => ((slElems z).length : Int)
  | _, [] => rfl
  | k, z :: r => by
    show lenIt _ :: (lineIts i (k + 1) r).map lenIt = _
    rw [lineIts_lens i (k + 1) r]; rfl
theorem chapIts_lens : ∀ (i : Nat) (ys : List AV), (chapIts i ys).map lenIt = lensOf ys
  | _, [] => rfl
  | i, y :: r => by
    show (lineIts i 0 (linesOf y) ++ chapIts (i + 1) r).map lenIt = _
    rw [List.map_append, lineIts_lens, chapIts_lens (i + 1) r]; rfl
def stp58 (s : List Int) (x : List AV) : AExit × List Int := (.normal, s ++ [lenIt x])
/-- an item that is a place and a line -/
def Item58 (x : List AV) : Prop := ∃ p z els, x = [p, z] ∧ SlOf 1 els z
def ok58 (s : List Int) (x : List AV) : Prop := Item58 x ∧ s.length < 2 ^ 32
theorem run58 : ∀ (T : List (List AV)) (s : List Int), (∀ x ∈ T, Item58 x) → s.length + T.length ≤ 2 ^ 32 →
    okRun (fun s x => (isGo (stp58 s x).1, (stp58 s x).2)) ok58 T s ∧ foldE stp58 T s = (.normal, s ++ T.map lenIt)
  | [], s, _, _ => ⟨trivial, by simp [foldE]⟩
  | x :: r, s, h, hl => by
    have ih := run58 r (s ++ [lenIt x]) (fun z hz => h z (List.mem_cons_of_mem _ hz)) (by simp only [List.length_append, List.length_cons, List.length_nil] at hl ⊢; omega)
    refine ⟨⟨⟨h x (List.mem_cons_self ..), by simp only [List.length_cons] at hl; omega⟩, fun _ => ih.1⟩, ?_⟩
    rw [foldE_go rfl]
    show foldE stp58 r (s ++ [lenIt x]) = _
    rw [ih.2, List.map_cons, List.append_assoc]; rfl
/-- where the lengths lie -/
def L58 (s : List Int) (lv : AV) (m2 : Nat) (rows : Fm) : Prop := (s = [] ∧ lv = .v (.slice none 0 0) ∧ rows = []) ∨ ∃ b v, lv = .sl b v 0 s.length none ∧ 5 ≤ b ∧ b < m2 ∧ rows = [(b, .cells v 0 3 1 true (s.map intA))]
def base58 (ch : AV) (id : Int) (x lv : AV) (m2 : Nat) : Fm := [(0, .cells 0 0 79 1 false [ch]), (1, .cells 0 0 53 1 false [intA id, x]), (2, .cells 0 m2 133 1 false [lv])]
def R58 (ch : AV) (id : Int) (x : AV) (s : List Int) (m : Fm) : Prop := ∃ lv m2 rows, L58 s lv m2 rows ∧ m = base58 ch id x lv m2 ++ rows
theorem R58_anch {ch : AV} {id : Int} {x : AV} (s : List Int) (m : Fm) (h : R58 ch id x s m) : Anch 3 m := by
  obtain ⟨lv, m2, rows, hl, rfl⟩ := h
  rintro n hn ⟨p, hp, hnp⟩
  refine ⟨(2, .cells 0 m2 133 1 false [lv]), List.mem_append_left _ (by unfold base58; simp), by show 2 < n; omega, ?_⟩
  show n < m2
  rcases List.mem_append.1 hp with hp | hp
  · unfold base58 at hp
    simp only [List.mem_cons, List.not_mem_nil, or_false] at hp
    rcases hp with rfl | rfl | rfl <;> simp only at hnp <;> omega
  · rcases hl with ⟨-, -, rfl⟩ | ⟨b, v, -, h5, hb, rfl⟩
    · exact nomatch hp
    · rw [List.mem_singleton.1 hp] at hnp
      simp only at hnp; omega
theorem R58_free {ch : AV} {id : Int} {x : AV} (s : List Int) (m : Fm) (h : R58 ch id x s m) : ¬ keyIn 3 m ∧ ¬ keyIn 4 m := by
  obtain ⟨lv, m2, rows, hl, rfl⟩ := h
  have key : ∀ p ∈ base58 ch id x lv m2 ++ rows, p.1 ≠ 3 ∧ p.1 ≠ 4 := by
    intro p hp
    rcases List.mem_append.1 hp with hp | hp
    · unfold base58 at hp
      simp only [List.mem_cons, List.not_mem_nil, or_false] at hp
      rcases hp with rfl | rfl | rfl <;> exact ⟨by simp, by simp⟩
    · rcases hl with ⟨-, -, rfl⟩ | ⟨b, v, -, h5, hb, rfl⟩
      · exact nomatch hp
      · rw [List.mem_singleton.1 hp]
        exact ⟨by show b ≠ 3; omega, by show b ≠ 4; omega⟩
  exact ⟨fun ⟨p, hp, h⟩ => (key p hp).1 h, fun ⟨p, hp, h⟩ => (key p hp).2 h⟩
theorem fin58 {ch : AV} {id : Int} {x : AV} {s : List Int} {lv : AV} {m2 : Nat} {rows : Fm} {X Y W : Heap} {N : Nat} {L' : ALoop} (hXY : ∀ b, b ≠ 4 → Y.get b = X.get b) (hl4 : Y.get 4 = some (.loop L')) (hXN : X.size = N) (hlk : X.lock = 0) (hsz : 5 ≤ N)
    (hH : Has (base58 ch id x lv m2 ++ rows) Y) (n : Int) (b' v' m2' : Nat) (hW2 : W.get 2 = some (.cells 0 m2' 133 1 false [.sl b' v' 0 (s.length + 1) none])) (hWb : W.get b' = some (.cells v' 0 3 1 true ((s ++ [n]).map intA)))
    (hWo : ∀ b, b < N → b ≠ 2 → b ≠ b' → W.get b = Y.get b) (hWl : W.lock = 0) (hWs : N ≤ W.size) (h5 : 5 ≤ b') (hb : N ≤ b' ∨ keyIn b' rows) (hbm : b' < m2') :
    ∃ m', R58 ch id x (s ++ [n]) m' ∧ Has m' W ∧ loopObj W 4 = some L' ∧ Moves ((4, .loop L') :: (base58 ch id x lv m2 ++ rows)) X ((4, .loop L') :: m') W := by
  have hb0 : W.get 0 = some (.cells 0 0 79 1 false [ch]) := (hWo 0 (by omega) (by omega) (by omega)).trans (hH (0, _) (List.mem_append_left _ (by unfold base58; simp)))
  have hb1 : W.get 1 = some (.cells 0 0 53 1 false [intA id, x]) := (hWo 1 (by omega) (by omega) (by omega)).trans (hH (1, _) (List.mem_append_left _ (by unfold base58; simp)))
  have hb4 : W.get 4 = some (.loop L') := (hWo 4 (by omega) (by omega) (by omega)).trans hl4
  refine ⟨base58 ch id x (.sl b' v' 0 (s.length + 1) none) m2' ++ [(b', .cells v' 0 3 1 true ((s ++ [n]).map intA))], ⟨_, m2', _, Or.inr ⟨b', v', by rw [List.length_append]; rfl, h5, hbm, rfl⟩, rfl⟩, ?_, get_loopObj hb4, ⟨hWl.trans hlk.symm, by omega, ?_, ?_⟩⟩
  · intro p hp
    rcases List.mem_append.1 hp with hp | hp
    · unfold base58 at hp
      simp only [List.mem_cons, List.not_mem_nil, or_false] at hp
      rcases hp with rfl | rfl | rfl
      · exact hb0
      · exact hb1
      · exact hW2
    · rw [List.mem_singleton.1 hp]; exact hWb
  · intro b hbn hk
    have h4 : b ≠ 4 := fun h => hk ⟨_, List.mem_cons_self .., h.symm⟩
    have h2 : b ≠ 2 := fun h => hk ⟨(2, .cells 0 m2 133 1 false [lv]), List.mem_cons_of_mem _ (List.mem_append_left _ (by unfold base58; simp)), h.symm⟩
    have hbb : b ≠ b' := fun h => by
      rcases hb with hb | ⟨p, hp, he⟩
      · omega
      · exact hk ⟨p, List.mem_cons_of_mem _ (List.mem_append_right _ hp), by omega⟩
    rw [hWo b (by omega) h2 hbb, hXY b h4]
  · intro p hp
    rcases List.mem_cons.1 hp with rfl | hp
    · exact Or.inl ⟨_, List.mem_cons_self .., rfl⟩
    · rcases List.mem_append.1 hp with hp | hp
      · unfold base58 at hp
        simp only [List.mem_cons, List.not_mem_nil, or_false] at hp
        have hm : ∀ q ∈ base58 ch id x lv m2, keyIn q.1 ((4, AObj.loop L') :: (base58 ch id x lv m2 ++ rows)) := fun q hq => ⟨q, List.mem_cons_of_mem _ (List.mem_append_left _ hq), rfl⟩
        rcases hp with rfl | rfl | rfl
        · exact Or.inl (hm (0, .cells 0 0 79 1 false [ch]) (by unfold base58; simp))
        · exact Or.inl (hm (1, .cells 0 0 53 1 false [intA id, x]) (by unfold base58; simp))
        · exact Or.inl (hm (2, .cells 0 m2 133 1 false [lv]) (by unfold base58; simp))
      · rw [List.mem_singleton.1 hp]
        rcases hb with hb | ⟨q, hq, he⟩
        · exact Or.inr (by rw [hXN]; exact hb)
        · exact Or.inl ⟨q, List.mem_cons_of_mem _ (List.mem_append_right _ hq), he⟩
end Go.Ev
namespace Go.Ev
open Go.Proofs
set_option maxRecDepth 100000
set_option linter.unusedSimpArgs false
attribute [local irreducible] Wp WpS
theorem call80 {e : Exts} (he : Quiet e) (t : Txt) (ht : Fits t) (ch : AV) (xs : List AV) (hch : SlOf 2 xs ch) (hall : All2 ChapA t xs) (l : List Rd) (x : AV) (hx : RdsA l x) (hn : l.length < 2 ^ 63) (hrd : ∀ r ∈ l, RdF r) (me : FuncId) (d : Option Tmp) (H : Heap) : callA (Cx e) (lim (Cx e)) me 80 d [.agg [ch], x] H = some (.v (.bool (l.all (fitOne t))), H) :=
  (ans80 he t ht ch xs hch hall l x hx hn hrd).call (ext_80 he) (pure_80 _ _ _) (by simp only [boundL_cons, bound_agg, hch.bound, SlOf.bound hx, boundL_nil]; rfl) H
theorem fitsA8 : fitsA 8 1 = true := by decide
set_option maxHeartbeats 4000000 in
theorem ans58 {e : Exts} (he : Quiet e) (t : Txt) (ht : Fits t) (ch : AV) (xs : List AV) (hch : SlOf 2 xs ch) (hall : All2 ChapA t xs) (id : Int) (hid : withinB 0 9999 [id] = true) (rs : List Rd) (x : AV) (hx : RdsA rs x) (hrs : ¬ 20 < (rs.length : Int)) (hrd : ∀ r ∈ rs, RdF r) (hfit : rs.all (fitOne t) = true) (hord : ordB rs = true) (ys : List AV) (o : AV) (ho : SlOf 2 ys o) (hys : ∀ y ∈ ys, OkCh y) (hyl : ys.length < 2 ^ 63) (hit : ∀ z ∈ chapIts 0 ys, Item58 z) (hcnt : (chapIts 0 ys).length < 2 ^ 32) (h55 : Ans (Cx e) 55 [.agg [ch], .agg [intA id, x]] (.agg [o])) : Ans (Cx e) 58 [.agg [ch], .agg [intA id, x]] (.v (.bool (withinB 1 10 (lensOf ys)))) := by
  have hxr := hx
  have hx : SlOf 5 (rs.map rdV) x := hx
  have hc55 : ∀ (me : FuncId) (d : Option Tmp) (H : Heap), callA (Cx e) (lim (Cx e)) me 55 d [.agg [ch], .agg [.v (.int .i64 id), x]] H = some (.agg [o], H) := fun me d H =>
    h55.call (ext_55 he) (pure_55 _ _ _) (by simp only [boundL_cons, bound_agg, hch.bound, intA, bound_v, hx.bound, boundL_nil]; rfl) H
  have h51 := call51 he id
  rw [hid] at h51
  have h80 := call80 he t ht ch xs hch hall rs x hxr (by omega) hrd
  rw [hfit] at h80
  have h81 := call81 he rs x hxr (by omega)
  rw [hord] at h81
  unfold Ans
  rw [fn_step (fn_58 e) (show Tryz.f58.body = some _ from rfl)]
  simp -implicitDefEqProofs only [Tryz.f58, go_sem, ↓reduceIte, Int.reduceEq, Int.reduceLT, Int.reduceLE, List.reduceReplicate, intA, setT_nil, setT_cons, ↓boolP_bool, ↓iteB_true, ↓iteB_false, hch.cells, hch.flat, hch.bound, hx.cells, hx.flat, hx.bound, hx.len, List.length_map, h51, h80, h81, hrs, hc55, ho.cells, ho.flat, ho.bound, call64 he o ys ho]
  refine wp_range2 (yields2_88 o ys ho hys hyl) rfl (R58 ch id x) stp58 (fun _ => True) ok58 (n0 := 3) (k := 0) (Nat.le_refl _) (Nat.zero_le _) ?_ (fun s m h => R58_anch s m h) (fun s m h => R58_free s m h) ?_ ?_ [] (base58 ch id x (.v (.slice none 0 0)) 0) ?_ ?_ ?_ ?_ ?_ ?_
  · intro z hz
    obtain ⟨p, z, els, rfl, -⟩ := hit z hz
    rfl
  · intro _ _ _ _ _; trivial
  · intro L L' s m z X hL hs hok hxl hR hH hd0 hl1 hlk hsz
    obtain ⟨⟨p, z, els, rfl, hz⟩, hsl⟩ := hok
    obtain ⟨lv, m2, rows, hl, rfl⟩ := hR
    have hsz : 5 ≤ X.size := hsz
    have hl1 : loopObj X 4 = some L := hl1
    have hd0 : X.get 3 = some .dfr := hd0
    generalize hN : X.size = N at *
    have hlkN : X.lock ≤ N := by rw [hlk]; exact Nat.zero_le _
    rw [← plus_nil X]
    simp -implicitDefEqProofs only [go_sem, ↓reduceIte, Int.reduceEq, Int.reduceLT, Int.reduceLE, List.reduceReplicate, intA, setT_nil, setT_cons, sizeP hN, putP0 hN, putP hN, settleP0 hN, settleP hN, rowP0 hN, rowP hN, storeP0 hN hlkN, storeP hN hlkN]
    refine ⟨rfl, ?_, ?_⟩
    · refine get_loopObj ?_
      rw [plus_get _ (by omega)]; exact loopObj_getI hl1
    · rw [putLo (by omega)]
      have hf := R58_free (ch := ch) (id := id) (x := x) s _ ⟨lv, m2, rows, hl, rfl⟩
      have hH4 := hH.put (.loop L') (b := 4) (by omega) hf.2
      have hN4 : (X.put 4 (.loop L')).size = N := by rw [put_sizeI _ (by omega)]; exact hN
      have hlk4 : (X.put 4 (.loop L')).lock = 0 := hlk
      have hl4 : (X.put 4 (.loop L')).get 4 = some (.loop L') := put_get_eq _ (by omega)
      have hsm4 : ∀ b, b ≠ 4 → (X.put 4 (.loop L')).get b = X.get b := fun b hb => put_get_ne _ (by omega) hb
      generalize X.put 4 (.loop L') = Y at *
      have hlkY : Y.lock ≤ N := by rw [hlk4]; exact Nat.zero_le _
      have h2' : Y.row 2 0 = some (m2, 133, 1, false, [lv]) := get_row (hH4 (2, _) (List.mem_append_left _ (by unfold base58; simp)))
      have hr2 : ∀ E, (Y.plus E).row 2 0 = some (m2, 133, 1, false, [lv]) := fun E => by rw [rowLo (by omega)]; exact h2'
      have hst := fun (w : AV) (hw : w.flat = true) E => storeLoK (X := Y) (b := 2) (v := 0) (k := 0) (x := w) (by omega) (by omega) h2' (Nat.le_refl _) hw E
      have hst := fun b' v' l' c' E => hst (.sl b' v' 0 l' c') rfl E
      have hn : lenIt [p, z] = (els.length : Int) := by show ((slElems z).length : Int) = _; rw [hz.elems]
      rcases hl with ⟨rfl, rfl, rfl⟩ | ⟨b, v, rfl, hb5, hbm, rfl⟩
      · simp -implicitDefEqProofs only [go_sem, ↓reduceIte, Int.reduceEq, Int.reduceLT, Int.reduceLE, List.reduceReplicate, intA, setT_nil, setT_cons, sizeP hN4, putP0 hN4, putP hN4, settleP0 hN4, settleP hN4, rowP0 hN4, rowP hN4, storeP0 hN4 hlkY, storeP hN4 hlkY, hr2, hz.len, fitsA8, hst, List.flatMap_cons, List.flatMap_nil]
        rw [show stp58 [] [p, z] = (.normal, [] ++ [(els.length : Int)]) by unfold stp58; rw [hn]]
        rw [plus_nil]
        refine ⟨rfl, ?_⟩
        have hmm : N < (if m2 ≤ bound (AV.sl N 0 0 1 none) then bound (AV.sl N 0 0 1 none) else m2) := by rw [bound_sl]; split <;> omega
        generalize (if m2 ≤ bound (AV.sl N 0 0 1 none) then bound (AV.sl N 0 0 1 none) else m2) = m2' at *
        have hP : (Y.put 2 (.cells 0 m2' 133 1 false [.sl N 0 0 1 none])).size = N := by rw [put_sizeI _ (by omega)]; exact hN4
        have hH5 : Has (base58 ch id x (.v (.slice none 0 0)) m2 ++ []) Y := hH4
        have hfin := fin58 (W := settleH N ((Y.put 2 (.cells 0 m2' 133 1 false [.sl N 0 0 1 none])).plus [some (.cells 0 0 3 1 true [.v (.int .i64 els.length)])])) (s := []) hsm4 hl4 hN hlk hsz hH5 (els.length : Int) N 0 m2' ?_ ?_ ?_ ?_ ?_ hsz (Or.inl (Nat.le_refl _)) hmm
        · simpa using hfin
        · rw [settle_lo (by omega), plus_get _ (by omega)]; exact put_get_eq _ (by omega)
        · refine settle_some ?_
          rw [plus_get_hi _ (by omega), hP, Nat.sub_self]; rfl
        · intro b hb h2 hbb
          rw [settle_lo (by omega), plus_get _ (by omega), put_get_ne _ (by omega) (by omega)]
        · rw [settle_lock]; exact hlk4
        · exact settle_size' (by rw [plus_size, hP]; omega)
      · have hgb : Y.get b = some (.cells v 0 3 1 true (s.map intA)) := hH4 _ (List.mem_append_right _ (List.mem_singleton.2 rfl))
        have hbN : b < N := by have := get_ltS hgb; omega
        have hrb : ∀ E, (Y.plus E).row b v = some (0, 3, 1, true, s.map intA) := fun E => by rw [rowLo (by omega)]; exact get_row hgb
        have happ := fun E slot => appTo_own (H := Y.plus E) (slot := slot) (e := 3) (sz := 1) (b' := 8) (n := 1) (new := [.v (.int .i64 els.length)]) (hrb E) (by rw [Nat.mul_one, List.length_map]) (by show Y.lock ≤ _; omega) (by unfold fitsA; exact decide_eq_true (by omega)) (by omega) (by omega)
        have hpl := fun E o => putLo (X := Y) (b := b) (by omega) E o
        have hsto := fun o (w : AV) (hw : w.flat = true) E => storeLoK (X := Y.put b o) (b := 2) (v := 0) (k := 0) (x := w) (by rw [put_sizeI _ (by omega)]; omega) (by show Y.lock ≤ 2; omega) (get_row ((put_get_ne o (by omega) (by omega)).trans (row_of_get h2'))) (Nat.le_refl _) hw E
        have hsto := fun o b' v' l' c' E => hsto o (.sl b' v' 0 l' c') rfl E
        simp -implicitDefEqProofs only [go_sem, ↓reduceIte, Int.reduceEq, Int.reduceLT, Int.reduceLE, List.reduceReplicate, intA, setT_nil, setT_cons, sizeP hN4, putP0 hN4, putP hN4, settleP0 hN4, settleP hN4, rowP0 hN4, rowP hN4, storeP0 hN4 hlkY, storeP hN4 hlkY, hr2, hz.len, hst, List.flatMap_cons, List.flatMap_nil, happ, hpl, hsto]
        rw [show stp58 s [p, z] = (.normal, s ++ [(els.length : Int)]) by unfold stp58; rw [hn]]
        rw [plus_nil X]
        refine ⟨rfl, ?_⟩
        have hmm : b < (if m2 ≤ bound (AV.sl b (v + 1) 0 (s.length + 1) none) then bound (AV.sl b (v + 1) 0 (s.length + 1) none) else m2) := by rw [bound_sl]; split <;> omega
        generalize (if m2 ≤ bound (AV.sl b (v + 1) 0 (s.length + 1) none) then bound (AV.sl b (v + 1) 0 (s.length + 1) none) else m2) = m2' at *
        have hP1 : (Y.put b (.cells (v + 1) 0 3 1 true (s.map intA ++ [.v (.int .i64 els.length)]))).size = N := by rw [put_sizeI _ (by omega)]; exact hN4
        have hP : ((Y.put b (.cells (v + 1) 0 3 1 true (s.map intA ++ [.v (.int .i64 els.length)]))).put 2 (.cells 0 m2' 133 1 false [.sl b (v + 1) 0 (s.length + 1) none])).size = N := by rw [put_sizeI _ (by omega)]; exact hP1
        have hfin := fin58 (W := settleH N (((Y.put b (.cells (v + 1) 0 3 1 true (s.map intA ++ [.v (.int .i64 els.length)]))).put 2 (.cells 0 m2' 133 1 false [.sl b (v + 1) 0 (s.length + 1) none])).plus [])) (s := s) hsm4 hl4 hN hlk hsz hH4 (els.length : Int) b (v + 1) m2' ?_ ?_ ?_ ?_ ?_ hb5 (Or.inr ⟨_, List.mem_singleton.2 rfl, rfl⟩) hmm
        · exact hfin
        · rw [settle_lo (by omega), plus_get _ (by omega)]; exact put_get_eq _ (by omega)
        · rw [settle_lo (by omega), plus_get _ (by omega), put_get_ne _ (by omega) (by omega), put_get_eq _ (by omega), List.map_append]; rfl
        · intro b' hb h2 hbb
          rw [settle_lo (by omega), plus_get _ (by omega), put_get_ne _ (by omega) (by omega), put_get_ne _ (by omega) (by omega)]
        · rw [settle_lock]; exact hlk4
        · exact settle_size' (by rw [plus_size, hP]; omega)
  · exact (run58 _ _ hit (by simp only [List.length_nil]; omega)).1
  · trivial
  · exact ⟨_, 0, [], Or.inl ⟨rfl, rfl, rfl⟩, by rw [List.append_nil]⟩
  · intro q hq
    unfold base58 at hq
    simp only [List.mem_cons, List.not_mem_nil, or_false] at hq
    rcases hq with rfl | rfl | rfl <;> rfl
  · rfl
  · intro m' H' hR hH hd hdead hmv hsz
    rw [(run58 _ _ hit (by simp only [List.length_nil]; omega)).2] at hR ⊢
    obtain ⟨lv, m2, rows, hl, rfl⟩ := hR
    have hlk : H'.lock = 0 := hmv.lock
    have hsz : 5 ≤ H'.size := hsz
    have hd : H'.get 3 = some .dfr := hd
    simp only [List.nil_append, chapIts_lens] at hl
    have hr2 : H'.row 2 0 = some (m2, 133, 1, false, [lv]) := get_row (hH (2, _) (List.mem_append_left _ (by unfold base58; simp)))
    have hcl : (lensOf ys).length < 2 ^ 63 := by rw [← chapIts_lens 0 ys, List.length_map]; omega
    have hslh : SlH H' ((lensOf ys).map intA) lv := by
      rcases hl with ⟨h0, rfl, -⟩ | ⟨b, v, rfl, hb5, hbm, rfl⟩
      · exact Or.inl (Or.inl ⟨rfl, by rw [h0]; rfl⟩)
      · have hgb : H'.get b = some (.cells v 0 3 1 true ((lensOf ys).map intA)) := hH _ (List.mem_append_right _ (List.mem_singleton.2 rfl))
        exact Or.inr ⟨b, v, none, 0, 3, true, _, by rw [List.length_map], get_size hgb, get_row hgb, List.take_length, Nat.le_refl _⟩
    have hc82 := callP82 he (lensOf ys) lv hslh hcl
    have hkill : killAll [3] H' = some (H'.put 3 .dead) := by
      unfold killAll
      rw [hd]
      show (if H'.lock ≤ 3 then killAll [] (H'.put 3 .dead) else none) = _
      rw [if_pos (by omega)]; rfl
    clear hmv hdead
    simp -implicitDefEqProofs only [go_sem, ↓reduceIte, Int.reduceEq, Int.reduceLT, Int.reduceLE, List.reduceReplicate, intA, setT_nil, setT_cons, hr2, hc82, hkill]
theorem has58 {e : Exts} (he : Quiet e) (t : Txt) (ht : Fits t) (ch : AV) (xs : List AV) (hch : SlOf 2 xs ch) (hall : All2 ChapA t xs) (id : Int) (hid : withinB 0 9999 [id] = true) (rs : List Rd) (x : AV) (hx : RdsA rs x) (hrs : ¬ 20 < (rs.length : Int)) (hrd : ∀ r ∈ rs, RdF r) (hfit : rs.all (fitOne t) = true) (hord : ordB rs = true) (ys : List AV) (o : AV) (ho : SlOf 2 ys o) (hys : ∀ y ∈ ys, OkCh y) (hyl : ys.length < 2 ^ 63) (hit : ∀ z ∈ chapIts 0 ys, Item58 z) (hcnt : (chapIts 0 ys).length < 2 ^ 32) (h55 : Ans (Cx e) 55 [.agg [ch], .agg [intA id, x]] (.agg [o])) : Has58 e ch id x (withinB 1 10 (lensOf ys)) := fun me d H =>
  (ans58 he t ht ch xs hch hall id hid rs x hx hrs hrd hfit hord ys o ho hys hyl hit hcnt h55).call (ext_58 he) (pure_58 _ _ _) (by simp only [boundL_cons, bound_agg, hch.bound, intA, bound_v, SlOf.bound hx, boundL_nil]; rfl) H
end Go.Ev
namespace Go.Ev
open Go.Proofs
set_option maxRecDepth 100000
set_option linter.unusedSimpArgs false
/-! ### a line of a copy, read in either way -/
/-- how readings of one line stand one behind the other -/
def Bhd (a b : Rd) : Prop := a.wd ≤ b.wd ∧ (a.kind ≠ 2 → a.wd < b.wd)
/-- a way to write a copy's line word by word -/
structure Way (ls : Line) (on : Rd → Prop) (W : List Rd → List ByteArray → Nat → List ByteArray) : Prop where
  none : ∀ ds w s, ls[w]? = some s → W [] ds w = ds ++ [s]
  last : ∀ ds, W [] ds ls.length = ds
  skip : ∀ (r : Rd) (l : List Rd) (ds : List ByteArray) (w : Nat), r.wd ≠ (w : Nat) → W (r :: l) ds w = W l ds w
  put : ∀ (r : Rd) (l : List Rd) (ds : List ByteArray) (w : Nat), on r → r.wd = (w : Nat) → r.kind = 2 → W (r :: l) ds w = W l (ds ++ [r.word]) w
  other : ∀ (r : Rd) (l : List Rd) (ds : List ByteArray) (w : Nat), on r → r.wd = (w : Nat) → r.kind ≠ 2 → w < ls.length → (∀ q ∈ l, q.wd ≠ (w : Nat)) → W (r :: l) ds w = ds ++ if r.word = emp then [] else [r.word]
theorem Way.far {ls : Line} {on : Rd → Prop} {W : List Rd → List ByteArray → Nat → List ByteArray} (hW : Way ls on W) (ds : List ByteArray) (w : Nat) : ∀ l : List Rd, (∀ r ∈ l, r.wd ≠ (w : Nat)) → W l ds w = W [] ds w
  | [], _ => rfl
  | r :: l, h => by rw [hW.skip r l ds w (h r (List.mem_cons_self ..)), hW.far ds w l fun q hq => h q (List.mem_cons_of_mem _ hq)]
theorem drop_take_succ (ls : Line) (p n : Nat) (s : ByteArray) (h : ls[p]? = some s) : (ls.drop p).take (n + 1) = s :: (ls.drop (p + 1)).take n := by
  obtain ⟨hp, rfl⟩ := List.getElem?_eq_some_iff.1 h
  rw [List.drop_eq_getElem_cons hp, List.take_succ_cons]
theorem Way.free {ls : Line} {on : Rd → Prop} {W : List Rd → List ByteArray → Nat → List ByteArray} (hW : Way ls on W) (l : List Rd) : ∀ (n p : Nat) (ds : List ByteArray), p + n ≤ ls.length → (∀ r ∈ l, ((p + n : Nat) : Int) ≤ r.wd) → (List.range' p n).foldl (W l) ds = ds ++ (ls.drop p).take n
  | 0, p, ds, _, _ => by simp
  | n + 1, p, ds, h1, h2 => by
    obtain ⟨s, hs⟩ := at_lt ls p (by omega)
    rw [List.range'_succ, List.foldl_cons, hW.far ds p l (fun r hr => by have := h2 r hr; omega), hW.none ds p s hs, hW.free l n (p + 1) (ds ++ [s]) (by omega) (fun r hr => by have := h2 r hr; omega), drop_take_succ ls p n s hs, List.append_assoc]
    rfl
theorem foldl_eq {α β : Type} {f g : α → β → α} : ∀ (l : List β) (a : α), (∀ b ∈ l, ∀ a, f a b = g a b) → l.foldl f a = l.foldl g a
  | [], _, _ => rfl
  | b :: l, a, h => by rw [List.foldl_cons, List.foldl_cons, h b (List.mem_cons_self ..) a, foldl_eq l _ fun c hc => h c (List.mem_cons_of_mem _ hc)]
theorem range'_split (p q n : Nat) (h1 : p ≤ q) (h2 : q ≤ n) : List.range' p (n - p) = List.range' p (q - p) ++ List.range' q (n - q) := by
  have h := List.range'_append (s := p) (m := q - p) (n := n - q) (step := 1)
  rw [Nat.one_mul, show p + (q - p) = q by omega, show q - p + (n - q) = n - p by omega] at h
  exact h.symm
/-- the word is what the kind says -/
structure RdW (ls : Line) (r : Rd) : Prop where
  kind : r.kind = 1 ∨ r.kind = 2 ∨ r.kind = 3
  word : r.kind = 1 ↔ r.word = emp
  hi : r.wd + (if r.kind = 2 then 0 else 1) ≤ ls.length
theorem way_read {ls : Line} {on : Rd → Prop} {W : List Rd → List ByteArray → Nat → List ByteArray} (hW : Way ls on W) : ∀ (l : List Rd) (p : Nat) (ds : List ByteArray), p ≤ ls.length → (∀ r ∈ l, on r ∧ RdW ls r ∧ (p : Int) ≤ r.wd) → l.Pairwise Bhd →
    (List.range' p (ls.length + 1 - p)).foldl (W l) ds = (l.foldl (rdOne ls) (p, ds)).2 ++ ls.drop (l.foldl (rdOne ls) (p, ds)).1
  | [], p, ds, hp, _, _ => by
    rw [range'_split p ls.length (ls.length + 1) hp (Nat.le_succ _), List.foldl_append, hW.free [] (ls.length - p) p ds (by omega) (fun r hr => nomatch hr), Nat.add_sub_cancel_left]
    show W [] _ ls.length = _
    rw [hW.last]
    show _ = ds ++ ls.drop p
    rw [List.take_of_length_le (by rw [List.length_drop]; exact Nat.le_refl _)]
  | r :: l, p, ds, hp, hr, hs => by
    obtain ⟨hon, hrw, hpw⟩ := hr r (List.mem_cons_self ..)
    obtain ⟨hb, hs'⟩ := List.pairwise_cons.1 hs
    obtain ⟨q, hq⟩ : ∃ q : Nat, r.wd = q := ⟨r.wd.toNat, by omega⟩
    have hhi := hrw.hi
    have hql : q ≤ ls.length := by split at hhi <;> omega
    have hqt : r.wd.toNat = q := by omega
    have hall : ∀ x ∈ r :: l, (q : Int) ≤ x.wd := fun x hx => by
      rcases List.mem_cons.1 hx with rfl | hx
      · omega
      · have := (hb x hx).1; omega
    have hf := hW.free (r :: l) (q - p) p ds (by omega) (fun x hx => by have := hall x hx; omega)
    rw [range'_split p q (ls.length + 1) (by omega) (by omega), List.foldl_append, hf]
    have hrest : ∀ (a : List ByteArray) (n : Nat), (List.range' (q + 1) n).foldl (W (r :: l)) a = (List.range' (q + 1) n).foldl (W l) a := fun a n =>
      foldl_eq _ a fun w hw a => hW.skip r l a w (by have := (List.mem_range'_1.1 hw).1; omega)
    by_cases hk : r.kind = 2
    · have hd : (r :: l).foldl (rdOne ls) (p, ds) = l.foldl (rdOne ls) (q, ds ++ (ls.drop p).take (q - p) ++ [r.word]) := by
        rw [List.foldl_cons]; unfold rdOne
        simp only [hk, hqt, if_true]
        rw [if_neg (by omega)]
      rw [hd, ← way_read hW l q _ hql (fun x hx => ⟨(hr x (List.mem_cons_of_mem _ hx)).1, (hr x (List.mem_cons_of_mem _ hx)).2.1, hall x (List.mem_cons_of_mem _ hx)⟩) hs']
      rw [show ls.length + 1 - q = (ls.length - q) + 1 by omega, List.range'_succ, List.foldl_cons, List.foldl_cons, hW.put r l _ q hon hq hk, hrest]
    · have hlt : q < ls.length := by rw [if_neg hk] at hhi; omega
      have hne : ∀ x ∈ l, x.wd ≠ (q : Nat) := fun x hx => by have := (hb x hx).2 hk; omega
      have hw : (if r.kind = 1 then ([] : List ByteArray) else [r.word]) = if r.word = emp then [] else [r.word] := by
        by_cases h1 : r.kind = 1
        · rw [if_pos h1, if_pos (hrw.word.1 h1)]
        · rw [if_neg h1, if_neg (fun h => h1 (hrw.word.2 h))]
      have hd : (r :: l).foldl (rdOne ls) (p, ds) = l.foldl (rdOne ls) (q + 1, ds ++ (ls.drop p).take (q - p) ++ if r.word = emp then [] else [r.word]) := by
        rw [List.foldl_cons]; unfold rdOne
        simp only [hk, hqt, if_false, hw]
      rw [hd, ← way_read hW l (q + 1) _ hlt (fun x hx => ⟨(hr x (List.mem_cons_of_mem _ hx)).1, (hr x (List.mem_cons_of_mem _ hx)).2.1, by have := (hb x hx).2 hk; omega⟩) hs']
      rw [show ls.length + 1 - q = (ls.length + 1 - (q + 1)) + 1 by omega, List.range'_succ, List.foldl_cons, hW.other r l _ q hon hq hk hlt hne, hrest]
theorem way_line {ls : Line} {on : Rd → Prop} {W : List Rd → List ByteArray → Nat → List ByteArray} (hW : Way ls on W) (l : List Rd) (hr : ∀ r ∈ l, on r ∧ RdW ls r ∧ 0 ≤ r.wd) (hs : l.Pairwise Bhd) : (List.range (ls.length + 1)).foldl (W l) [] = readLineL ls l := by
  rw [List.range_eq_range']
  exact way_read hW l 0 [] (Nat.zero_le _) hr hs
/-- readings of a line, one behind the other, are read -/
theorem rdsOk_of {ls : Line} : ∀ (l : List Rd) (p : Nat), (∀ r ∈ l, RdW ls r ∧ (p : Int) ≤ r.wd) → l.Pairwise Bhd → RdsOk ls p l
  | [], _, _, _ => trivial
  | r :: l, p, hr, hs => by
    obtain ⟨hrw, hpw⟩ := hr r (List.mem_cons_self ..)
    obtain ⟨hb, hs'⟩ := List.pairwise_cons.1 hs
    refine ⟨⟨hpw, hrw.kind, hrw.hi⟩, rdsOk_of l _ (fun x hx => ⟨(hr x (List.mem_cons_of_mem _ hx)).1, ?_⟩) hs'⟩
    have h := hb x hx
    have h0 : 0 ≤ r.wd := by omega
    by_cases hk : r.kind = 2
    · rw [if_pos hk]; have := h.1; omega
    · rw [if_neg hk]; have := h.2 hk; omega
/-! ### the reference's way -/
theorem refI_far (k n : Int) (w : Nat) (l : List Rd) (h : ∀ q ∈ l, q.wd ≠ (w : Nat)) (s : List ByteArray × ByteArray) : l.foldl (refI k n w) s = s := by
  induction l generalizing s with
  | nil => rfl
  | cons r l ih =>
    have : refI k n w s r = s := by unfold refI; rw [if_neg (fun hh => h r (List.mem_cons_self ..) hh.2.2)]
    rw [List.foldl_cons, this, ih fun q hq => h q (List.mem_cons_of_mem _ hq)]
theorem way_ref (ls : Line) (hne : ∀ s ∈ ls, s ≠ emp) (k n : Int) : Way ls (fun r => r.ch = k ∧ r.ln = n) (fun l => refW ls l k n) := by
  refine ⟨fun ds w s hs => ?_, fun ds => ?_, fun r l ds w h => ?_, fun r l ds w ho h hk => ?_, fun r l ds w ho h hk hw hf => ?_⟩
  · unfold refW
    simp only [List.foldl_nil, hs, Option.getD_some]
    rw [if_neg (hne s (List.mem_of_getElem? hs))]
  · unfold refW
    simp only [List.foldl_nil, List.getElem?_eq_none_iff.2 (Nat.le_refl _), Option.getD_none, if_true]
  · unfold refW
    rw [List.foldl_cons, show refI k n w (ds, (ls[w]?).getD emp) r = (ds, (ls[w]?).getD emp) by unfold refI; rw [if_neg (fun hh => h hh.2.2)]]
  · unfold refW
    rw [List.foldl_cons, show refI k n w (ds, (ls[w]?).getD emp) r = (ds ++ [r.word], (ls[w]?).getD emp) by unfold refI; rw [if_pos ⟨ho.1, ho.2, h⟩, if_pos hk]]
  · unfold refW
    rw [List.foldl_cons, show refI k n w (ds, (ls[w]?).getD emp) r = (ds, r.word) by unfold refI; rw [if_pos ⟨ho.1, ho.2, h⟩, if_neg hk], refI_far k n w l hf]
    simp only
    split
    · rw [List.append_nil]
    · rfl
theorem atLine_iff {k n : Int} {r : Rd} : atLine k n 0 r = true ↔ r.ch = k ∧ r.ln = n := by
  unfold atLine eqP; simp
theorem refW_filter (ls : Line) (rs : List Rd) (k n : Int) (ds : List ByteArray) (w : Nat) : refW ls rs k n ds w = refW ls (rs.filter (atLine k n 0)) k n ds w := by
  have h : ∀ (l : List Rd) (s : List ByteArray × ByteArray), l.foldl (refI k n w) s = (l.filter (atLine k n 0)).foldl (refI k n w) s := by
    intro l
    induction l with
    | nil => intro s; rfl
    | cons r l ih =>
      intro s
      cases ha : atLine k n 0 r
      · have : refI k n w s r = s := by unfold refI; rw [if_neg (fun hh => by rw [atLine_iff.2 ⟨hh.1, hh.2.1⟩] at ha; cases ha)]
        rw [List.foldl_cons, this, ih, List.filter_cons_of_neg (by rw [ha]; simp)]
      · rw [List.filter_cons_of_pos ha, List.foldl_cons, List.foldl_cons, ih]
  unfold refW; rw [h rs]
/-! ### the law's way -/
def putAt (k n w : Int) (r : Rd) : Bool := decide (r.kind = 2) && eqP r.ch r.ln r.wd k n w
def lawW (ls : Line) (rs : List Rd) (k n : Int) (ds : List ByteArray) (w : Nat) : List ByteArray :=
  let d := ds ++ (rs.filter (putAt k n w)).map Rd.word
  match ls[w]? with
  | none => d
  | some s => if standL rs k n w s = emp then d else d ++ [standL rs k n w s]
theorem eqP_wd {r : Rd} {k n : Int} {w : Nat} (h : r.wd ≠ (w : Nat)) : eqP r.ch r.ln r.wd k n w = false := by
  unfold eqP; simp; intro _ _ h2; exact h h2
theorem eqP_on {r : Rd} {k n : Int} {w : Nat} (h : r.ch = k ∧ r.ln = n) (hw : r.wd = (w : Nat)) : eqP r.ch r.ln r.wd k n w = true := by
  unfold eqP; simp [h.1, h.2, hw]
theorem stand_cons_no {r : Rd} {l : List Rd} {k n w : Int} {s : ByteArray} (h : takesB k n w r = false) : standL (r :: l) k n w s = standL l k n w s := by unfold standL; rw [List.find?_cons, h]
theorem stand_cons_yes {r : Rd} {l : List Rd} {k n w : Int} {s : ByteArray} (h : takesB k n w r = true) : standL (r :: l) k n w s = r.word := by unfold standL; rw [List.find?_cons, h]
theorem way_law (ls : Line) (hne : ∀ s ∈ ls, s ≠ emp) (k n : Int) : Way ls (fun r => r.ch = k ∧ r.ln = n) (fun l => lawW ls l k n) := by
  refine ⟨fun ds w s hs => ?_, fun ds => ?_, fun r l ds w h => ?_, fun r l ds w ho h hk => ?_, fun r l ds w ho h hk hw hf => ?_⟩
  · unfold lawW
    have h0 : standL [] k n w s = s := rfl
    simp only [hs, List.filter_nil, List.map_nil, List.append_nil, h0]
    rw [if_neg (hne s (List.mem_of_getElem? hs))]
  · unfold lawW
    simp only [List.getElem?_eq_none_iff.2 (Nat.le_refl _), List.filter_nil, List.map_nil, List.append_nil]
  · have h1 : putAt k n w r = false := by unfold putAt; rw [eqP_wd h, Bool.and_false]
    have h2 : takesB k n w r = false := by unfold takesB; rw [eqP_wd h]; rfl
    unfold lawW
    rw [List.filter_cons_of_neg (by rw [h1]; simp)]
    simp only [stand_cons_no h2]
  · have h1 : putAt k n w r = true := by unfold putAt; rw [eqP_on ho h, Bool.and_true]; exact decide_eq_true hk
    have h2 : takesB k n w r = false := by unfold takesB; rw [decide_eq_true hk, Bool.not_true, Bool.and_false]
    unfold lawW
    rw [List.filter_cons_of_pos h1]
    simp only [stand_cons_no h2, List.map_cons, List.append_assoc, List.singleton_append]
  · have h1 : putAt k n w r = false := by unfold putAt; rw [decide_eq_false hk]; rfl
    have h2 : takesB k n w r = true := by unfold takesB; rw [eqP_on ho h, decide_eq_false hk]; rfl
    have h3 : l.filter (putAt k n w) = [] := List.filter_eq_nil_iff.2 fun q hq => by unfold putAt; rw [eqP_wd (hf q hq), Bool.and_false]; simp
    obtain ⟨s, hs⟩ := at_lt ls w hw
    unfold lawW
    rw [List.filter_cons_of_neg (by rw [h1]; simp), h3]
    simp only [hs, stand_cons_yes h2, List.map_nil, List.append_nil]
    split
    · rw [List.append_nil]
    · rfl
theorem lawW_filter (ls : Line) (rs : List Rd) (k n : Int) (ds : List ByteArray) (w : Nat) : lawW ls rs k n ds w = lawW ls (rs.filter (atLine k n 0)) k n ds w := by
  have ha : ∀ r : Rd, eqP r.ch r.ln r.wd k n w = true → atLine k n 0 r = true := fun r h => by
    unfold eqP at h; simp at h; exact atLine_iff.2 ⟨h.1, h.2.1⟩
  have h1 : rs.filter (putAt k n w) = (rs.filter (atLine k n 0)).filter (putAt k n w) := by
    rw [List.filter_filter]
    refine List.filter_congr fun r _ => ?_
    cases hp : putAt k n w r
    · rfl
    · have : eqP r.ch r.ln r.wd k n w = true := by unfold putAt at hp; simp only [Bool.and_eq_true] at hp; exact hp.2
      rw [ha r this]; rfl
  have h2 : ∀ s, standL rs k n w s = standL (rs.filter (atLine k n 0)) k n w s := fun s => by
    induction rs with
    | nil => rfl
    | cons r l ih =>
      cases hl : atLine k n 0 r
      · have ht : takesB k n w r = false := by
          cases ht : takesB k n w r
          · rfl
          · unfold takesB at ht; simp only [Bool.and_eq_true] at ht; rw [ha r ht.1] at hl; cases hl
        rw [stand_cons_no ht, List.filter_cons_of_neg (by rw [hl]; simp)]
        exact ih (by rw [List.filter_filter]; refine List.filter_congr fun r _ => ?_; cases hp : putAt k n w r
                     · rfl
                     · have : eqP r.ch r.ln r.wd k n w = true := by unfold putAt at hp; simp only [Bool.and_eq_true] at hp; exact hp.2
                       rw [ha r this]; rfl)
      · rw [List.filter_cons_of_pos hl]
        unfold standL
        rw [List.find?_cons, List.find?_cons]
        cases ht : takesB k n w r
        · exact ih (by rw [List.filter_filter]; refine List.filter_congr fun r _ => ?_; cases hp : putAt k n w r
                       · rfl
                       · have : eqP r.ch r.ln r.wd k n w = true := by unfold putAt at hp; simp only [Bool.and_eq_true] at hp; exact hp.2
                         rw [ha r this]; rfl)
        · rfl
  unfold lawW; rw [← h1]; simp only [← h2]
end Go.Ev
namespace Go.Ev
open Go.Proofs
set_option maxRecDepth 100000
set_option linter.unusedSimpArgs false
/-! ### readings in order -/
def Ahd (a b : Rd) : Prop := a.ch < b.ch ∨ (a.ch = b.ch ∧ (a.ln < b.ln ∨ (a.ln = b.ln ∧ a.wd ≤ b.wd ∧ (a.kind ≠ 2 → a.wd < b.wd))))
theorem Ahd.trans {a b c : Rd} (h1 : Ahd a b) (h2 : Ahd b c) : Ahd a c := by
  unfold Ahd at *; omega
theorem pairR_ahd {a b : Rd} (h : pairR a b = true) : Ahd a b := by
  unfold pairR beforeB eqP at h
  unfold Ahd
  simp only [Bool.not_eq_true', Bool.or_eq_false_iff, Bool.and_eq_false_iff, Bool.not_eq_false', decide_eq_false_iff_not, decide_eq_true_eq, ne_eq] at h
  obtain ⟨h1, h2⟩ := h
  split at h1
  · simp only [decide_eq_false_iff_not] at h1; omega
  · split at h1
    · simp only [decide_eq_false_iff_not] at h1; omega
    · simp only [decide_eq_false_iff_not] at h1; omega
theorem cmpI_pos (a b : Int) : 0 < cmpI a b ↔ b < a := by unfold cmpI; split <;> (try split) <;> omega
theorem cmpI_zero (a b : Int) : cmpI a b = 0 ↔ a = b := by unfold cmpI; split <;> (try split) <;> omega
theorem cmpP_pos (a b c a' b' c' : Int) : 0 < cmpP a b c a' b' c' ↔ a' < a ∨ (a = a' ∧ (b' < b ∨ (b = b' ∧ c' < c))) := by
  unfold cmpP
  simp only [orI]
  have h1 := cmpI_pos a a'; have h2 := cmpI_pos b b'; have h3 := cmpI_pos c c'
  have e1 := cmpI_zero a a'; have e2 := cmpI_zero b b'; have e3 := cmpI_zero c c'
  split
  · split
    · split <;> omega
    · omega
  · omega
theorem ahd_pairB {a b : Rd} (h : Ahd a b) : pairB a b = true := by
  unfold Ahd at h
  have hc : ¬ 0 < cmpP a.ch a.ln a.wd b.ch b.ln b.wd := by rw [cmpP_pos]; omega
  have he : (eqP a.ch a.ln a.wd b.ch b.ln b.wd && !decide (a.kind = 2)) = false := by
    unfold eqP
    simp only [Bool.and_eq_false_iff, Bool.not_eq_false', decide_eq_false_iff_not, decide_eq_true_eq]
    omega
  unfold pairB
  rw [he, decide_eq_false hc]; rfl
theorem rdsB_all (t : Txt) : ∀ (l : List Rd) (p : Option Rd), rdsB t p l = true → (∀ r ∈ l, readB t r = true) ∧ l.Pairwise Ahd ∧ (∀ q, p = some q → ∀ r ∈ l, Ahd q r)
  | [], _, _ => ⟨(fun r h => nomatch h), List.Pairwise.nil, (fun _ _ r h => nomatch h)⟩
  | r :: l, p, h => by
    unfold rdsB at h
    simp only [Bool.and_eq_true] at h
    obtain ⟨⟨h1, h2⟩, h3⟩ := h
    obtain ⟨i1, i2, i3⟩ := rdsB_all t l (some r) h3
    have i3 := i3 r rfl
    refine ⟨fun x hx => ?_, List.pairwise_cons.2 ⟨i3, i2⟩, fun q hq x hx => ?_⟩
    · rcases List.mem_cons.1 hx with rfl | hx
      · exact h1
      · exact i1 x hx
    · subst hq
      have hr := pairR_ahd h2
      rcases List.mem_cons.1 hx with rfl | hx
      · exact hr
      · exact hr.trans (i3 x hx)
theorem ordB_of : ∀ (l : List Rd), l.Pairwise Ahd → ordB l = true
  | [], _ => rfl
  | [a], _ => rfl
  | a :: b :: r, h => by
    obtain ⟨h1, h2⟩ := List.pairwise_cons.1 h
    show (pairB a b && ordB (b :: r)) = true
    rw [ahd_pairB (h1 b (List.mem_cons_self ..)), ordB_of (b :: r) h2]; rfl
theorem wordB_ne {s : ByteArray} (h : wordB s = true) : s ≠ emp := by
  rintro rfl
  unfold wordB at h
  simp only [Bool.and_eq_true] at h
  have := h.1
  revert this; decide
/-- a copy whose readings fit, in order -/
structure Cpy (t : Txt) (rs : List Rd) : Prop where
  fit : ∀ r ∈ rs, readB t r = true
  ord : rs.Pairwise Ahd
theorem Cpy.of {t : Txt} {rs : List Rd} (h : rdsB t none rs = true) : Cpy t rs := ⟨(rdsB_all t rs none h).1, (rdsB_all t rs none h).2.1⟩
/-- the readings of one line -/
def ofLn (rs : List Rd) (k n : Int) : List Rd := rs.filter (atLine k n 0)
theorem ofLn_mem {rs : List Rd} {k n : Int} {r : Rd} : r ∈ ofLn rs k n ↔ r ∈ rs ∧ r.ch = k ∧ r.ln = n := by
  unfold ofLn; rw [List.mem_filter, atLine_iff]
theorem Cpy.bhd {t : Txt} {rs : List Rd} (h : Cpy t rs) (k n : Int) : (ofLn rs k n).Pairwise Bhd := by
  have h1 : (ofLn rs k n).Pairwise Ahd := h.ord.sublist List.filter_sublist
  refine h1.imp_of_mem fun ha hb hr => ?_
  have h2 := (ofLn_mem.1 ha).2
  have h3 := (ofLn_mem.1 hb).2
  unfold Ahd at hr
  unfold Bhd
  omega
theorem Cpy.rdw {t : Txt} {rs : List Rd} (h : Cpy t rs) {k n : Int} {ls : Line} (hl : lineAt t k n = some ls) {r : Rd} (hr : r ∈ ofLn rs k n) : RdW ls r ∧ 0 ≤ r.wd := by
  obtain ⟨hm, h1, h2⟩ := ofLn_mem.1 hr
  have hf := h.fit r hm
  unfold readB at hf
  rw [h1, h2, hl] at hf
  simp only at hf
  split at hf
  · rename_i hk
    unfold fits1 at hf
    simp only [Bool.and_eq_true, decide_eq_true_eq] at hf
    exact ⟨⟨Or.inl hk, ⟨fun _ => hf.2, fun _ => hk⟩, by rw [if_neg (by omega)]; omega⟩, hf.1.1⟩
  · split at hf
    · rename_i hk1 hk
      unfold fits2 withinB at hf
      simp only [List.all_cons, List.all_nil, Bool.and_true, Bool.and_eq_true, decide_eq_true_eq] at hf
      exact ⟨⟨Or.inr (Or.inl hk), ⟨fun h => absurd h hk1, fun h => absurd h (wordB_ne hf.2)⟩, by rw [if_pos hk]; omega⟩, hf.1.1⟩
    · split at hf
      · rename_i hk1 hk2 hk
        unfold fits3 at hf
        simp only [Bool.and_eq_true, decide_eq_true_eq] at hf
        exact ⟨⟨Or.inr (Or.inr hk), ⟨fun h => absurd h hk1, fun h => absurd h (wordB_ne hf.1.2)⟩, by rw [if_neg hk2]; omega⟩, hf.1.1.1⟩
      · cases hf
theorem Cpy.rdsOk {t : Txt} {rs : List Rd} (h : Cpy t rs) {k n : Int} {ls : Line} (hl : lineAt t k n = some ls) : RdsOk ls 0 (ofLn rs k n) :=
  rdsOk_of _ 0 (fun r hr => ⟨(h.rdw hl hr).1, by have := (h.rdw hl hr).2; omega⟩) (h.bhd k n)
theorem foldl_same {α β : Type} {f g : α → β → α} (h : ∀ a b, f a b = g a b) (l : List β) (a : α) : l.foldl f a = l.foldl g a := foldl_eq l a fun b _ a => h a b
theorem Cpy.line {t : Txt} {rs : List Rd} (h : Cpy t rs) {k n : Int} {ls : Line} (hl : lineAt t k n = some ls) (hne : ∀ s ∈ ls, s ≠ emp) : refLine ls rs k n = readLineL ls (ofLn rs k n) := by
  unfold refLine
  rw [foldl_same (g := refW ls (ofLn rs k n) k n) (fun a b => refW_filter ls rs k n a b)]
  exact way_line (way_ref ls hne k n) (ofLn rs k n) (fun r hr => ⟨(ofLn_mem.1 hr).2, h.rdw hl hr⟩) (h.bhd k n)
theorem Cpy.law {t : Txt} {rs : List Rd} (h : Cpy t rs) {k n : Int} {ls : Line} (hl : lineAt t k n = some ls) (hne : ∀ s ∈ ls, s ≠ emp) : (List.range (ls.length + 1)).foldl (lawW ls rs k n) [] = refLine ls rs k n := by
  rw [h.line hl hne, foldl_same (g := lawW ls (ofLn rs k n) k n) (fun a b => lawW_filter ls rs k n a b)]
  exact way_line (way_law ls hne k n) (ofLn rs k n) (fun r hr => ⟨(ofLn_mem.1 hr).2, h.rdw hl hr⟩) (h.bhd k n)
/-! ### the text of a copy -/
def readT (t : Txt) (rs : List Rd) : Txt := t.mapIdx fun k c => (c.1, c.2.mapIdx fun n l => refLine l rs k n)
theorem readT_get {t : Txt} {rs : List Rd} {k : Nat} {c : Chap} (h : t[k]? = some c) : (readT t rs)[k]? = some (c.1, c.2.mapIdx fun n l => refLine l rs k n) := by
  unfold readT; rw [List.getElem?_mapIdx, h]; rfl
theorem lineAt_nat {t : Txt} {k n : Nat} {c : Chap} {l : Line} (h : t[k]? = some c) (hl : c.2[n]? = some l) : lineAt t k n = some l := by
  unfold lineAt
  rw [if_pos (by omega)]
  simp only [Int.toNat_natCast, h, Option.bind_some, hl]
end Go.Ev
namespace Go.Ev
open Go.Proofs
set_option maxRecDepth 100000
set_option linter.unusedSimpArgs false
attribute [local irreducible] Wp WpS
/-! ### the text of a copy, as read answers it -/
theorem ofV_rds (l : List Rd) : RdsA l (ofV l) := by
  cases l with
  | nil => exact Or.inl ⟨rfl, rfl⟩
  | cons r f => exact Or.inr ⟨none, rfl⟩
theorem lnOf_sl (ls : List AV) : SlOf 1 ls (lnOf ls) := by
  unfold lnOf
  split
  · rename_i h; exact Or.inl ⟨rfl, h⟩
  · exact Or.inr ⟨none, rfl⟩
theorem Small.ne {t : Txt} (hs : Small t) {k n : Int} {ls : Line} (h : lineAt t k n = some ls) : ∀ s ∈ ls, s ≠ emp := fun s hm => by
  obtain ⟨c, hc, hl⟩ := lineAt_mem h
  exact wordB_ne (hs.word c hc ls hl s hm)
set_option maxHeartbeats 1000000 in
theorem readW {e : Exts} (he : Quiet e) (t : Txt) (hs : Small t) (ht : Fits t) (ch : AV) (xs : List AV) (hch : SlOf 2 xs ch) (hall : All2 ChapA t xs) (id : Int) (rs : List Rd) (x : AV) (hx : RdsA rs x) (hrs : rs.length < 2 ^ 32) (hc : Cpy t rs) :
    ∃ ys o, SlOf 2 ys o ∧ All2 ChapA (readT t rs) ys ∧ Ans (Cx e) 55 [.agg [ch], .agg [intA id, x]] (.agg [o]) := by
  have hQ : ∀ i k : Nat, ∃ w : AV, (w.flat = true ∧ w.cells = [w] ∧ bound w = 0) ∧ ∀ y z, xs[i]? = some y → (linesOf y)[k]? = some z → ∃ c l, t[i]? = some c ∧ c.2[k]? = some l ∧ LineA (refLine l rs i k) w ∧ Ans (Cx e) 76 [z, ofV (rs.filter (atLine i k 0))] w := by
    intro i k
    cases hy : xs[i]? with
    | none => exact ⟨.v (.slice none 0 0), ⟨rfl, rfl, rfl⟩, fun y z h => nomatch h⟩
    | some y =>
      cases hz : (linesOf y)[k]? with
      | none => exact ⟨.v (.slice none 0 0), ⟨rfl, rfl, rfl⟩, fun y' z h1 h2 => by cases h1; rw [hz] at h2; cases h2⟩
      | some z =>
        obtain ⟨c, hc1⟩ := at_lt t i (by rw [hall.1]; exact (List.getElem?_eq_some_iff.1 hy).1)
        obtain ⟨y', hy', l, rfl, lxs, hl, hls⟩ := hall.get hc1
        rw [hy] at hy'
        cases hy'
        have hlo : linesOf (.agg [intA c.1, l]) = lxs := hl.elems
        have hz' := hz
        rw [hlo] at hz'
        obtain ⟨ln, hln⟩ := at_lt c.2 k (by rw [hls.1]; exact (List.getElem?_eq_some_iff.1 hz').1)
        have hla : LineA ln z := hls.2 k ln z hln hz'
        have hLA := lineAt_nat hc1 hln
        have hlen := (hs.words c (List.mem_of_getElem? hc1) ln (List.mem_of_getElem? hln)).2
        have hfl : (rs.filter (atLine i k 0)).length < 2 ^ 32 := Nat.lt_of_le_of_lt (List.length_filter_le _ _) hrs
        obtain ⟨w, hw1, hw2⟩ := ans76 he ln (by omega) z hla (rs.filter (atLine i k 0)) (ofV (rs.filter (atLine i k 0))) (ofV_rds _) hfl (hc.rdsOk hLA)
        refine ⟨w, ⟨hw1.flat, hw1.cells, hw1.bound⟩, fun y z' h1 h2 => ?_⟩
        cases h1
        rw [hz] at h2
        cases h2
        refine ⟨c, ln, hc1, hln, ?_, hw2⟩
        show SlOf 1 (strs (refLine ln rs i k)) w
        rw [hc.line hLA (hs.ne hLA)]
        exact hw1
  have hwf := fun i k => Classical.choose_spec (hQ i k)
  generalize hW : (fun i k => Classical.choose (hQ i k)) = wf
  have hwf : ∀ i k : Nat, ((wf i k).flat = true ∧ (wf i k).cells = [wf i k] ∧ bound (wf i k) = 0) ∧ ∀ y z, xs[i]? = some y → (linesOf y)[k]? = some z → ∃ c l, t[i]? = some c ∧ c.2[k]? = some l ∧ LineA (refLine l rs i k) (wf i k) ∧ Ans (Cx e) 76 [z, ofV (rs.filter (atLine i k 0))] (wf i k) := by
    intro i k
    rw [← hW]
    exact hwf i k
  clear hW
  have hx6 := hs.chs
  have hxl := hall.1
  have hok := okCh2_of ht hall
  have hlines : ∀ y ∈ xs, ∃ c l lxs, c ∈ t ∧ y = .agg [intA c.1, l] ∧ linesOf y = lxs ∧ All2 LineA c.2 lxs := fun y hy => by
    obtain ⟨i, hi⟩ := List.getElem?_of_mem hy
    obtain ⟨c, hc1⟩ := at_lt t i (by rw [hall.1]; exact (List.getElem?_eq_some_iff.1 hi).1)
    obtain ⟨l, rfl, lxs, hl, hls⟩ := hall.2 i c y hc1 hi
    exact ⟨c, l, lxs, List.mem_of_getElem? hc1, rfl, hl.elems, hls⟩
  refine ⟨(stAt xs wf xs.length 0).map (fun c : AV × List AV => AV.agg [c.1, lnOf c.2]), .vs 2 _ none, Or.inr ⟨none, rfl⟩, ⟨?_, ?_⟩, ans55x he xs ch hch (fun y hy => (hok y hy).ok) (by omega) (by omega) id rs x hx hrs wf (fun i k y z h1 h2 => ?_) (fun i k => (hwf i k).1) (fun y hy => ?_) (fun y hy z hz => ?_) (by omega)⟩
  · unfold readT stAt
    rw [List.length_mapIdx, List.length_map, List.length_mapIdx, hall.1]
  · intro i c y h1 h2
    rw [List.getElem?_map, stAt_get] at h2
    have hil : i < t.length := by
      have := (List.getElem?_eq_some_iff.1 h1).1
      unfold readT at this; rwa [List.length_mapIdx] at this
    obtain ⟨c0, hc0⟩ := at_lt t i hil
    rw [readT_get hc0] at h1
    cases h1
    obtain ⟨y0, hy0, l, rfl, lxs, hl, hls⟩ := hall.get hc0
    have hlo : linesOf (.agg [intA c0.1, l]) = lxs := hl.elems
    rw [hy0, Option.map_some, Option.map_some, if_pos (by omega), hlo] at h2
    cases h2
    refine ⟨_, rfl, _, lnOf_sl _, ?_, ?_⟩
    · simp only [List.length_mapIdx, List.length_map, List.length_range]; exact hls.1
    · intro k a b h3 h4
      simp only at h3
      rw [List.getElem?_mapIdx] at h3
      rw [List.getElem?_map] at h4
      cases hk : c0.2[k]? with
      | none => rw [hk] at h3; cases h3
      | some ln =>
        rw [hk] at h3
        cases h3
        have hkl : k < lxs.length := by rw [← hls.1]; exact (List.getElem?_eq_some_iff.1 hk).1
        obtain ⟨z, hz⟩ := at_lt lxs k hkl
        rw [List.getElem?_range hkl] at h4
        cases h4
        obtain ⟨c', l', h5, h6, h7, -⟩ := (hwf i k).2 _ z hy0 (by rw [hlo]; exact hz)
        rw [hc0] at h5
        cases h5
        rw [hk] at h6
        cases h6
        exact h7
  · obtain ⟨_, _, -, -, -, h⟩ := (hwf i k).2 y z h1 h2
    exact h
  · obtain ⟨c, l, lxs, hm, -, hlo, hls⟩ := hlines y hy
    rw [hlo, ← hls.1]
    have := (hs.lines c hm).2
    omega
  · obtain ⟨c, l, lxs, hm, -, hlo, hls⟩ := hlines y hy
    rw [hlo] at hz
    obtain ⟨k, hk⟩ := List.getElem?_of_mem hz
    obtain ⟨ln, hln⟩ := at_lt c.2 k (by rw [hls.1]; exact (List.getElem?_eq_some_iff.1 hk).1)
    exact (hls.2 k ln z hln hk : SlOf 1 (strs ln) z).bound
/-! ### the lines of a copy are lines -/
theorem linesN_get (rs : List Rd) (k : Nat) : ∀ (ls : List Line) (n j : Nat) (l : Line), linesN rs k n ls = true → ls[j]? = some l → withinB 1 10 [((refLine l rs k ((n + j : Nat) : Int)).length : Int)] = true
  | [], _, _, _, _, h => by simp at h
  | x :: r, n, j, l, h1, h2 => by
    unfold linesN at h1
    simp only [Bool.and_eq_true] at h1
    cases j with
    | zero => simp at h2; subst h2; exact h1.1
    | succ j =>
      have := linesN_get rs k r (n + 1) j l h1.2 (by simpa using h2)
      rwa [show n + 1 + j = n + (j + 1) by omega] at this
theorem chapsN_get (rs : List Rd) : ∀ (t : Txt) (k i : Nat) (c : Chap), chapsN rs k t = true → t[i]? = some c → linesN rs (k + i) 0 c.2 = true
  | [], _, _, _, _, h => by simp at h
  | x :: r, k, i, c, h1, h2 => by
    unfold chapsN at h1
    simp only [Bool.and_eq_true] at h1
    cases i with
    | zero => simp at h2; subst h2; exact h1.1
    | succ i =>
      have := chapsN_get rs r (k + 1) i c h1.2 (by simpa using h2)
      rwa [show k + 1 + i = k + (i + 1) by omega] at this
/-- whatever a copy's line has is a word of the base's, or of a reading -/
theorem refI_mem (k n w : Int) (s : ByteArray) : ∀ (rs : List Rd) (st : List ByteArray × ByteArray), (s ∈ (rs.foldl (refI k n w) st).1 → s ∈ st.1 ∨ ∃ r ∈ rs, s = r.word) ∧ ((rs.foldl (refI k n w) st).2 = st.2 ∨ ∃ r ∈ rs, (rs.foldl (refI k n w) st).2 = r.word)
  | [], st => ⟨fun h => Or.inl h, Or.inl rfl⟩
  | r :: rs, st => by
    obtain ⟨h1, h2⟩ := refI_mem k n w s rs (refI k n w st r)
    rw [List.foldl_cons]
    have hq : refI k n w st r = st ∨ refI k n w st r = (st.1 ++ [r.word], st.2) ∨ refI k n w st r = (st.1, r.word) := by
      unfold refI; split
      · split
        · exact Or.inr (Or.inl rfl)
        · exact Or.inr (Or.inr rfl)
      · exact Or.inl rfl
    refine ⟨fun h => ?_, ?_⟩
    · rcases h1 h with h3 | ⟨q, hq1, hq2⟩
      · rcases hq with hq | hq | hq
        · rw [hq] at h3; exact Or.inl h3
        · rw [hq] at h3
          rcases List.mem_append.1 h3 with h3 | h3
          · exact Or.inl h3
          · exact Or.inr ⟨r, List.mem_cons_self .., List.mem_singleton.1 h3⟩
        · rw [hq] at h3; exact Or.inl h3
      · exact Or.inr ⟨q, List.mem_cons_of_mem _ hq1, hq2⟩
    · rcases h2 with h3 | ⟨q, hq1, hq2⟩
      · rcases hq with hq | hq | hq
        · rw [hq] at h3 ⊢; exact Or.inl h3
        · rw [hq] at h3 ⊢; exact Or.inl h3
        · rw [hq] at h3 ⊢; exact Or.inr ⟨r, List.mem_cons_self .., h3⟩
      · exact Or.inr ⟨q, List.mem_cons_of_mem _ hq1, hq2⟩
theorem refW_mem (l : Line) (rs : List Rd) (k n : Int) (s : ByteArray) (ds : List ByteArray) (w : Nat) (h : s ∈ refW l rs k n ds w) : s ∈ ds ∨ s ∈ l ∨ ∃ r ∈ rs, s = r.word := by
  obtain ⟨h1, h2⟩ := refI_mem k n w s rs (ds, (l[w]?).getD emp)
  unfold refW at h
  simp only at h
  split at h
  · rcases h1 h with h | h
    · exact Or.inl h
    · exact Or.inr (Or.inr h)
  · rename_i hne
    rcases List.mem_append.1 h with h | h
    · rcases h1 h with h | h
      · exact Or.inl h
      · exact Or.inr (Or.inr h)
    · have hs := List.mem_singleton.1 h
      rcases h2 with h3 | ⟨r, hr, h3⟩
      · rw [h3] at hs hne
        simp only at hs hne
        cases hw : l[w]? with
        | none => rw [hw] at hne; exact absurd rfl hne
        | some y => rw [hw] at hs; exact Or.inr (Or.inl (hs ▸ List.mem_of_getElem? hw))
      · exact Or.inr (Or.inr ⟨r, hr, hs.trans h3⟩)
theorem refLine_mem (l : Line) (rs : List Rd) (k n : Int) (s : ByteArray) : ∀ w : Nat, s ∈ (List.range w).foldl (refW l rs k n) [] → s ∈ l ∨ ∃ r ∈ rs, s = r.word
  | 0, h => by simp at h
  | w + 1, h => by
    rw [List.range_succ, List.foldl_append] at h
    rcases refW_mem l rs k n s _ w h with h | h
    · exact refLine_mem l rs k n s w h
    · exact h
theorem readT_mem {t : Txt} {rs : List Rd} {c : Chap} {l : Line} (hc : c ∈ readT t rs) (hl : l ∈ c.2) : ∃ (k n : Nat) (d : Chap) (ln : Line), t[k]? = some d ∧ d.2[n]? = some ln ∧ l = refLine ln rs k n ∧ c.2.length = d.2.length := by
  obtain ⟨k, hk⟩ := List.getElem?_of_mem hc
  have hil : k < t.length := by
    have := (List.getElem?_eq_some_iff.1 hk).1
    unfold readT at this; rwa [List.length_mapIdx] at this
  obtain ⟨d, hd⟩ := at_lt t k hil
  rw [readT_get hd] at hk
  cases hk
  obtain ⟨n, hn⟩ := List.getElem?_of_mem hl
  simp only at hn
  rw [List.getElem?_mapIdx] at hn
  cases hk : d.2[n]? with
  | none => rw [hk] at hn; cases hn
  | some ln => rw [hk] at hn; cases hn; exact ⟨k, n, d, ln, hd, hk, rfl, by simp⟩
theorem readT_chap {t : Txt} {rs : List Rd} {c : Chap} (hc : c ∈ readT t rs) : ∃ d ∈ t, c.1 = d.1 ∧ c.2.length = d.2.length := by
  obtain ⟨k, hk⟩ := List.getElem?_of_mem hc
  have hil : k < t.length := by
    have := (List.getElem?_eq_some_iff.1 hk).1
    unfold readT at this; rwa [List.length_mapIdx] at this
  obtain ⟨d, hd⟩ := at_lt t k hil
  rw [readT_get hd] at hk
  cases hk
  exact ⟨d, List.mem_of_getElem? hd, rfl, by simp⟩
theorem rdOnes_mem {ls : Line} {s : ByteArray} : ∀ (l : List Rd) (st : Nat × List ByteArray), s ∈ (l.foldl (rdOne ls) st).2 → s ∈ st.2 ∨ s ∈ ls ∨ ∃ r ∈ l, r.kind ≠ 1 ∧ s = r.word
  | [], st, h => Or.inl h
  | r :: l, st, h => by
    rw [List.foldl_cons] at h
    rcases rdOnes_mem l _ h with h | h | ⟨q, hq, h⟩
    · unfold rdOne at h
      simp only at h
      rcases List.mem_append.1 h with h | h
      · rcases List.mem_append.1 h with h | h
        · exact Or.inl h
        · exact Or.inr (Or.inl (List.mem_of_mem_drop (List.mem_of_mem_take h)))
      · split at h
        · exact nomatch h
        · rename_i hk
          exact Or.inr (Or.inr ⟨r, List.mem_cons_self .., hk, List.mem_singleton.1 h⟩)
    · exact Or.inr (Or.inl h)
    · exact Or.inr (Or.inr ⟨q, List.mem_cons_of_mem _ hq, h⟩)
theorem readLineL_mem {ls : Line} {l : List Rd} {s : ByteArray} (h : s ∈ readLineL ls l) : s ∈ ls ∨ ∃ r ∈ l, r.kind ≠ 1 ∧ s = r.word := by
  unfold readLineL at h
  rcases List.mem_append.1 h with h | h
  · rcases rdOnes_mem l _ h with h | h | h
    · exact nomatch h
    · exact Or.inl h
    · exact Or.inr h
  · exact Or.inl (List.mem_of_mem_drop h)
theorem Cpy.wordB {t : Txt} {rs : List Rd} (h : Cpy t rs) {r : Rd} (hr : r ∈ rs) (hk : r.kind ≠ 1) : wordB r.word = true := by
  have hf := h.fit r hr
  unfold readB at hf
  split at hf
  · cases hf
  · rw [if_neg hk] at hf
    split at hf
    · unfold fits2 at hf; simp only [Bool.and_eq_true] at hf; exact hf.2
    · split at hf
      · unfold fits3 at hf; simp only [Bool.and_eq_true] at hf; exact hf.1.2
      · cases hf
/-- what the reference's Copy says of a copy -/
structure Right (t : Txt) (id : Int) (rs : List Rd) : Prop where
  id : withinB 0 9999 [id] = true
  len : ¬ 20 < (rs.length : Int)
  cpy : Cpy t rs
  lines : ∀ (k n : Nat) (c : Chap) (l : Line), t[k]? = some c → c.2[n]? = some l → 1 ≤ (refLine l rs k n).length ∧ (refLine l rs k n).length ≤ 10
theorem Right.of {t : Txt} {id : Int} {rs : List Rd} (h : copyB t id rs = true) : Right t id rs := by
  unfold copyB at h
  simp only [Bool.and_eq_true, Bool.not_eq_true', decide_eq_false_iff_not] at h
  obtain ⟨⟨h1, h2⟩, h3, h4⟩ := h
  refine ⟨h1, h2, Cpy.of h3, fun k n c l hc hl => ?_⟩
  have := linesN_get rs (0 + k) c.2 0 n l (chapsN_get rs t 0 k c h4 hc) hl
  rw [Nat.zero_add, Nat.zero_add] at this
  unfold withinB at this
  simp only [List.all_cons, List.all_nil, Bool.and_true, Bool.and_eq_true, decide_eq_true_eq] at this
  omega
theorem Right.small {t : Txt} {id : Int} {rs : List Rd} (h : Right t id rs) (hs : Small t) : Small (readT t rs) := by
  refine ⟨?_, fun c hc => ?_, fun c hc l hl => ?_, fun c hc l hl s hm => ?_⟩
  · unfold readT; rw [List.length_mapIdx]; exact hs.chs
  · obtain ⟨d, hd, -, h2⟩ := readT_chap hc
    rw [h2]; exact hs.lines d hd
  · obtain ⟨k, n, d, ln, h1, h2, rfl, -⟩ := readT_mem hc hl
    exact h.lines k n d ln h1 h2
  · obtain ⟨k, n, d, ln, h1, h2, rfl, -⟩ := readT_mem hc hl
    have hLA := lineAt_nat h1 h2
    rw [h.cpy.line hLA (hs.ne hLA)] at hm
    rcases readLineL_mem hm with hm | ⟨r, hr, hk, rfl⟩
    · exact hs.word d (List.mem_of_getElem? h1) ln (List.mem_of_getElem? h2) s hm
    · exact h.cpy.wordB ((ofLn_mem.1 hr).1) hk
theorem Right.fits {t : Txt} {id : Int} {rs : List Rd} (h : Right t id rs) (ht : Fits t) (hr : ∀ r ∈ rs, RdF r) : Fits (readT t rs) := by
  refine ⟨?_, fun c hc => ?_, fun c hc l hl => ?_, fun c hc l hl s hm => ?_⟩
  · unfold readT; rw [List.length_mapIdx]; exact ht.chs
  · obtain ⟨d, hd, -, h2⟩ := readT_chap hc
    rw [h2]; exact ht.lines d hd
  · obtain ⟨k, n, d, ln, h1, h2, rfl, -⟩ := readT_mem hc hl
    have := (h.lines k n d ln h1 h2).2
    omega
  · obtain ⟨k, n, d, ln, h1, h2, rfl, -⟩ := readT_mem hc hl
    rcases refLine_mem ln rs k n s _ hm with h | ⟨r, h3, rfl⟩
    · exact ht.size d (List.mem_of_getElem? h1) ln (List.mem_of_getElem? h2) s h
    · exact (hr r h3).word
end Go.Ev
namespace Go.Ev
open Go.Proofs
set_option maxRecDepth 100000
set_option linter.unusedSimpArgs false
attribute [local irreducible] Wp WpS
/-! ### a copy that is right, by both -/
theorem lensOf_mem {t : Txt} {ys : List AV} (h : All2 ChapA t ys) {n : Int} (hn : n ∈ lensOf ys) : ∃ c ∈ t, ∃ l ∈ c.2, n = (l.length : Int) := by
  unfold lensOf at hn
  obtain ⟨y, hy, hz⟩ := List.mem_flatMap.1 hn
  obtain ⟨z, hzm, rfl⟩ := List.mem_map.1 hz
  obtain ⟨i, hi⟩ := List.getElem?_of_mem hy
  obtain ⟨c, hc⟩ := at_lt t i (by rw [h.1]; exact (List.getElem?_eq_some_iff.1 hi).1)
  obtain ⟨l, rfl, lxs, hl, hls⟩ := h.2 i c y hc hi
  have hlo : linesOf (.agg [intA c.1, l]) = lxs := hl.elems
  rw [hlo] at hzm
  obtain ⟨k, hk⟩ := List.getElem?_of_mem hzm
  obtain ⟨ln, hln⟩ := at_lt c.2 k (by rw [hls.1]; exact (List.getElem?_eq_some_iff.1 hk).1)
  have hla : SlOf 1 (strs ln) z := hls.2 k ln z hln hk
  exact ⟨c, List.mem_of_getElem? hc, ln, List.mem_of_getElem? hln, by rw [hla.elems, strs_len]⟩
theorem lensOf_len : ∀ (ys : List AV), (∀ y ∈ ys, (linesOf y).length ≤ 10) → (lensOf ys).length ≤ 10 * ys.length
  | [], _ => Nat.le_refl _
  | y :: r, h => by
    have ih := lensOf_len r fun z hz => h z (List.mem_cons_of_mem _ hz)
    have h1 := h y (List.mem_cons_self ..)
    unfold lensOf at ih ⊢
    rw [List.flatMap_cons, List.length_append, List.length_map, List.length_cons]; omega
theorem linesOf_len {t : Txt} {ys : List AV} (h : All2 ChapA t ys) (hs : Small t) : ∀ y ∈ ys, (linesOf y).length ≤ 10 := fun y hy => by
  obtain ⟨i, hi⟩ := List.getElem?_of_mem hy
  obtain ⟨c, hc⟩ := at_lt t i (by rw [h.1]; exact (List.getElem?_eq_some_iff.1 hi).1)
  obtain ⟨l, rfl, lxs, hl, hls⟩ := h.2 i c y hc hi
  have hlo : linesOf (.agg [intA c.1, l]) = lxs := hl.elems
  rw [hlo, ← hls.1]; exact (hs.lines c (List.mem_of_getElem? hc)).2
theorem item58_of {t : Txt} {ys : List AV} (h : All2 ChapA t ys) : ∀ z ∈ chapIts 0 ys, Item58 z := fun z hz => by
  obtain ⟨i, y, j, w, hi, hj, rfl⟩ := chapIts_of ys 0 z hz
  obtain ⟨c, hc⟩ := at_lt t i (by rw [h.1]; exact (List.getElem?_eq_some_iff.1 hi).1)
  obtain ⟨l, rfl, lxs, hl, hls⟩ := h.2 i c y hc hi
  have hlo : linesOf (.agg [intA c.1, l]) = lxs := hl.elems
  rw [hlo] at hj
  obtain ⟨ln, hln⟩ := at_lt c.2 j (by rw [hls.1]; exact (List.getElem?_eq_some_iff.1 hj).1)
  exact ⟨_, w, strs ln, rfl, hls.2 j ln w hln hj⟩
theorem copyW {e : Exts} (he : Quiet e) (t : Txt) (hs : Small t) (ht : Fits t) (htx : textB t = true) (ch : AV) (xs : List AV) (hch : SlOf 2 xs ch) (hall : All2 ChapA t xs) (id : Int) (rs : List Rd) (x : AV) (hx : RdsA rs x) (hrd : ∀ r ∈ rs, RdF r) (hR : Right t id rs) :
    ∃ ys o, SlOf 2 ys o ∧ All2 ChapA (readT t rs) ys ∧ Has58 e ch id x true ∧ Ans (Cx e) 25 [.agg [ch], .agg [intA id, x]] (.tup [.agg [o], intA 0]) := by
  have hlen := hR.len
  obtain ⟨ys, o, ho, hys, h55⟩ := readW he t hs ht ch xs hch hall id rs x hx (by omega) hR.cpy
  have hs2 := hR.small hs
  have ht2 := hR.fits ht hrd
  have hyl : ys.length ≤ 6 := by rw [← hys.1]; exact hs2.chs.2
  have hfit : rs.all (fitOne t) = true := List.all_eq_true.2 fun r hr => by
    rw [fit_read (fun l hl => ?_)]
    · exact hR.cpy.fit r hr
    · obtain ⟨c, hc, hlc⟩ := lineAt_mem hl
      have := (hs.words c hc l hlc).1
      omega
  have hcnt : (chapIts 0 ys).length < 2 ^ 32 := by
    have h1 := lensOf_len ys (linesOf_len hys hs2)
    rw [← chapIts_lens 0 ys, List.length_map] at h1
    omega
  have hw : withinB 1 10 (lensOf ys) = true := List.all_eq_true.2 fun n hn => by
    obtain ⟨c, hc, l, hl, rfl⟩ := lensOf_mem hys hn
    have := hs2.words c hc l hl
    simp only [Bool.and_eq_true, decide_eq_true_eq]; omega
  have h58 := has58 he t ht ch xs hch hall id hR.id rs x hx hlen hrd hfit (ordB_of rs hR.cpy.ord) ys o ho (fun y hy => (okCh2_of ht2 hys y hy).ok) (by omega) (item58_of hys) hcnt h55
  rw [hw] at h58
  exact ⟨ys, o, ho, hys, h58, ans25 he t ht htx ch xs hch hall id rs x hx h58 ys o ho h55⟩
/-! ### memory with a list of words that grows over what stays -/
structure MB (B : Nat) (base : Fm) (H : Heap) (ds : List ByteArray) (out : AV) : Prop where
  lock : H.lock = 0
  size : B ≤ H.size
  base : Has base H
  done : DoneR H ds out
/-- what stays is no list that grows, and lies in front -/
def Stay (B : Nat) (base : Fm) : Prop := ∀ p ∈ base, p.1 < B ∧ ∀ v m e sz cs, p.2 ≠ .cells v m e sz true cs
theorem MB.row {B : Nat} {base : Fm} {H : Heap} {ds : List ByteArray} {out : AV} (h : MB B base H ds out) {b v m e sz : Nat} {g : Bool} {cs : List AV} (hb : (b, AObj.cells v m e sz g cs) ∈ base) (E : List (Option AObj)) : (H.plus E).row b v = some (m, e, sz, g, cs) := by
  have hg := h.base _ hb
  rw [rowLo (get_ltS hg)]; exact get_row hg
theorem MB.plus {B : Nat} {base : Fm} {H : Heap} {ds : List ByteArray} {out : AV} (h : MB B base H ds out) (E : List (Option AObj)) : MB B base (H.plus E) ds out :=
  ⟨h.lock, by have := h.size; rw [plus_size]; omega, h.base.plus E, h.done.plus E⟩
theorem MB.trim {B : Nat} {base : Fm} {H : Heap} {ds : List ByteArray} {out : AV} (h : MB B base H ds out) (hS : Stay B base) {n : Nat} (hn : B ≤ n) (vs : List AV) (ms : List Nat) (hv : bound out ≤ boundL vs) : MB B base (H.trim n vs ms) ds out := by
  by_cases hn2 : n ≤ H.size
  · refine ⟨trim_lock.trans h.lock, Nat.le_trans hn (trim_size' hn2), fun p hp => (trim_lo (by have := (hS p hp).1; omega)).trans (h.base p hp), ?_⟩
    rcases h.done with hd | ⟨b, v, h1, h2, rfl, h4⟩
    · exact Or.inl hd
    · unfold Heap.trim
      split
      · rename_i hq
        rw [Bool.and_eq_true, Bool.and_eq_true, Bool.and_eq_true, Nat.ble_eq] at hq
        have h5 := hq.1.1.1
        have hb : b < n := by simp only [bound] at hv; omega
        have hg := (takeH_get (H := H) hb).trans (row_of_get h4)
        exact Or.inr ⟨b, v, h1, get_size hg, rfl, get_row hg⟩
      · exact Or.inr ⟨b, v, h1, h2, rfl, h4⟩
  · rw [trim_whole (by omega)]; exact h
theorem MB.more {B : Nat} {base : Fm} {H : Heap} {ds : List ByteArray} {b v : Nat} (h : MB B base H ds (.sl b v 0 ds.length none)) (hS : Stay B base) (hb : b < H.size) (hr : H.row b v = some (0, 9, 1, true, strs ds)) (s : List ByteArray) (n : Nat) (hn : n = ds.length + s.length) : MB B base (H.put b (.cells (v + 1) 0 9 1 true (strs (ds ++ s)))) (ds ++ s) (.sl b (v + 1) 0 n none) := by
  refine ⟨h.lock, by rw [put_sizeI _ hb]; exact h.size, fun p hp => ?_, Or.inr ⟨b, v + 1, ?_, by rw [put_sizeI _ hb]; exact hb, by rw [hn, List.length_append], row_put_same hb⟩⟩
  · have hne : p.1 ≠ b := by
      rintro rfl
      have h1 := (row_of_get hr).symm.trans (h.base p hp)
      exact (hS p hp).2 v 0 9 1 (strs ds) (Option.some.inj h1).symm
    exact (put_get_ne _ (by omega) hne).trans (h.base p hp)
  · have := h.lock
    show H.lock ≤ b
    omega
theorem MB.new {B : Nat} {base : Fm} {H : Heap} {ds : List ByteArray} {out : AV} (h : MB B base H ds out) {N : Nat} (hN : H.size = N) (E : List (Option AObj)) (k : Nat) (ds' : List ByteArray) (hE : E[k]? = some (some (.cells 0 0 9 1 true (strs ds')))) : MB B base (H.plus E) ds' (.sl (N + k) 0 0 ds'.length none) := by
  have hk := (List.getElem?_eq_some_iff.1 hE).1
  refine ⟨h.lock, by have := h.size; rw [plus_size]; omega, h.base.plus E, Or.inr ⟨N + k, 0, ?_, by rw [plus_size]; omega, rfl, ?_⟩⟩
  · have := h.lock
    show H.lock ≤ _
    omega
  · rw [rowP hN, hE]; rfl
end Go.Ev
namespace Go.Ev
open Go.Proofs
set_option maxRecDepth 100000
set_option linter.unusedSimpArgs false
attribute [local irreducible] Wp WpS
end Go.Ev
namespace Go.Ev
open Go.Proofs
set_option maxRecDepth 100000
set_option linter.unusedSimpArgs false
attribute [local irreducible] Wp WpS
end Go.Ev
namespace Go.Ev
open Go.Proofs
set_option maxRecDepth 100000
set_option linter.unusedSimpArgs false
attribute [local irreducible] Wp WpS
theorem MB.drop {B : Nat} {base : Fm} {H : Heap} {ds : List ByteArray} {out : AV} (h : MB B base H ds out) : MB B base H [] (.v (.slice none 0 0)) := ⟨h.lock, h.size, h.base, Or.inl ⟨rfl, rfl⟩⟩
theorem MB.sub {B B' : Nat} {base base' : Fm} {H : Heap} {ds : List ByteArray} {out : AV} (h : MB B base H ds out) (hB : B' ≤ B) (hb : ∀ p ∈ base', p ∈ base) : MB B' base' H ds out := ⟨h.lock, Nat.le_trans hB h.size, fun p hp => h.base p (hb p hp), h.done⟩
theorem MB.lay {B : Nat} {base : Fm} {H : Heap} {ds : List ByteArray} {out : AV} (h : MB B base H ds out) {N : Nat} (hN : H.size = N) (o : AObj) (E : List (Option AObj)) : MB (N + 1) (base ++ [(N, o)]) (H.plus (some o :: E)) ds out := by
  refine ⟨h.lock, by rw [plus_size, hN, List.length_cons]; omega, fun p hp => ?_, h.done.plus _⟩
  rcases List.mem_append.1 hp with hp | hp
  · exact h.base.plus _ p hp
  · obtain rfl := List.mem_singleton.1 hp
    rw [plus_get_hi _ (by omega), hN, Nat.sub_self]; rfl
theorem Stay.lay {B N : Nat} {base : Fm} (h : Stay B base) (hB : B ≤ N) {o : AObj} (ho : ∀ v m e sz cs, o ≠ .cells v m e sz true cs) : Stay (N + 1) (base ++ [(N, o)]) := by
  intro p hp
  rcases List.mem_append.1 hp with hp | hp
  · exact ⟨by have := (h p hp).1; omega, (h p hp).2⟩
  · obtain rfl := List.mem_singleton.1 hp
    exact ⟨Nat.lt_succ_self _, ho⟩
end Go.Ev
namespace Go.Ev
open Go.Proofs
set_option maxRecDepth 100000
set_option linter.unusedSimpArgs false
/-! ### from arguments of plain data to copies -/
theorem map_of {α β : Type} {f : α → β} {Q : α → Prop} : ∀ (xs : List β), (∀ y ∈ xs, ∃ r, y = f r ∧ Q r) → ∃ l : List α, xs = l.map f ∧ ∀ r ∈ l, Q r
  | [], _ => ⟨[], rfl, fun r h => nomatch h⟩
  | y :: xs, h => by
    obtain ⟨r, rfl, hr⟩ := h y (List.mem_cons_self ..)
    obtain ⟨l, rfl, hl⟩ := map_of xs fun z hz => h z (List.mem_cons_of_mem _ hz)
    exact ⟨r :: l, rfl, fun q hq => (List.mem_cons.1 hq).elim (fun e => e ▸ hr) (hl q)⟩
theorem cells3 {l : List AV} (h : l.length = 3) : ∃ a b c, l = [a, b, c] := by
  match l, h with
  | [a, b, c], _ => exact ⟨a, b, c, rfl⟩
theorem cells5 {l : List AV} (h : l.length = 5) : ∃ a b c d e, l = [a, b, c, d, e] := by
  match l, h with
  | [a, b, c, d, e], _ => exact ⟨a, b, c, d, e, rfl⟩
theorem place_of {N : Nat} {cs : List AV} (h : Plain Tryz.prog (N + 2) 32 cs) : ∃ a b c, cs = [intA a, intA b, intA c] := by
  obtain ⟨hl, hf⟩ := plain_struct (l := [(0, 3), (1, 3), (2, 3)]) (by kernel_rfl) (by kernel_rfl) h
  obtain ⟨a, b, c, rfl⟩ := cells3 (hl.trans (by kernel_rfl))
  have h0 := hf (0, 3) (by simp)
  have h1 := hf (1, 3) (by simp)
  have h2 := hf (2, 3) (by simp)
  have e0 : Tryz.prog.cellsOf 3 = 1 := by kernel_rfl
  simp only [e0, List.drop_zero, List.drop_succ_cons, List.take_succ_cons, List.take_zero] at h0 h1 h2
  obtain ⟨m, hm, -⟩ := plain_int (by kernel_rfl : Tryz.prog.underlying 3 = some (.int .i64)) h0
  obtain ⟨n, hn, -⟩ := plain_int (by kernel_rfl : Tryz.prog.underlying 3 = some (.int .i64)) h1
  obtain ⟨k, hk, -⟩ := plain_int (by kernel_rfl : Tryz.prog.underlying 3 = some (.int .i64)) h2
  simp only [List.cons.injEq, and_true] at hm hn hk
  exact ⟨m, n, k, by rw [hm, hn, hk]; rfl⟩
theorem u8_wf {m : Int} (h : (Lit.int .u8 m).wf = true) : 0 ≤ m ∧ m < 256 := by
  have h2 : (decide (IntKind.u8.min ≤ m) && decide (m ≤ IntKind.u8.max)) = true := h
  have e1 : IntKind.u8.min = 0 := by decide
  have e2 : IntKind.u8.max = 255 := by decide
  rw [e1, e2] at h2
  simp at h2; omega
theorem rd_of {N : Nat} {cs : List AV} (h : Plain Tryz.prog (N + 3) 65 cs) : ∃ r, AV.agg cs = rdV r ∧ RdF r := by
  obtain ⟨hl, hf⟩ := plain_struct (l := [(0, 32), (3, 5), (4, 9)]) (by kernel_rfl) (by kernel_rfl) h
  obtain ⟨a, b, c, d, e, rfl⟩ := cells5 (hl.trans (by kernel_rfl))
  have h0 := hf (0, 32) (by simp)
  have h1 := hf (3, 5) (by simp)
  have h2 := hf (4, 9) (by simp)
  have e0 : Tryz.prog.cellsOf 32 = 3 := by kernel_rfl
  have e1 : Tryz.prog.cellsOf 5 = 1 := by kernel_rfl
  have e2 : Tryz.prog.cellsOf 9 = 1 := by kernel_rfl
  simp only [e0, e1, e2, List.drop_zero, List.drop_succ_cons, List.take_succ_cons, List.take_zero] at h0 h1 h2
  obtain ⟨x, y, z, hp⟩ := place_of h0
  obtain ⟨m, hm, hw⟩ := plain_int (by kernel_rfl : Tryz.prog.underlying 5 = some (.int .u8)) h1
  obtain ⟨s, hs, hsz⟩ := plain_string (by kernel_rfl : Tryz.prog.underlying 9 = some .string) h2
  simp only [List.cons.injEq, and_true] at hp hm hs
  obtain ⟨rfl, rfl, rfl⟩ := hp
  subst hm hs
  have := u8_wf hw
  have hml := maxLen_lt
  exact ⟨⟨x, y, z, m, s⟩, rfl, ⟨this.1, this.2, by show s.size < _; omega⟩⟩
end Go.Ev
namespace Go.Ev
open Go.Proofs Go.Sort
set_option maxRecDepth 100000
set_option linter.unusedSimpArgs false
attribute [local irreducible] Wp WpS
theorem words_at {t : Txt} {n : Nat} {x : Plc × ByteArray} (hx : (wordsT 0 t)[n]? = some x) : ∃ ln, lineAt t x.1.1 x.1.2.1 = some ln ∧ ln[x.1.2.2]? = some x.2 := by
  obtain ⟨m, k, w, c, l, h1, h2, h3, h4⟩ := (wordsT_mem t 0 x).1 (List.mem_of_getElem? hx)
  rw [h1]
  refine ⟨l, ?_, h4⟩
  rw [Nat.zero_add]
  exact lineAt_nat h2 h3
/-- a copy has not its word in a place, if and only if that is one of its places in doubt -/
theorem stand_doubt {t : Txt} (hs : Small t) {rs : List Rd} (hc : Cpy t rs) {a b c : Nat} {ln : Line} (hL : lineAt t a b = some ln) {own : ByteArray} (ho : ln[c]? = some own) : decide (standL rs a b c own = own) = !decide (((a : Int), (b : Int), (c : Int)) ∈ dbtL rs) := by
  have hne := hs.ne hL own (List.mem_of_getElem? ho)
  unfold standL
  cases hf : rs.find? (takesB a b c) with
  | none =>
    have hno := List.find?_eq_none.1 hf
    have h2 : ¬ ((a : Int), (b : Int), (c : Int)) ∈ dbtL rs := fun h => by
      obtain ⟨r, hr, hk, he⟩ := dbtL_mem.1 h
      refine hno r hr ?_
      unfold atR at he
      simp only [Prod.mk.injEq] at he
      unfold takesB eqP
      simp [he.1, he.2.1, he.2.2, hk]
    simp [h2]
  | some r =>
    have hr := List.mem_of_find?_eq_some hf
    have ht := List.find?_some hf
    unfold takesB eqP at ht
    simp only [Bool.and_eq_true, decide_eq_true_eq, Bool.not_eq_true', decide_eq_false_iff_not] at ht
    obtain ⟨⟨e1, e2, e3⟩, hk⟩ := ht
    have h2 : ((a : Int), (b : Int), (c : Int)) ∈ dbtL rs := dbtL_mem.2 ⟨r, hr, hk, by unfold atR; rw [e1, e2, e3]⟩
    have hfit := hc.fit r hr
    unfold readB at hfit
    rw [e1, e2, hL] at hfit
    simp only at hfit
    have hw : r.word ≠ own := by
      by_cases k1 : r.kind = 1
      · rw [if_pos k1] at hfit
        unfold fits1 at hfit
        simp only [Bool.and_eq_true, decide_eq_true_eq] at hfit
        rw [hfit.2]; exact fun e => hne e.symm
      · rw [if_neg k1, if_neg hk] at hfit
        by_cases k3 : r.kind = 3
        · rw [if_pos k3] at hfit
          unfold fits3 at hfit
          simp only [Bool.and_eq_true, Bool.not_eq_true', decide_eq_false_iff_not] at hfit
          have h3 := hfit.2
          rw [e3] at h3
          intro e
          refine h3 (e.trans ?_)
          unfold at0
          simp [ho]
        · rw [if_neg k3] at hfit; cases hfit
    simp [h2, hw]
theorem ans_of_call {C : Cfg} {me f : FuncId} {d : Option Tmp} {args : List AV} {H : Heap} {v : AV} (hx : C.ext f = none) (hp : C.pure me f d = true) (hb : boundL args = 0) (h : callA C (lim C) me f d args H = some (v, H)) : Ans C f args v := by
  unfold callA callB callKind at h
  rw [hx] at h
  simp only [hp, if_true] at h
  rw [if_pos (by rw [hb]; rfl)] at h
  refine Ans.iff.2 ?_
  simp only at h
  split at h
  · rename_i x H' hq
    simp only [Option.map_eq_some_iff, Prod.mk.injEq, and_true] at h
    obtain ⟨w, hw, rfl⟩ := h
    exact ⟨x, H', hq, hw⟩
  · cases h
/-- a copy of a list, as it is given -/
def CpA (c : Int × List Rd) (z : AV) : Prop := ∃ y, z = .agg [intA c.1, y] ∧ RdsA c.2 y ∧ ∀ r ∈ c.2, RdF r
theorem bound_cp {ch y : AV} {id : Int} {rs : List Rd} (h1 : bound ch = 0) (hy : RdsA rs y) : boundL [.agg [ch], .agg [intA id, y]] = 0 := by
  simp only [boundL_cons, bound_agg, h1, intA, bound_v, SlOf.bound hy, boundL_nil]; rfl
theorem bound_cp1 {y : AV} {id : Int} {rs : List Rd} (hy : RdsA rs y) : boundL [.agg [intA id, y]] = 0 := by
  simp only [boundL_cons, bound_agg, intA, bound_v, SlOf.bound hy, boundL_nil]; rfl
theorem cpsOk_of {t : Txt} (hs : Small t) (ht : Fits t) (htx : textB t = true) {ch : AV} {xs : List AV} (hch : SlOf 2 xs ch) (hall : All2 ChapA t xs) {cs : List (Int × List Rd)} {zs : List AV} (hz : All2 CpA cs zs) (hR : ∀ c ∈ cs, Right t c.1 c.2) : CpsOk ch cs zs := by
  refine ⟨hz.1, fun i c hc => ?_⟩
  obtain ⟨z, hzi, y, rfl, hy, hf⟩ := hz.get hc
  have hr := hR c (List.mem_of_getElem? hc)
  obtain ⟨ys, o, ho, hys, h58, h25⟩ := copyW quietA t hs ht htx ch xs hch hall c.1 c.2 y hy hf hr
  have hlen := hr.len
  have ha : Ans (Cx eA) 58 [.agg [ch], .agg [intA c.1, y]] (.v (.bool true)) := ans_of_call (me := 0) (d := none) (ext_58 quietA) (pure_58 _ _ _) (bound_cp hch.bound hy) (h58 0 none { objs := [], lock := 0 })
  exact ⟨y, hzi, hy, by omega, fun me d H => told rfl ha (bound_cp hch.bound hy) me d H, fun me d H => told rfl (ans59 quietA c.1 c.2 y hy (by omega)) (bound_cp1 hy) me d H⟩
theorem ans32 {t : Txt} (ht : Fits t) (htx : textB t = true) {ch : AV} {xs : List AV} (hch : SlOf 2 xs ch) (hall : All2 ChapA t xs) {cs : List (Int × List Rd)} {zs : List AV} (hcs : CpsOk ch cs zs) (hc5 : cs.length ≤ 5) {lx : AV} (hl : SlOf 2 zs lx) (hz : All2 CpA cs zs) : Ans Cs 32 [.agg [ch], lx] (.tup [plsV (doubtL cs), .v (.int .i64 0)]) := by
  have hr := rdb_closed hl (fun z hm => by
    obtain ⟨i, hi⟩ := List.getElem?_of_mem hm
    obtain ⟨c, hc⟩ := at_lt cs i (by rw [hz.1]; exact (List.getElem?_eq_some_iff.1 hi).1)
    obtain ⟨y, rfl, -⟩ := hz.2 i c z hc hi
    exact ⟨_, _, rfl⟩) { objs := [], lock := 0 }
  refine fn_mono (fn32 (X := { objs := [], lock := 0 }) (Nat.le_refl _) ht htx hch hall hcs hc5 hr) fun v H' h => ?_
  subst h
  show freezeV _ 1000000 _ = _
  generalize doubtL cs = l
  cases l <;> rfl
theorem call32 {t : Txt} (ht : Fits t) (htx : textB t = true) {ch : AV} {xs : List AV} (hch : SlOf 2 xs ch) (hall : All2 ChapA t xs) {cs : List (Int × List Rd)} {zs : List AV} (hcs : CpsOk ch cs zs) (hc5 : cs.length ≤ 5) {lx : AV} (hl : SlOf 2 zs lx) (hz : All2 CpA cs zs) (me : FuncId) (d : Option Tmp) (H : Heap) : callA Cs (lim Cs) me 32 d [.agg [ch], lx] H = some (.tup [plsV (doubtL cs), .v (.int .i64 0)], H) :=
  (ans32 ht htx hch hall hcs hc5 hl hz).call extS_32 (pureS_32 _ _) (by simp only [boundL_cons, bound_agg, hch.bound, hl.bound, boundL_nil]; rfl) H
end Go.Ev
namespace Go.Ev
open Go.Proofs Go.Sort
set_option maxRecDepth 100000
set_option linter.unusedSimpArgs false
attribute [local irreducible] Wp WpS
theorem call13S (t : Txt) (ht : Fits t) {ch : AV} {xs : List AV} (hch : SlOf 2 xs ch) (hall : All2 ChapA t xs) (me : FuncId) (d : Option Tmp) (H : Heap) : callA Cs (lim Cs) me 13 d [.agg [ch]] H = some (.v (.bool (readyB t)), H) :=
  told rfl (ans13 quietA t ht _ ⟨ch, rfl, xs, hch, hall⟩) (by simp only [boundL_cons, bound_agg, hch.bound, boundL_nil]; rfl) me d H
theorem call28S {t : Txt} (ht : Fits t) (hs : Small t) {ch : AV} {xs : List AV} (hch : SlOf 2 xs ch) (hall : All2 ChapA t xs) {c : Int × List Rd} {y : AV} (hy : RdsA c.2 y) (hf : ∀ r ∈ c.2, RdF r) (me : FuncId) (d : Option Tmp) (H : Heap) : callA Cs (lim Cs) me 28 d [.agg [ch], .agg [.v (.int .i64 c.1), y]] H = some (.v (.bool (rightB t c.1 c.2)), H) :=
  told rfl (ans28 quietA t ht (fun c hc l hl => by have := (hs.words c hc l hl).2; omega) ch xs hch hall c.1 c.2 y hy hf) (bound_cp hch.bound hy) me d H
theorem readyS {t : Txt} (h : readyB t = true) : textB t = true := by unfold readyB at h; simp only [Bool.and_eq_true] at h; exact h.2
theorem call14S {t : Txt} (ht : Fits t) (htx : textB t = true) {ch : AV} {xs : List AV} (hch : SlOf 2 xs ch) (hall : All2 ChapA t xs) (me : FuncId) (d : Option Tmp) (H : Heap) : callA Cs (lim Cs) me 14 d [.agg [ch]] H = some (.tup [.v (.int .i64 (wordsT 0 t).length), .v (.int .i64 0)], H) := by
  have hb : boundL [AV.agg [ch]] = 0 := by simp only [boundL_cons, bound_agg, hch.bound, boundL_nil]; rfl
  exact told rfl (ans_of_call (me := 0) (d := none) (ext_14 quietA) (pure_14 _ _ _) hb (call14 quietA t ht ch xs hch hall htx 0 none { objs := [], lock := 0 })) hb me d H
theorem callI15S {t : Txt} (ht : Fits t) (htx : textB t = true) {ch : AV} {xs : List AV} (hch : SlOf 2 xs ch) (hall : All2 ChapA t xs) {n : Nat} {x : Plc × ByteArray} (hx : (wordsT 0 t)[n]? = some x) (me : FuncId) (d : Option Tmp) : callI Cs me 15 d [.agg [ch], .v (.int .i64 n)] = some (.tup [.agg [.v (.int .i64 x.1.1), .v (.int .i64 x.1.2.1), .v (.int .i64 x.1.2.2)], .v (.int .i64 0)]) := by
  have h := ans15 quietA t ht ch xs hch hall n
  rw [placeOf_in htx hx] at h
  exact toldI rfl h (by simp only [boundL_cons, bound_agg, hch.bound, intA, bound_v, boundL_nil]; rfl) me d
theorem call19S {t : Txt} (ht : Fits t) (htx : textB t = true) {ch : AV} {xs : List AV} (hch : SlOf 2 xs ch) (hall : All2 ChapA t xs) {n : Nat} {x : Plc × ByteArray} (hx : (wordsT 0 t)[n]? = some x) (me : FuncId) (d : Option Tmp) (H : Heap) : callA Cs (lim Cs) me 19 d [.agg [ch], .agg [.v (.int .i64 x.1.1), .v (.int .i64 x.1.2.1), .v (.int .i64 x.1.2.2)]] H = some (.tup [.v (.string x.2), .v (.int .i64 0)], H) := by
  obtain ⟨ln, h1, h2⟩ := words_at hx
  exact told rfl (ans19 quietA t ht htx ch xs hch hall x.1.1 x.1.2.1 x.1.2.2 ln h1 x.2 h2) (by simp only [boundL_cons, bound_agg, hch.bound, intA, bound_v, boundL_nil]; rfl) me d H
theorem call30S {t : Txt} (hs : Small t) (ht : Fits t) (htx : textB t = true) {ch : AV} {xs : List AV} (hch : SlOf 2 xs ch) (hall : All2 ChapA t xs) {n : Nat} {x : Plc × ByteArray} (hx : (wordsT 0 t)[n]? = some x) {c : Int × List Rd} {y : AV} (hy : RdsA c.2 y) (hf : ∀ r ∈ c.2, RdF r) (hR : Right t c.1 c.2) (me : FuncId) (d : Option Tmp) (H : Heap) :
    callA Cs (lim Cs) me 30 d [.agg [ch], .agg [.v (.int .i64 c.1), y], .agg [.v (.int .i64 x.1.1), .v (.int .i64 x.1.2.1), .v (.int .i64 x.1.2.2)]] H = some (.tup [.v (.string (standL c.2 x.1.1 x.1.2.1 x.1.2.2 x.2)), .v (.int .i64 0)], H) := by
  obtain ⟨ln, h1, h2⟩ := words_at hx
  obtain ⟨ys, o, ho, hys, h58, h25⟩ := copyW quietA t hs ht htx ch xs hch hall c.1 c.2 y hy hf hR
  have := hR.len
  exact told rfl (ans30 quietA t ht htx ch xs hch hall c.1 c.2 y hy (by omega) h58 x.1.1 x.1.2.1 x.1.2.2 ln h1 x.2 h2) (by simp only [boundL_cons, bound_agg, hch.bound, intA, bound_v, SlOf.bound hy, boundL_nil]; rfl) me d H
theorem plsV_sl (l : List P3) : SlOf 3 (l.map p3V) (plsV l) := by
  cases l with
  | nil => exact Or.inl ⟨rfl, rfl⟩
  | cons p r => exact Or.inr ⟨none, rfl⟩
theorem before_lt (p q : P3) : beforeB p q = ltP p q := by
  unfold beforeB ltP
  by_cases h1 : p.1 = q.1
  · by_cases h2 : p.2.1 = q.2.1
    · simp [h1, h2]
    · simp [h1, h2]
  · simp [h1]
theorem callI17S {t : Txt} (ht : Fits t) {ch : AV} {xs : List AV} (hch : SlOf 2 xs ch) (hall : All2 ChapA t xs) (q : P3) (me : FuncId) (d : Option Tmp) : callI Cs me 17 d [.agg [ch], .agg [.v (.int .i64 q.1), .v (.int .i64 q.2.1), .v (.int .i64 q.2.2)]] = some (.v (.bool (placeB' t q.1 q.2.1 q.2.2))) :=
  toldI rfl (ans17 quietA t ht ch xs hch hall q.1 q.2.1 q.2.2) (by simp only [boundL_cons, bound_agg, hch.bound, intA, bound_v, boundL_nil]; rfl) me d
theorem callI18S (p q : P3) (me : FuncId) (d : Option Tmp) : callI Cs me 18 d [.agg [.v (.int .i64 p.1), .v (.int .i64 p.2.1), .v (.int .i64 p.2.2)], .agg [.v (.int .i64 q.1), .v (.int .i64 q.2.1), .v (.int .i64 q.2.2)]] = some (.v (.bool (ltP p q))) := by
  have h := ans18 (e := eA) p.1 p.2.1 p.2.2 q.1 q.2.1 q.2.2
  rw [show beforeB (p.1, p.2.1, p.2.2) (q.1, q.2.1, q.2.2) = ltP p q from before_lt p q] at h
  exact toldI rfl h rfl me d
theorem dbt_place {t : Txt} {rs : List Rd} (hc : Cpy t rs) {q : P3} (hq : q ∈ dbtL rs) : placeB' t q.1 q.2.1 q.2.2 = true := by
  obtain ⟨r, hr, hk, rfl⟩ := dbtL_mem.1 hq
  have hfit := hc.fit r hr
  unfold readB at hfit
  unfold placeB' atR
  simp only
  cases hL : lineAt t r.ch r.ln with
  | none => rw [hL] at hfit; cases hfit
  | some ln =>
    rw [hL] at hfit
    simp only at hfit ⊢
    by_cases k1 : r.kind = 1
    · rw [if_pos k1] at hfit
      unfold fits1 at hfit
      simp only [Bool.and_eq_true] at hfit
      exact hfit.1
    · rw [if_neg k1, if_neg hk] at hfit
      by_cases k3 : r.kind = 3
      · rw [if_pos k3] at hfit
        unfold fits3 at hfit
        simp only [Bool.and_eq_true] at hfit
        exact hfit.1.1
      · rw [if_neg k3] at hfit; cases hfit
set_option maxHeartbeats 8000000 in
theorem ans9 (t : Txt) (ht : Fits t) (ch : AV) (xs : List AV) (hch : SlOf 2 xs ch) (hall : All2 ChapA t xs) (cs : List (Int × List Rd)) (zs : List AV) (lx : AV) (hl : SlOf 2 zs lx) (hz : All2 CpA cs zs) (o : Nat) (ho : o < 65536) : Ans Cs 9 [.agg [ch], lx, .v (.int .u16 o)] (.v (.bool true)) := by
  have h13 := call13S t ht hch hall
  have hlen := hl.len
  rw [← hz.1] at hlen
  unfold Ans
  rw [fn_step fnS_9 (show Tryz.f9.body = some _ from rfl)]
  cases h1 : readyB t
  · rw [h1] at h13
    simp -implicitDefEqProofs only [Tryz.f9, go_sem, ↓reduceIte, Int.reduceEq, Int.reduceLT, Int.reduceLE, List.reduceReplicate, intA, setT_nil, setT_cons, ↓boolP_bool, ↓iteB_true, ↓iteB_false, hch.cells, hch.flat, hch.bound, callS12, h13]
  rw [h1] at h13
  have htx := readyS h1
  have hs := small_of htx
  by_cases h5 : 5 < (cs.length : Int)
  · simp -implicitDefEqProofs only [Tryz.f9, go_sem, ↓reduceIte, Int.reduceEq, Int.reduceLT, Int.reduceLE, List.reduceReplicate, intA, setT_nil, setT_cons, ↓boolP_bool, ↓iteB_true, ↓iteB_false, hch.cells, hch.flat, hch.bound, callS12, h13, hlen, h5]
  simp -implicitDefEqProofs only [Tryz.f9, go_sem, ↓reduceIte, Int.reduceEq, Int.reduceLT, Int.reduceLE, List.reduceReplicate, intA, setT_nil, setT_cons, ↓boolP_bool, ↓iteB_true, ↓iteB_false, hch.cells, hch.flat, hch.bound, callS12, h13, hlen, h5]
  refine Lp_rule (P := fun μ a H => ∃ i, i + μ = cs.length ∧ (∀ j c, j < i → cs[j]? = some c → rightB t c.1 c.2 = true) ∧ a = ⟨154, [(0, .agg [ch]), (1, lx), (2, .v (.int .u16 o)), (3, .ptr 0 0 0), (6, .v (.bool false)), (7, .v (.bool true)), (38, .v (.bool false)), (40, lx), (41, intA cs.length), (42, intA i)], []⟩ ∧ H = ⟨[some (.cells 0 0 24 1 false [ch])], 0⟩) ?_ cs.length _ _ ⟨0, by omega, fun j c hj _ => absurd hj (Nat.not_lt_zero _), rfl, rfl⟩
  rintro μ _ _ ⟨i, hi, hright, rfl, rfl⟩
  by_cases hlt : (i : Int) < (cs.length : Int)
  · obtain ⟨c, hc⟩ := at_lt cs i (by omega)
    obtain ⟨z, hzi, y, rfl, hy, hf⟩ := hz.get hc
    have hw := wrap_succ i (by omega)
    have hir := hl.idx hzi
    have h28 := call28S ht hs hch hall hy hf
    have hyf : SlOf 5 (c.2.map rdV) y := hy
    unfold intA at hir
    cases h2 : rightB t c.1 c.2
    · rw [h2] at h28
      simp -implicitDefEqProofs only [go_sem, ↓reduceIte, Int.reduceEq, Int.reduceLT, Int.reduceLE, List.reduceReplicate, intA, setT_nil, setT_cons, ↓boolP_bool, ↓iteB_true, ↓iteB_false, hlt, hir, h28, hyf.cells, hyf.flat, hyf.bound, hch.cells]
    · rw [h2] at h28
      simp -implicitDefEqProofs only [go_sem, ↓reduceIte, Int.reduceEq, Int.reduceLT, Int.reduceLE, List.reduceReplicate, intA, setT_nil, setT_cons, ↓boolP_bool, ↓iteB_true, ↓iteB_false, hlt, hw, hir, h28, hyf.cells, hyf.flat, hyf.bound, hch.cells, hch.bound, hl.bound, trim_at]
      refine ⟨μ - 1, by omega, i + 1, by omega, fun j c' hj hc' => ?_, rfl, rfl⟩
      by_cases hji : j < i
      · exact hright j c' hji hc'
      · obtain rfl : j = i := by omega
        rw [hc] at hc'; cases hc'; exact h2
  · obtain rfl : i = cs.length := by omega
    have hR : ∀ c ∈ cs, Right t c.1 c.2 := fun c hc => by
      obtain ⟨j, hj⟩ := List.getElem?_of_mem hc
      have h2 := hright j c (List.getElem?_eq_some_iff.1 hj).1 hj
      exact Right.of (by unfold rightB at h2; simp only [Bool.and_eq_true] at h2; exact h2.2)
    have hcps := cpsOk_of hs ht htx hch hall hz hR
    have h32 := call32 ht htx hch hall hcps (by omega) hl hz
    have hN := wordsT_small hs
    have h14 := call14S ht htx hch hall
    generalize hNn : (wordsT 0 t).length = N at hN h14
    have hlt1 : ¬ ((N : Int) < 1) := by omega
    have hwo := wrap_nat o (by omega)
    have hN0 : (N : Int) ≠ 0 := by omega
    have hrem : ∀ (x y : Operand) (m : Int), binA Tryz.prog .rem 3 x y (.v (.int .i64 m)) (.v (.int .i64 N)) = some (.v (.int .i64 (Int.tmod m N))) := fun x y m => bin_rem x y m N hN0
    have hmod : Int.tmod (o : Int) (N : Int) = ((o % N : Nat) : Int) := rfl
    obtain ⟨x, hx1⟩ := at_lt (wordsT 0 t) (o % N) (by rw [hNn]; exact Nat.mod_lt _ (by omega))
    generalize o % N = w at hmod hx1
    have h15 := callI15S ht htx hch hall hx1
    have h19 := call19S ht htx hch hall hx1
    simp -implicitDefEqProofs only [go_sem, ↓reduceIte, Int.reduceEq, Int.reduceLT, Int.reduceLE, List.reduceReplicate, intA, setT_nil, setT_cons, ↓boolP_bool, ↓iteB_true, ↓iteB_false, hlt, h32, h14, hlt1, hch.cells, hch.flat, hch.bound]
    refine wp_drawX [([], [], false), ([], [], false), ([], [], false), ([], [], false), ([], [], false), ([], [], false), ([], [], false), ([], [], false), ([], [], false), ([0, 5], [], false), ([], [9], false), ([], [], false)] (by kernel_rfl) (by kernel_rfl) ?_
    simp -implicitDefEqProofs only [go_sem, ↓reduceIte, Int.reduceEq, Int.reduceLT, Int.reduceLE, List.reduceReplicate, intA, setT_nil, setT_cons, ↓boolP_bool, ↓iteB_true, ↓iteB_false, conv_u16, hwo, hrem, hmod, h15, h19, hch.cells, hch.flat, hch.bound, hlen]
    refine Lp_rule (P := fun μ a H => ∃ (i : Nat) (b : Bool), i + μ = cs.length ∧ b = (cs.take i).any (fun c => !decide (standL c.2 x.1.1 x.1.2.1 x.1.2.2 x.2 = x.2)) ∧ a = ⟨154, [(0, .agg [ch]), (1, lx), (2, .v (.int .u16 o)), (3, .ptr 0 0 0), (6, .v (.bool false)), (7, .v (.bool true)), (38, .v (.bool false)), (40, lx), (41, intA cs.length), (42, intA cs.length), (10, plsV (doubtL cs)), (11, intA 0), (12, intA N), (13, intA 0), (72, .v (.bool false)), (14, .ptr 10 0 0), (15, intA 0), (16, .v (.string x.2)), (17, intA 0), (93, .v (.bool false)), (18, .v (.bool b)), (19, .v (.bool false)), (94, lx), (95, intA cs.length), (96, intA i)], []⟩ ∧ H = ⟨[some (.cells 0 0 24 1 false [ch]), none, none, none, none, none, none, none, none, none, some (.cells 0 0 32 1 false [intA x.1.1, intA x.1.2.1, intA x.1.2.2]), none, none], 0⟩) ?_ cs.length _ _ ⟨0, false, by omega, rfl, rfl, rfl⟩
    rintro μ2 _ _ ⟨i, b, hi2, hb, rfl, rfl⟩
    by_cases hlt2 : (i : Int) < (cs.length : Int)
    · obtain ⟨c, hc⟩ := at_lt cs i (by omega)
      obtain ⟨z, hzi, y, rfl, hy, hf⟩ := hz.get hc
      have hw := wrap_succ i (by omega)
      have hir := hl.idx hzi
      have h30 := call30S hs ht htx hch hall hx1 hy hf (hR c (List.mem_of_getElem? hc))
      have hyf : SlOf 5 (c.2.map rdV) y := hy
      unfold intA at hir
      have hany : (cs.take (i + 1)).any (fun c => !decide (standL c.2 x.1.1 x.1.2.1 x.1.2.2 x.2 = x.2)) = (b || !decide (standL c.2 x.1.1 x.1.2.1 x.1.2.2 x.2 = x.2)) := by
        rw [List.take_add_one, hc, List.any_append, ← hb]; simp
      cases b
      · simp -implicitDefEqProofs only [go_sem, ↓reduceIte, Int.reduceEq, Int.reduceLT, Int.reduceLE, List.reduceReplicate, intA, setT_nil, setT_cons, ↓boolP_bool, ↓iteB_true, ↓iteB_false, hlt2, hw, hir, h30, bin_sne, hyf.cells, hyf.flat, hyf.bound, hch.cells, hch.bound, hl.bound, trim_at, plsV_bound]
        exact ⟨μ2 - 1, by omega, i + 1, _, by omega, by rw [hany]; rfl, rfl, rfl⟩
      · simp -implicitDefEqProofs only [go_sem, ↓reduceIte, Int.reduceEq, Int.reduceLT, Int.reduceLE, List.reduceReplicate, intA, setT_nil, setT_cons, ↓boolP_bool, ↓iteB_true, ↓iteB_false, hlt2, hw, hir, h30, bin_sne, hyf.cells, hyf.flat, hyf.bound, hch.cells, hch.bound, hl.bound, trim_at, plsV_bound]
        exact ⟨μ2 - 1, by omega, i + 1, _, by omega, by rw [hany]; rfl, rfl, rfl⟩
    · obtain rfl : i = cs.length := by omega
      rw [List.take_length] at hb
      have hd := plsV_sl (doubtL cs)
      have hdl := hd.len
      rw [List.length_map] at hdl
      simp -implicitDefEqProofs only [go_sem, ↓reduceIte, Int.reduceEq, Int.reduceLT, Int.reduceLE, List.reduceReplicate, intA, setT_nil, setT_cons, ↓boolP_bool, ↓iteB_true, ↓iteB_false, hlt2, hdl]
      refine Lp_rule (P := fun μ a H => ∃ (i : Nat) (g : Bool), i + μ = (doubtL cs).length ∧ g = ((doubtL cs).take i).any (fun q => decide (q = ((x.1.1 : Int), (x.1.2.1 : Int), (x.1.2.2 : Int)))) ∧ a = ⟨154, [(0, .agg [ch]), (1, lx), (2, .v (.int .u16 o)), (3, .ptr 0 0 0), (6, .v (.bool false)), (7, .v (.bool true)), (38, .v (.bool false)), (40, lx), (41, intA cs.length), (42, intA cs.length), (10, plsV (doubtL cs)), (11, intA 0), (12, intA N), (13, intA 0), (72, .v (.bool false)), (14, .ptr 10 0 0), (15, intA 0), (16, .v (.string x.2)), (17, intA 0), (93, .v (.bool false)), (18, .v (.bool b)), (19, .v (.bool g)), (94, lx), (95, intA cs.length), (96, intA cs.length), (116, plsV (doubtL cs)), (117, intA (doubtL cs).length), (118, intA i)], []⟩ ∧ H = ⟨[some (.cells 0 0 24 1 false [ch]), none, none, none, none, none, none, none, none, none, some (.cells 0 0 32 1 false [intA x.1.1, intA x.1.2.1, intA x.1.2.2]), none, none], 0⟩) ?_ (doubtL cs).length _ _ ⟨0, false, by omega, rfl, rfl, rfl⟩
      rintro μ3 _ _ ⟨i, g, hi3, hg, rfl, rfl⟩
      by_cases hlt3 : (i : Int) < ((doubtL cs).length : Int)
      · obtain ⟨q, hq⟩ := at_lt (doubtL cs) i (by omega)
        have hdn : (doubtL cs).length < 2 ^ 62 := by
          have h1 := onceL_le (srtP (allD cs))
          rw [srtP_len] at h1
          have h2 : (allD cs).length ≤ cs.length * 20 := by
            unfold allD
            clear h1 hq hlt3 hi3 hg hd hdl hb hi hlen h5 hright hlt h32 hcps hl hz hi2 hlt2
            induction cs with
            | nil => exact Nat.le_refl _
            | cons c r ih =>
              have h3 := ih fun z hz => hR z (List.mem_cons_of_mem _ hz)
              have h4 := dbtL_len c.2
              have h5 := (hR c List.mem_cons_self).len
              rw [List.flatMap_cons, List.length_append, List.length_cons]; omega
          unfold doubtL; omega
        have hw := wrap_succ i (by omega)
        have hiq := hd.idx (show ((doubtL cs).map p3V)[i]? = some (p3V q) by rw [List.getElem?_map, hq]; rfl)
        unfold p3V intA at hiq
        have hmem := List.mem_of_getElem? hq
        obtain ⟨c, hcm, hqd⟩ := doubtL_mem.1 hmem
        have h17 := callI17S ht hch hall q
        rw [dbt_place (hR c hcm).cpy hqd] at h17
        have hany : ((doubtL cs).take (i + 1)).any (fun q => decide (q = ((x.1.1 : Int), (x.1.2.1 : Int), (x.1.2.2 : Int)))) = (g || decide (q = ((x.1.1 : Int), (x.1.2.1 : Int), (x.1.2.2 : Int)))) := by
          rw [List.take_add_one, hq, List.any_append, ← hg]; simp
        have heq := eqP_iff q ((x.1.1 : Int), (x.1.2.1 : Int), (x.1.2.2 : Int))
        simp only at heq
        simp -implicitDefEqProofs only [go_sem, ↓reduceIte, Int.reduceEq, Int.reduceLT, Int.reduceLE, List.reduceReplicate, intA, setT_nil, setT_cons, ↓boolP_bool, ↓iteB_true, ↓iteB_false, hlt3, hiq, hch.bound, hl.bound, plsV_bound]
        refine wp_drawX [([], [], false), ([0], [], false), ([], [], false), ([], [], false), ([], [], false), ([], [], false), ([], [], false), ([], [], false), ([], [], false), ([], [], false), ([], [], false), ([], [], false), ([], [], false), ([12], [], false), ([], [], false), ([], [], false), ([], [], false), ([], [], false)] (by kernel_rfl) (by kernel_rfl) ?_
        by_cases hi0 : (0 : Int) < (i : Int)
        · obtain ⟨p, hp⟩ := at_lt (doubtL cs) (i - 1) (by omega)
          have hip := hd.idx (show ((doubtL cs).map p3V)[i - 1]? = some (p3V p) by rw [List.getElem?_map, hp]; rfl)
          unfold p3V intA at hip
          have hwm : IntKind.i64.wrap ((i : Int) - 1) = ((i - 1 : Nat) : Int) := by rw [wrap_in _ (by omega) (by omega)]; omega
          have h18 := callI18S p q
          have hpq : ltP p q = true := by
            have h := List.pairwise_iff_getElem.1 (doubtL_str cs) (i - 1) i (by omega) (by omega) (by omega)
            obtain ⟨h3, e3⟩ := List.getElem?_eq_some_iff.1 hp
            obtain ⟨h4, e4⟩ := List.getElem?_eq_some_iff.1 hq
            rw [e3, e4] at h
            exact h
          rw [hpq] at h18
          cases g
          · simp -implicitDefEqProofs only [go_sem, ↓reduceIte, Int.reduceEq, Int.reduceLT, Int.reduceLE, List.reduceReplicate, intA, setT_nil, setT_cons, ↓boolP_bool, ↓iteB_true, ↓iteB_false, hi0, hw, hwm, hip, h17, h18, hch.cells, hch.flat, hch.bound, hl.bound, plsV_bound, eq32, heq, trim_at]
            exact ⟨μ3 - 1, by omega, i + 1, _, by omega, by rw [hany]; rfl, rfl, rfl⟩
          · simp -implicitDefEqProofs only [go_sem, ↓reduceIte, Int.reduceEq, Int.reduceLT, Int.reduceLE, List.reduceReplicate, intA, setT_nil, setT_cons, ↓boolP_bool, ↓iteB_true, ↓iteB_false, hi0, hw, hwm, hip, h17, h18, hch.cells, hch.flat, hch.bound, hl.bound, plsV_bound, eq32, heq, trim_at]
            exact ⟨μ3 - 1, by omega, i + 1, _, by omega, by rw [hany]; rfl, rfl, rfl⟩
        · cases g
          · simp -implicitDefEqProofs only [go_sem, ↓reduceIte, Int.reduceEq, Int.reduceLT, Int.reduceLE, List.reduceReplicate, intA, setT_nil, setT_cons, ↓boolP_bool, ↓iteB_true, ↓iteB_false, hi0, hw, h17, hch.cells, hch.flat, hch.bound, hl.bound, plsV_bound, eq32, heq, trim_at]
            exact ⟨μ3 - 1, by omega, i + 1, _, by omega, by rw [hany]; rfl, rfl, rfl⟩
          · simp -implicitDefEqProofs only [go_sem, ↓reduceIte, Int.reduceEq, Int.reduceLT, Int.reduceLE, List.reduceReplicate, intA, setT_nil, setT_cons, ↓boolP_bool, ↓iteB_true, ↓iteB_false, hi0, hw, h17, hch.cells, hch.flat, hch.bound, hl.bound, plsV_bound, eq32, heq, trim_at]
            exact ⟨μ3 - 1, by omega, i + 1, _, by omega, by rw [hany]; rfl, rfl, rfl⟩
      · obtain rfl : i = (doubtL cs).length := by omega
        rw [List.take_length] at hg
        have hgb : g = b := by
          rw [hg, hb, Bool.eq_iff_iff]
          simp only [List.any_eq_true, decide_eq_true_eq, exists_eq_right]
          obtain ⟨ln, hL, hln⟩ := words_at hx1
          rw [doubtL_mem]
          constructor
          · rintro ⟨c, hc, hp⟩
            have h := stand_doubt hs (hR c hc).cpy hL hln
            rw [decide_eq_true hp] at h
            exact ⟨c, hc, by rw [h]; rfl⟩
          · rintro ⟨c, hc, hp⟩
            have h := stand_doubt hs (hR c hc).cpy hL hln
            rw [h] at hp
            exact ⟨c, hc, by simpa using hp⟩
        subst hgb
        cases g
        · simp -implicitDefEqProofs only [go_sem, ↓reduceIte, Int.reduceEq, Int.reduceLT, Int.reduceLE, List.reduceReplicate, intA, setT_nil, setT_cons, ↓boolP_bool, ↓iteB_true, ↓iteB_false, hlt3, bool4, beq_self_eq_true]
        · simp -implicitDefEqProofs only [go_sem, ↓reduceIte, Int.reduceEq, Int.reduceLT, Int.reduceLE, List.reduceReplicate, intA, setT_nil, setT_cons, ↓boolP_bool, ↓iteB_true, ↓iteB_false, hlt3, bool4, beq_self_eq_true]
end Go.Ev
namespace Go.Ev
open Go.Proofs
set_option maxRecDepth 100000
set_option linter.unusedSimpArgs false
/-! ### lists of copies from arguments of plain data -/
theorem copy_ofP {N : Nat} {A : List AV} (hp : Plain Tryz.prog (N + 5) 53 A) : ∃ c, CpA c (.agg A) := by
  obtain ⟨hl, hf⟩ := plain_struct (l := [(0, 3), (1, 51)]) (by kernel_rfl) (by kernel_rfl) hp
  obtain ⟨a, b, rfl⟩ := two_cells (hl.trans (by kernel_rfl))
  have h0 := hf (0, 3) (by simp)
  have h1 := hf (1, 51) (by simp)
  have e0 : Tryz.prog.cellsOf 3 = 1 := by kernel_rfl
  have e1 : Tryz.prog.cellsOf 51 = 1 := by kernel_rfl
  simp only [e0, e1, List.drop_zero, List.drop_succ_cons, List.take_succ_cons, List.take_zero] at h0 h1
  obtain ⟨m, hm, -⟩ := plain_int (by kernel_rfl : Tryz.prog.underlying 3 = some (.int .i64)) h0
  obtain ⟨y, xs, hy, hsl, hlen, hxs⟩ := plain_slice (c := 5) (by kernel_rfl : Tryz.prog.underlying 51 = some (.slice 65)) (by kernel_rfl) h1
  simp only [List.cons.injEq, and_true] at hm hy
  subst hm
  have key : ∀ z ∈ xs, ∃ r, z = rdV r ∧ RdF r := by
    intro z hz
    obtain ⟨d, rfl, hd5, hd⟩ := hxs z hz
    obtain ⟨a1, a2, a3, a4, a5, rfl⟩ := cells5 hd5
    exact rd_of hd
  obtain ⟨rs, rfl, hrs⟩ := map_of xs key
  exact ⟨(m, rs), b, rfl, by rw [hy]; exact hsl, hrs⟩
theorem copies_of {N : Nat} {x : AV} (h : Arg Tryz.prog (N + 6) 69 x) : ∃ cs zs, SlOf 2 zs x ∧ All2 CpA cs zs := by
  unfold Arg at h
  have hu : Tryz.prog.underlying 69 = some (.slice 53) := by kernel_rfl
  rw [hu] at h
  obtain ⟨y, xs, hy, hsl, hlen, hxs⟩ := plain_slice (c := 2) hu (by kernel_rfl) h
  simp only [List.cons.injEq, and_true] at hy
  subst hy
  have key : ∀ z ∈ xs, ∃ c, CpA c z := by
    intro z hz
    obtain ⟨d, rfl, hd2, hd⟩ := hxs z hz
    obtain ⟨a, b, rfl⟩ := two_cells hd2
    exact copy_ofP hd
  obtain ⟨cs, hcs⟩ := all2_of xs key
  exact ⟨cs, xs, hsl, hcs⟩
end Go.Ev
