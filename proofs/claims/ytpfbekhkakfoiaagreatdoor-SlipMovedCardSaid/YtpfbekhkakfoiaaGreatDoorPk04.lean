/- What the proof of this claim stands on, part 5: an evaluator of the model, proved right, and what it answers for functions of the program. -/
import Derived.Test.YtpfbekhkakfoiaaGreatDoorPk03
import Derived.KernelRfl
import Derived.Lib.Overlaps
import Derived.WalkKit
import Derived.Shelf.Strings.OnBuilder
import Derived.Shelf.Strings.Fields
import Derived.Test.YtpfbekhkakfoiaaGreatDoorProg
set_option linter.unusedSimpArgs false
namespace Go.Ev
open Go.Proofs
set_option maxRecDepth 100000
set_option linter.unusedSimpArgs false
attribute [local irreducible] Wp WpS
def idOf (y : AV) : AV := match y with | .agg (i :: _) => i | _ => .v .nilFunc
def stAt (xs : List AV) (wf : Nat → Nat → AV) (i k : Nat) : St55 := xs.mapIdx fun t y => (idOf y, (List.range (if t < i then (linesOf y).length else if t = i then k else 0)).map (wf t))
theorem cells_set : ∀ {cs : List Cst} {i : Nat} {c0 : Cst}, cs[i]? = some c0 → ∀ (w : AV) (b v : Nat) {x : AV}, x = .sl b v 0 (c0.ls.length + 1) none →
    (cs.flatMap Cst.cells).take (i * 2 + 1) ++ [x] ++ (cs.flatMap Cst.cells).drop (i * 2 + 1 + 1) = (cs.set i ⟨c0.id, c0.ls ++ [w], b, v⟩).flatMap Cst.cells
  | [], _, _, h, _, _, _, _, _ => by simp at h
  | y :: r, 0, c0, h, w, b, v, x, hx => by
    simp at h; subst h; subst hx
    simp [Cst.cells, Cst.sl]
  | y :: r, i + 1, c0, h, w, b, v, x, hx => by
    have ih := cells_set (cs := r) (i := i) (c0 := c0) (by simpa using h) w b v hx
    rw [List.set_cons_succ, List.flatMap_cons, List.flatMap_cons, ← ih]
    rw [show (i + 1) * 2 + 1 = (i * 2 + 1) + 2 by omega]
    show (y.cells ++ _).take _ ++ [x] ++ (y.cells ++ _).drop _ = _
    simp [Cst.cells]
theorem ofV_bound (l : List Rd) : bound (ofV l) = 0 := by cases l <;> rfl
theorem storeLoK {X : Heap} {b v k m e sz : Nat} {g : Bool} {cs : List AV} {x : AV} (hb : b < X.size) (hlk : X.lock ≤ b) (hr : X.row b v = some (m, e, sz, g, cs)) (hx : k + 1 ≤ cs.length) (hf : x.flat = true) (E : List (Option AObj)) :
    storeCells (X.plus E) b v k [x] = some ((X.put b (.cells v (Nat.max m (bound x)) e sz g (splice k [x] cs))).plus E) := by
  unfold storeCells
  rw [rowLo hb, hr]
  have hl : (X.plus E).lock ≤ b := hlk
  have hbl : boundL [x] = bound x := by simp only [boundL]; exact Nat.max_zero _
  simp only [hl, hbl, List.length_singleton, hx, List.all_cons, List.all_nil, hf, Bool.and_true, and_self, if_true, putLo hb]
theorem cells_len : ∀ cs : List Cst, (cs.flatMap Cst.cells).length = 2 * cs.length
  | [] => rfl
  | c :: r => by rw [List.flatMap_cons, List.length_append, cells_len r]; simp [Cst.cells]; omega
theorem cells_get : ∀ {cs : List Cst} {i : Nat} {c : Cst}, cs[i]? = some c → (cs.flatMap Cst.cells)[2 * i + 1]? = some c.sl
  | [], _, _, h => by simp at h
  | x :: r, 0, c, h => by simp at h; subst h; rfl
  | x :: r, i + 1, c, h => by
    rw [List.flatMap_cons, show 2 * (i + 1) + 1 = (2 * i + 1) + 2 by omega, List.getElem?_append_right (by simp [Cst.cells])]
    simpa [Cst.cells] using cells_get (cs := r) (i := i) (by simpa using h)
def okP (xs : List AV) (s : St55) (x : List AV) : Prop := ∃ (i k : Nat) (y z : AV) (c : AV × List AV), xs[i]? = some y ∧ (linesOf y)[k]? = some z ∧ x = [placeA i k 0, z] ∧ s[i]? = some c ∧ c.2.length = k
theorem stAt_get (xs : List AV) (wf : Nat → Nat → AV) (i k t : Nat) : (stAt xs wf i k)[t]? = (xs[t]?).map fun y => (idOf y, (List.range (if t < i then (linesOf y).length else if t = i then k else 0)).map (wf t)) := by
  unfold stAt; rw [List.getElem?_mapIdx]
theorem stp_at {xs : List AV} {wf : Nat → Nat → AV} {i k : Nat} {y : AV} (hy : xs[i]? = some y) (z : AV) : stp55 wf (stAt xs wf i k) [placeA i k 0, z] = (.normal, stAt xs wf i (k + 1)) := by
  unfold stp55 placeA intA
  simp only [Int.toNat_natCast]
  congr 1
  apply List.ext_getElem?
  intro t
  rw [List.getElem?_modify, stAt_get, stAt_get]
  by_cases hti : i = t
  · subst hti; rw [hy]; simp [List.range_succ]
  · cases xs[t]? with
    | none => rfl
    | some w => simp [hti, show ¬ t = i from fun h => hti h.symm]
theorem stAt_next {xs : List AV} {wf : Nat → Nat → AV} {i : Nat} {y : AV} (hy : xs[i]? = some y) : stAt xs wf i (linesOf y).length = stAt xs wf (i + 1) 0 := by
  apply List.ext_getElem?
  intro t
  rw [stAt_get, stAt_get]
  rcases Nat.lt_trichotomy t i with h | h | h
  · simp [h, show t < i + 1 by omega]
  · subst h; rw [hy]; simp
  · cases xs[t]? with
    | none => rfl
    | some w => simp [show ¬ t < i by omega, show ¬ t = i by omega, show ¬ t < i + 1 by omega]
theorem run_line {xs : List AV} {wf : Nat → Nat → AV} {i : Nat} {y : AV} (hy : xs[i]? = some y) (T : List (List AV)) (F : AExit × St55)
    (h : okRun (fun s x => (isGo (stp55 wf s x).1, (stp55 wf s x).2)) (okP xs) T (stAt xs wf i (linesOf y).length) ∧ foldE (stp55 wf) T (stAt xs wf i (linesOf y).length) = F) :
    ∀ (r : List AV) (k : Nat), r = (linesOf y).drop k → k ≤ (linesOf y).length →
      okRun (fun s x => (isGo (stp55 wf s x).1, (stp55 wf s x).2)) (okP xs) (lineIts i k r ++ T) (stAt xs wf i k) ∧ foldE (stp55 wf) (lineIts i k r ++ T) (stAt xs wf i k) = F
  | [], k, hr, hk => by
    have : k = (linesOf y).length := by
      have := congrArg List.length hr
      rw [List.length_drop] at this; simp at this; omega
    subst this; exact h
  | x :: r, k, hr, hk => by
    have hlt : k < (linesOf y).length := by
      have := congrArg List.length hr
      rw [List.length_drop] at this; simp at this; omega
    have hx : (linesOf y)[k]? = some x := by
      rw [List.drop_eq_getElem_cons hlt] at hr
      rw [List.getElem?_eq_getElem hlt, (List.cons.inj hr).1]
    have hr' : r = (linesOf y).drop (k + 1) := by
      rw [List.drop_eq_getElem_cons hlt] at hr; exact (List.cons.inj hr).2
    have ih := run_line hy T F h r (k + 1) hr' hlt
    have hs := stp_at (k := k) (wf := wf) hy x
    refine ⟨⟨⟨i, k, y, x, _, hy, hx, rfl, by rw [stAt_get, hy]; rfl, by simp⟩, fun _ => ?_⟩, ?_⟩
    · show okRun _ _ (lineIts i (k + 1) r ++ T) (stp55 wf (stAt xs wf i k) [placeA i k 0, x]).2
      rw [hs]; exact ih.1
    · show foldE (stp55 wf) ([placeA i k 0, x] :: (lineIts i (k + 1) r ++ T)) _ = _
      rw [foldE_go (by rw [hs]), hs]; exact ih.2
theorem run_chap {xs : List AV} {wf : Nat → Nat → AV} : ∀ (r : List AV) (i : Nat), r = xs.drop i → i ≤ xs.length →
    okRun (fun s x => (isGo (stp55 wf s x).1, (stp55 wf s x).2)) (okP xs) (chapIts i r) (stAt xs wf i 0) ∧ foldE (stp55 wf) (chapIts i r) (stAt xs wf i 0) = (.normal, stAt xs wf xs.length 0)
  | [], i, hr, hi => by
    have : i = xs.length := by
      have := congrArg List.length hr
      rw [List.length_drop] at this; simp at this; omega
    subst this; exact ⟨trivial, rfl⟩
  | y :: r, i, hr, hi => by
    have hlt : i < xs.length := by
      have := congrArg List.length hr
      rw [List.length_drop] at this; simp at this; omega
    rw [List.drop_eq_getElem_cons hlt] at hr
    have hy : xs[i]? = some y := by rw [List.getElem?_eq_getElem hlt, (List.cons.inj hr).1]
    have ih := run_chap (wf := wf) r (i + 1) (List.cons.inj hr).2 hlt
    exact run_line hy (chapIts (i + 1) r) _ (by rw [stAt_next hy]; exact ih) (linesOf y) 0 rfl (Nat.zero_le _)
theorem chId_cs {xs : List AV} (hall : ∀ y ∈ xs, OkCh y) : xs.flatMap chId = (xs.map fun y => (⟨idOf y, [], 0, 0⟩ : Cst)).flatMap Cst.cells := by
  induction xs with
  | nil => rfl
  | cons y r ih =>
    obtain ⟨a, b, c, rfl, -⟩ := hall y (by simp)
    rw [List.flatMap_cons, List.map_cons, List.flatMap_cons, ← ih (fun z hz => hall z (by simp [hz]))]
    rfl
def lnOf (ls : List AV) : AV := if ls = [] then .v (.slice none 0 0) else .vs 1 ls none
def out55 (s : St55) : AV := .agg [.vs 2 (s.map fun c => .agg [c.1, lnOf c.2]) none]
theorem cs0_of {xs : List AV} (hall : ∀ y ∈ xs, OkCh y) (wf : Nat → Nat → AV) : Cs55 (stAt xs wf 0 0) (xs.map fun y => ⟨idOf y, [], 0, 0⟩) 0 := by
  refine ⟨?_, ?_, ?_, ?_, ?_⟩
  · apply List.ext_getElem?
    intro t
    rw [stAt_get, List.map_map, List.getElem?_map]
    cases xs[t]? with
    | none => rfl
    | some w => simp
  · intro c hc h
    obtain ⟨y, hy, rfl⟩ := List.mem_map.1 hc
    exact absurd rfl h
  · intro i j c c' hc _ h
    obtain ⟨y, hy, rfl⟩ := List.mem_map.1 (List.mem_of_getElem? hc)
    exact absurd rfl h
  · intro c hc
    obtain ⟨y, hy, rfl⟩ := List.mem_map.1 hc
    obtain ⟨a, b, d, rfl, -⟩ := hall y hy
    exact ⟨a, rfl⟩
  · intro c hc
    obtain ⟨y, hy, rfl⟩ := List.mem_map.1 hc
    exact ⟨rfl, rfl⟩
theorem rows0 (xs : List AV) : rowsC (xs.map fun y => (⟨idOf y, [], 0, 0⟩ : Cst)) = [] := by
  cases h : rowsC (xs.map fun y => (⟨idOf y, [], 0, 0⟩ : Cst)) with
  | nil => rfl
  | cons p r =>
    obtain ⟨c, hc, hne, -⟩ := rowsC_mem.1 (show p ∈ rowsC _ by rw [h]; simp)
    obtain ⟨y, hy, rfl⟩ := List.mem_map.1 hc
    exact absurd rfl hne
set_option maxHeartbeats 2000000 in
theorem ans55x {e : Exts} (he : Quiet e) (xs : List AV) (ch : AV) (hch : SlOf 2 xs ch) (hall : ∀ y ∈ xs, OkCh y) (hlen : xs.length < 2 ^ 32) (h1 : 1 ≤ xs.length) (id : Int) (l : List Rd) (rs : AV) (hrs : RdsA l rs) (hln : l.length < 2 ^ 32) (wf : Nat → Nat → AV) (hwf : ∀ (i k : Nat) (y z : AV), xs[i]? = some y → (linesOf y)[k]? = some z → Ans (Cx e) 122 [z, ofV (l.filter (atLine i k 0))] (wf i k)) (hwc : ∀ (i k : Nat), (wf i k).flat = true ∧ (wf i k).cells = [wf i k] ∧ bound (wf i k) = 0) (hll : ∀ y ∈ xs, (linesOf y).length < 2 ^ 32) (hlb : ∀ y ∈ xs, ∀ z ∈ linesOf y, bound z = 0) (hx1000 : xs.length ≤ 1000) : Ans (Cx e) 96 [.agg [ch], .agg [intA id, rs]] (out55 (stAt xs wf xs.length 0)) := by
  unfold Ans
  have hrs0 := hrs
  have hrs : SlOf 5 (l.map rdV) rs := hrs
  rw [fn_step (fn_96 e) (show Tryz.f96.body = some _ from rfl)]
  simp -implicitDefEqProofs only [Tryz.f96, go_sem, ↓reduceIte, Int.reduceEq, Int.reduceLT, Int.reduceLE, List.reduceReplicate, intA, setT_nil, setT_cons, hch.cells, hch.flat, hch.bound, hch.len, hrs.cells, hrs.flat, hrs.bound]
  refine Lp_rule (P := fun μ a X => ∃ j, j + μ = xs.length ∧ a = ⟨53, [(0, .agg [ch]), (1, .agg [intA id, rs]), (2, .ptr 0 0 0), (3, .ptr 1 0 0), (4, .ptr 2 0 0), (5, .ptr 3 0 0), (13, ch), (14, intA xs.length), (15, intA j)], []⟩ ∧
    ((j = 0 ∧ X = ⟨[o55 140 [ch], o55 66 [intA id, rs], o55 24 [.v (.slice none 0 0)], o55 24 [.v (.slice none 0 0)]], 0⟩) ∨ ∃ c4 v, 1 ≤ j ∧ X = ⟨[o55 140 [ch], o55 66 [intA id, rs], o55 24 [.v (.slice none 0 0)], some (.cells 0 6 24 1 false [.sl 5 v 0 j none]), some (.cells 0 0 112 1 false c4), some (.cells v 0 112 2 true ((xs.take j).flatMap chId))], 0⟩)) ?_ xs.length _ _ ?_
  · rintro μ _ X ⟨j, hj, rfl, hX⟩
    cases μ with
    | zero =>
      obtain rfl : j = xs.length := by omega
      rcases hX with ⟨h0, -⟩ | ⟨c4, v, hj1, rfl⟩
      · omega
      · simp -implicitDefEqProofs only [go_sem, ↓reduceIte, Int.reduceEq, Int.reduceLT, Int.reduceLE, List.reduceReplicate, intA, setT_nil, setT_cons, Int.lt_irrefl, call64 he ch xs hch, trim_at, hch.bound, hrs.bound, hch.cells, hch.flat]
        refine wp_range2 (yields2_88 ch xs hch hall (by omega)) rfl (R55 xs.length ch id rs c4 v) (stp55 wf) (fun s => s.length = xs.length) (okP xs) (n0 := 6) (k := 0) (Nat.le_refl _) (Nat.zero_le _) ?_ (fun s m h => R55_anch s m h) (fun s m h => R55_free s m h) ?_ ?_ (stAt xs wf 0 0) (base55 xs.length ch id rs c4 v 0 (xs.map fun y => ⟨idOf y, [], 0, 0⟩) ++ rowsC (xs.map fun y => ⟨idOf y, [], 0, 0⟩)) ?_ ?_ ?_ ?_ rfl ?_
        · intro x hx
          obtain ⟨i, y, j, z, -, -, rfl⟩ := chapIts_of _ _ _ hx
          rfl
        · intro s x hs hx _
          obtain ⟨i, k, y, z, c, -, -, rfl, -, -⟩ := hx
          unfold stp55 placeA intA
          simp only [List.length_modify]; exact hs
        · intro L L' s m x X hL hs hx hxl hR hH hd0 hl1 hlk hsz
          obtain ⟨i, k, y, z, c, hy, hz, rfl, hc, hck⟩ := hx
          obtain ⟨cs, m5, hcs, rfl⟩ := hR
          have hsz : 8 ≤ X.size := hsz
          have hl1 : loopObj X 7 = some L := hl1
          have hd0 : X.get 6 = some .dfr := hd0
          generalize hN : X.size = N at *
          have hlkN : X.lock ≤ N := by rw [hlk]; exact Nat.zero_le _
          rw [← plus_nil X]
          simp -implicitDefEqProofs only [placeA, intA, go_sem, ↓reduceIte, Int.reduceEq, Int.reduceLT, Int.reduceLE, List.reduceReplicate, intA, setT_nil, setT_cons, sizeP hN, putP0 hN, putP hN, settleP0 hN, settleP hN, rowP0 hN, rowP hN, storeP0 hN hlkN, storeP hN hlkN]
          refine ⟨rfl, ?_, ?_⟩
          · refine get_loopObj ?_
            rw [plus_get _ (by omega)]; exact loopObj_getI hl1
          · rw [putLo (by omega)]
            have hf := R55_free (n := xs.length) (chv := ch) (id := id) (rs := rs) (c4 := c4) (v5 := v) _ _ ⟨cs, m5, hcs, rfl⟩
            have hH7 := hH.put (.loop L') (b := 7) (by omega) hf.2
            have hN7 : (X.put 7 (.loop L')).size = N := by rw [put_sizeI _ (by omega)]; exact hN
            have hlk7 : (X.put 7 (.loop L')).lock = 0 := hlk
            have hl7 : (X.put 7 (.loop L')).get 7 = some (.loop L') := put_get_eq _ (by omega)
            have hsm7 : ∀ b, b ≠ 7 → (X.put 7 (.loop L')).get b = X.get b := fun b hb => put_get_ne _ (by omega) hb
            generalize X.put 7 (.loop L') = Y at *
            have hlkY : Y.lock ≤ N := by rw [hlk7]; exact Nat.zero_le _
            have h1' : Y.row 1 0 = some (0, 66, 1, false, [intA id, rs]) := get_row (hH7 (1, _) (List.mem_append_left _ (by unfold base55; simp)))
            have h3' : Y.row 3 0 = some (6, 24, 1, false, [.sl 5 v 0 xs.length none]) := get_row (hH7 (3, _) (List.mem_append_left _ (by unfold base55; simp)))
            have h5' : Y.row 5 v = some (m5, 112, 2, true, cs.flatMap Cst.cells) := get_row (hH7 (5, _) (List.mem_append_left _ (by unfold base55; simp)))
            have hi : i < xs.length := (List.getElem?_eq_some_iff.1 hy).1
            have hr1 : ∀ E, (Y.plus E).row 1 0 = some (0, 66, 1, false, [.v (.int .i64 id), rs]) := fun E => by rw [rowLo (by omega)]; exact h1'
            have hr3 : ∀ E, (Y.plus E).row 3 0 = some (6, 24, 1, false, [.sl 5 v 0 xs.length none]) := fun E => by rw [rowLo (by omega)]; exact h3'
            have hr5 : ∀ E, (Y.plus E).row 5 v = some (m5, 112, 2, true, cs.flatMap Cst.cells) := fun E => by rw [rowLo (by omega)]; exact h5'
            have hcl : ∃ c0, cs[i]? = some c0 ∧ c0.id = c.1 ∧ c0.ls = c.2 := by
              have := hcs.st
              rw [← this, List.getElem?_map] at hc
              cases h : cs[i]? with
              | none => rw [h] at hc; exact nomatch hc
              | some c0 => rw [h] at hc; simp only [Option.map_some, Option.some.injEq] at hc; exact ⟨c0, rfl, by rw [← hc], by rw [← hc]⟩
            obtain ⟨c0, hc0, hc1, hc2⟩ := hcl
            have hcell : (cs.flatMap Cst.cells)[2 * i + 1]? = some c0.sl := cells_get hc0
            have hclen : (cs.flatMap Cst.cells).length = 2 * cs.length := cells_len cs
            have hlen5 : cs.length = xs.length := by rw [← hs, ← hcs.st, List.length_map]
            have hii : (0 : Int) ≤ (i : Int) ∧ (i : Int) < ((xs.length : Nat) : Int) := by omega
            have hsx : slIdx 2 (.sl 5 v 0 xs.length none) (.v (.int .i64 (i : Int))) = some (.ptr 5 v (i * 2)) := by
              unfold slIdx
              simp [hii]
            have hcell : (cs.flatMap Cst.cells)[i * 2 + 1]? = some c0.sl := by rw [Nat.mul_comm]; exact hcell
            have hz0 : bound z = 0 := hlb y (List.mem_of_getElem? hy) z (List.mem_of_getElem? hz)
            have hc77 := fun d => (ans77 he l rs hrs0 (by omega) i k 0).callI (me := 96) (d := d) (ext_123 he) (pure_123 _ _ _) (by simp only [boundL_cons, hrs.bound, boundL_nil, intA, bound_agg, bound_v]; rfl)
            have hc76 := fun d => (hwf i k y z hy hz).callI (me := 96) (d := d) (ext_122 he) (pure_122 _ _ _) (by simp only [boundL_cons, hz0, boundL_nil, ofV_bound]; rfl)
            simp only [intA] at hc77
            simp -implicitDefEqProofs only [go_sem, ↓reduceIte, Int.reduceEq, Int.reduceLT, Int.reduceLE, List.reduceReplicate, intA, setT_nil, setT_cons, sizeP hN7, putP0 hN7, putP hN7, settleP0 hN7, settleP hN7, rowP0 hN7, rowP hN7, storeP0 hN7 hlkY, storeP hN7 hlkY, hr1, hr3, hr5, hsx]
            refine wp_drawX [([], [], false), ([], [], false), ([], [], false), ([], [], false), ([], [], false), ([], [], false), ([], [], false), ([4], [], false), ([4, 7], [], false), ([4], [], false), ([4], [], false), ([4], [], false), ([], [11], false), ([], [], false), ([], [], false), ([], [11, 12], false)] (by kernel_rfl) (by kernel_rfl) ?_
            have hnc : nilCk (.ptr 5 v (i * 2)) = some (.ptr 5 v (i * 2)) := rfl
            have hwq := hwc i k
            have hq0 : ltB 5 (N + 1) = true := by unfold ltB; simp; omega
            have hq1 : ltB 0 N = true := by unfold ltB; simp; omega
            have hq2 : ltB N (N + 1) = true := by unfold ltB; simp
            have hq3 : ltB 1 (N + 1) = true := by unfold ltB; simp; omega
            have hq4 : ltB 3 (N + 1) = true := by unfold ltB; simp; omega
            have hfit : fitsA 24 1 = true := by decide
            have hst := fun (x : AV) (hx : x.flat = true) E => storeLoK (X := Y) (b := 5) (v := v) (k := i * 2 + 1) (x := x) (by omega) (by omega) h5' (by rw [hclen]; omega) hx E
            have hst := fun b' v' l' c' E => hst (.sl b' v' 0 l' c') rfl E
            have n13 : N + 1 + 12 = N + 13 := rfl
            by_cases hne : c0.ls = []
            · have hslv : c0.sl = .v (.slice none 0 0) := by unfold Cst.sl; rw [if_pos hne]
              rw [hslv] at hcell
              simp -implicitDefEqProofs only [go_sem, ↓reduceIte, Int.reduceEq, Int.reduceLT, Int.reduceLE, List.reduceReplicate, intA, setT_nil, setT_cons, sizeP hN7, putP0 hN7, putP hN7, settleP0 hN7, settleP hN7, rowP0 hN7, rowP hN7, storeP0 hN7 hlkY, storeP hN7 hlkY, hr1, hr3, hr5, hcell, hc77, hc76, hrs.cells, hrs.flat, hrs.bound, hnc, hwq.1, hwq.2.1, hwq.2.2, hq0, hq1, hq2, hq3, hq4, hfit, hst, List.flatMap_cons, List.flatMap_nil, n13]
              have hmm : ∀ (m5' : Nat), m5' = (if m5 ≤ bound (AV.sl (N + 13) 0 0 1 none) then bound (AV.sl (N + 13) 0 0 1 none) else m5) → N + 13 < m5' ∧ m5 ≤ m5' := fun m5' h => by
                rw [bound_sl] at h; subst h; split <;> omega
              generalize hM5 : (if m5 ≤ bound (AV.sl (N + 13) 0 0 1 none) then bound (AV.sl (N + 13) 0 0 1 none) else m5) = m5' at *
              have hmm := hmm m5' rfl
              have hci := (List.getElem?_eq_some_iff.1 hc0).1
              have hcset : (cs.flatMap Cst.cells).take (i * 2 + 1) ++ [AV.sl (N + 13) 0 0 1 none] ++ (cs.flatMap Cst.cells).drop (i * 2 + 1 + 1) = (cs.set i ⟨c0.id, c0.ls ++ [wf i k], N + 13, 0⟩).flatMap Cst.cells := by
                exact cells_set hc0 (wf i k) (N + 13) 0 (by rw [hne]; rfl)
              rw [hcset]
              have hYN5 : (Y.put 5 (.cells v m5' 112 2 true ((cs.set i ⟨c0.id, c0.ls ++ [wf i k], N + 13, 0⟩).flatMap Cst.cells))).size = N := by rw [put_sizeI _ (by omega)]; exact hN7
              have hstp : stp55 wf s [.agg [.v (.int .i64 (i : Int)), .v (.int .i64 (k : Int)), .v (.int .i64 0)], z] = (.normal, s.modify i fun c => (c.1, c.2 ++ [wf i k])) := by
                unfold stp55; simp only [Int.toNat_natCast]
              rw [hstp, plus_nil]
              refine ⟨rfl, ?_⟩
              refine fin55 hsm7 hl7 hN hN7 hlk hsz hH7 hcs hc0 (N + 13) 0 m5' (wf i k) ⟨hwq.1, hwq.2.2⟩ ?_ ?_ ?_ ?_ ?_ (Or.inl ⟨hne, by omega⟩) hmm.2 hmm.1
              · rw [settle_lo (by omega), plus_get _ (by omega)]; exact put_get_eq _ (by omega)
              · refine settle_some ?_
                rw [plus_get_hi _ (by omega), hYN5, show N + 13 - N = 13 by omega, hne]; rfl
              · intro b hb h5 _
                rw [settle_lo (by omega), plus_get _ (by omega), put_get_ne _ (by omega) h5]
              · rw [settle_lock]; exact hlk7
              · have := settle_size' (n := N + 1) (H := (Y.put 5 (.cells v m5' 112 2 true ((cs.set i ⟨c0.id, c0.ls ++ [wf i k], N + 13, 0⟩).flatMap Cst.cells))).plus [some (.cells 0 0 28 1 false [.v (.int .i64 (i : Int)), .v (.int .i64 (k : Int)), .v (.int .i64 0)]), none, none, none, none, none, none, none, none, none, none, none, none, some (.cells 0 0 87 1 true [wf i k]), none, none, none]) (by rw [plus_size, hYN5]; simp)
                omega
            · have hslv : c0.sl = .sl c0.b c0.v 0 c0.ls.length none := by unfold Cst.sl; rw [if_neg hne]
              rw [hslv] at hcell
              have hcm := List.mem_of_getElem? hc0
              have hlo := hcs.lo c0 hcm hne
              have hgb : Y.get c0.b = some (.cells c0.v 0 87 1 true c0.ls) := hH7 _ (List.mem_append_right _ (rowsC_mem.2 ⟨c0, hcm, hne, rfl⟩))
              have hbN : c0.b < N := by have := get_ltS hgb; omega
              have hrb : ∀ E, (Y.plus E).row c0.b c0.v = some (0, 87, 1, true, c0.ls) := fun E => by rw [rowLo (by omega)]; exact get_row hgb
              have hkl : c0.ls.length < 2 ^ 32 := by
                have h1 := (List.getElem?_eq_some_iff.1 hz).1
                have h2 := hll y (List.mem_of_getElem? hy)
                rw [hc2, hck]; omega
              have happ := fun E slot => appTo_own (H := Y.plus E) (slot := slot) (e := 87) (sz := 1) (b' := 24) (n := 1) (new := [wf i k]) (hrb E) (Nat.mul_one _) (by show Y.lock ≤ _; omega) (by unfold fitsA; exact decide_eq_true (by omega)) (by omega) (by omega)
              have hpl := fun E o => putLo (X := Y) (b := c0.b) (by omega) E o
              have hq5 : ltB c0.b (N + 1) = true := by unfold ltB; simp; omega
              have hsto := fun o (x : AV) (hx : x.flat = true) E => storeLoK (X := Y.put c0.b o) (b := 5) (v := v) (k := i * 2 + 1) (x := x) (by rw [put_sizeI _ (by omega)]; omega) (by show Y.lock ≤ 5; omega) (get_row ((put_get_ne o (by omega) (by omega)).trans (row_of_get h5'))) (by rw [hclen]; omega) hx E
              have hsto := fun o b' v' l' c' E => hsto o (.sl b' v' 0 l' c') rfl E
              simp -implicitDefEqProofs only [go_sem, ↓reduceIte, Int.reduceEq, Int.reduceLT, Int.reduceLE, List.reduceReplicate, intA, setT_nil, setT_cons, sizeP hN7, putP0 hN7, putP hN7, settleP0 hN7, settleP hN7, rowP0 hN7, rowP hN7, storeP0 hN7 hlkY, storeP hN7 hlkY, hr1, hr3, hr5, hcell, hc77, hc76, hrs.cells, hrs.flat, hrs.bound, hnc, hwq.1, hwq.2.1, hwq.2.2, hq0, hq1, hq2, hq3, hq4, hq5, hfit, hst, List.flatMap_cons, List.flatMap_nil, n13, happ, hpl, hsto]
              have hm5 : (if m5 ≤ bound (AV.sl c0.b (c0.v + 1) 0 (c0.ls.length + 1) none) then bound (AV.sl c0.b (c0.v + 1) 0 (c0.ls.length + 1) none) else m5) = m5 := by
                rw [bound_sl]; split <;> omega
              have hcset := cells_set hc0 (wf i k) c0.b (c0.v + 1) rfl
              rw [hm5, hcset]
              have hs1 : (Y.put c0.b (.cells (c0.v + 1) 0 87 1 true (c0.ls ++ [wf i k]))).size = N := by rw [put_sizeI _ (by omega)]; exact hN7
              have hYN5 : ((Y.put c0.b (.cells (c0.v + 1) 0 87 1 true (c0.ls ++ [wf i k]))).put 5 (.cells v m5 112 2 true ((cs.set i ⟨c0.id, c0.ls ++ [wf i k], c0.b, c0.v + 1⟩).flatMap Cst.cells))).size = N := by rw [put_sizeI _ (by omega)]; exact hs1
              have hstp : stp55 wf s [.agg [.v (.int .i64 (i : Int)), .v (.int .i64 (k : Int)), .v (.int .i64 0)], z] = (.normal, s.modify i fun c => (c.1, c.2 ++ [wf i k])) := by
                unfold stp55; simp only [Int.toNat_natCast]
              rw [hstp, plus_nil]
              refine ⟨rfl, ?_⟩
              refine fin55 hsm7 hl7 hN hN7 hlk hsz hH7 hcs hc0 c0.b (c0.v + 1) m5 (wf i k) ⟨hwq.1, hwq.2.2⟩ ?_ ?_ ?_ ?_ ?_ (Or.inr ⟨hne, rfl⟩) (Nat.le_refl _) hlo.2
              · rw [settle_lo (by omega), plus_get _ (by omega)]; exact put_get_eq _ (by omega)
              · rw [settle_lo (by omega), plus_get _ (by omega), put_get_ne _ (by omega) (by omega)]; exact put_get_eq _ (by omega)
              · intro b hb h5 hbb
                rw [settle_lo (by omega), plus_get _ (by omega), put_get_ne _ (by omega) h5, put_get_ne _ (by omega) hbb]
              · rw [settle_lock]; exact hlk7
              · have := settle_size' (n := N + 1) (H := ((Y.put c0.b (.cells (c0.v + 1) 0 87 1 true (c0.ls ++ [wf i k]))).put 5 (.cells v m5 112 2 true ((cs.set i ⟨c0.id, c0.ls ++ [wf i k], c0.b, c0.v + 1⟩).flatMap Cst.cells))).plus [some (.cells 0 0 28 1 false [.v (.int .i64 (i : Int)), .v (.int .i64 (k : Int)), .v (.int .i64 0)]), none, none, none, none, none, none, none, none, none, none, none, none, none, none, none, none]) (by rw [plus_size, hYN5]; simp)
                omega
        · exact (run_chap (wf := wf) xs 0 rfl (Nat.zero_le _)).1
        · unfold stAt; rw [List.length_mapIdx]
        · exact ⟨_, 0, cs0_of hall wf, rfl⟩
        · rw [rows0, List.append_nil]
          intro p hp
          have hcc := chId_cs hall
          rcases base55_lt hp with h | rfl
          · unfold base55 at hp
            simp only [List.mem_cons, List.not_mem_nil, or_false] at hp
            rcases hp with rfl | rfl | rfl | rfl | rfl | rfl
            · rfl
            · rfl
            · rfl
            · rfl
            · rfl
            · simp at h
          · rw [← hcc]; rfl
        · intro m' X hR hH hd0 hd1 hmv hsz
          rw [(run_chap (wf := wf) xs 0 rfl (Nat.zero_le _)).2] at hR ⊢
          obtain ⟨cs, m5, hcs, rfl⟩ := hR
          have hsz : 8 ≤ X.size := hsz
          have hd0 : X.get 6 = some .dfr := hd0
          generalize hN : X.size = N at *
          have hlk : X.lock = 0 := hmv.lock
          have hlkN : X.lock ≤ N := by rw [hlk]; exact Nat.zero_le _
          have h2 : ∀ E, (X.plus E).row 2 0 = some (0, 24, 1, false, [.v (.slice none 0 0)]) := fun E => by rw [rowLo (by omega)]; exact get_row (hH (2, _) (List.mem_append_left _ (by unfold base55; simp)))
          have h3 : ∀ E, (X.plus E).row 3 0 = some (6, 24, 1, false, [.sl 5 v 0 xs.length none]) := fun E => by rw [rowLo (by omega)]; exact get_row (hH (3, _) (List.mem_append_left _ (by unfold base55; simp)))
          have hst := fun (x : AV) (hx : x.flat = true) E => storeLo (X := X) (b := 2) (m := 0) (e := 24) (sz := 1) (g := false) (cs := [.v (.slice none 0 0)]) (xs := [x]) (by omega) (by omega) (by have := h2 []; rwa [plus_nil] at this) rfl (by simp [hx]) E
          have hst := fun b' v' l' c' E => hst (.sl b' v' 0 l' c') rfl E
          rw [← plus_nil X]
          simp -implicitDefEqProofs only [go_sem, ↓reduceIte, Int.reduceEq, Int.reduceLT, Int.reduceLE, List.reduceReplicate, intA, setT_nil, setT_cons, sizeP hN, putP0 hN, putP hN, settleP0 hN, settleP hN, rowP0 hN, rowP hN, storeP0 hN hlkN, storeP hN hlkN, h2, h3, hst]
          generalize hW : settleH N _ = W
          have hwl : W.lock = 0 := by rw [← hW, settle_lock]; exact hlk
          have hwg : ∀ b, b < N → b ≠ 2 → W.get b = X.get b := fun b hb h2 => by
            rw [← hW, settle_lo hb, plus_nil, put_get_ne _ (by omega) h2]
          have hws : N ≤ W.size := by
            rw [← hW]
            refine settle_size' ?_
            rw [plus_nil, put_sizeI _ (by omega)]; omega
          have hw2 : ∃ mm, W.get 2 = some (.cells 0 mm 24 1 false [.sl 5 v 0 xs.length none]) := by
            rw [← hW, settle_lo (by omega), plus_nil]; exact ⟨_, put_get_eq _ (by omega)⟩
          obtain ⟨mm, hw2⟩ := hw2
          have hkill : killAll [6] W = some (W.put 6 .dead) := by
            unfold killAll
            rw [hwg 6 (by omega) (by omega), hd0]
            show (if W.lock ≤ 6 then killAll [] (W.put 6 .dead) else none) = _
            rw [if_pos (by omega)]; rfl
          have hg : ∀ b, b < N → b ≠ 2 → b ≠ 6 → (W.put 6 .dead).get b = X.get b := fun b hb h2 h6 => by
            rw [put_get_ne _ (by omega) h6, hwg b hb h2]
          have hr2 : (W.put 6 .dead).row 2 0 = some (mm, 24, 1, false, [.sl 5 v 0 xs.length none]) := get_row ((put_get_ne _ (by omega) (by omega)).trans hw2)
          have hk6 : (W.put 6 .dead).lock = 0 := hwl
          have hcl : cs.length = xs.length := by
            have := congrArg List.length hcs.st
            rw [List.length_map] at this; rw [this]; unfold stAt; rw [List.length_mapIdx]
          have hr5 : (W.put 6 .dead).row 5 v = some (m5, 112, 2, true, cs.flatMap Cst.cells) := get_row ((hg 5 (by omega) (by omega) (by omega)).trans (hH (5, _) (List.mem_append_left _ base55_five)))
          have hrc : ∀ c ∈ cs, c.ls ≠ [] → (W.put 6 .dead).row c.b c.v = some (0, 87, 1, true, c.ls) := fun c hc hne => by
            have h1 := hH _ (List.mem_append_right _ (rowsC_mem.2 ⟨c, hc, hne, rfl⟩))
            have h2 := hcs.lo c hc hne
            have h3 := get_ltS h1
            simp only at h1 h3
            exact get_row ((hg c.b (by omega) (by omega) (by omega)).trans h1)
          rw [hkill]
          generalize W.put 6 .dead = V at *
          have hfin := freeze_copied hk6 hcs hr5 hrc (by omega)
          rw [hcl] at hfin
          have hout : (AV.agg [.vs 2 (cs.map fun c => .agg [c.id, c.fz]) none]) = out55 (stAt xs wf xs.length 0) := by
            have hst := hcs.st; simp only at hst; unfold out55; rw [← hst, List.map_map]; rfl
          rw [hout] at hfin
          simp -implicitDefEqProofs only [go_sem, ↓reduceIte, Int.reduceEq, Int.reduceLT, Int.reduceLE, List.reduceReplicate, intA, setT_nil, setT_cons, hr2]
          show freezeV { V with lock := 0 } 1000000 _ = _
          have hV : ({ V with lock := 0 } : Heap) = V := by cases V; simp only at hk6; subst hk6; rfl
          rw [hV]; exact hfin
    | succ μ =>
      obtain ⟨y, hy⟩ := at_lt xs j (by omega)
      obtain ⟨cid, l0, lxs, rfl, hl0, hlc, hll⟩ := hall y (List.mem_of_getElem? hy)
      have hlt : (j : Int) < ((xs.length : Nat) : Int) := by omega
      have hw := wrap_succ j (by omega)
      have hix := hch.idx hy
      have ht : (xs.take (j + 1)).flatMap chId = (xs.take j).flatMap chId ++ [intA cid, .v (.slice none 0 0)] := by
        rw [List.take_add_one, hy, List.flatMap_append]; rfl
      have hcl : ((xs.take j).flatMap chId).length = j * 2 := by
        rw [chId_len (fun y hy => by obtain ⟨a, b, c, h, -⟩ := hall y (List.mem_of_mem_take hy); exact ⟨_, _, h⟩), List.length_take]; omega
      have hcb : boundL ((xs.take j).flatMap chId) = 0 := chId_bound (fun y hy => by obtain ⟨a, b, c, h, -⟩ := hall y (List.mem_of_mem_take hy); exact ⟨_, _, h⟩)
      have hf1 : fitsA 32 1 = true := by decide
      rcases hX with ⟨rfl, rfl⟩ | ⟨c4, v, hj1, rfl⟩
      · simp -implicitDefEqProofs only [go_sem, ↓reduceIte, Int.reduceEq, Int.reduceLT, Int.reduceLE, List.reduceReplicate, intA, setT_nil, setT_cons, hlt, hw, hix, hl0.cells, hl0.flat, hl0.bound, List.flatMap_cons, List.flatMap_nil, hf1, bound_sl]
        rw [trim_no4 _ _ 4 3 _ _ _ rfl (by omega) (by show 4 < 6; omega)]
        refine ⟨μ, by omega, 1, by omega, rfl, Or.inr ⟨[intA cid, l0], 0, by omega, ?_⟩⟩
        rw [ht]; rfl
      · simp -implicitDefEqProofs only [go_sem, ↓reduceIte, Int.reduceEq, Int.reduceLT, Int.reduceLE, List.reduceReplicate, intA, setT_nil, setT_cons, hlt, hw, hix, hl0.cells, hl0.flat, hl0.bound, List.flatMap_cons, List.flatMap_nil]
        rw [appTo_own (m := 0) (e' := 112) (cs := (xs.take j).flatMap chId) (by simp [Heap.row, Heap.get]) hcl.symm (Nat.zero_le _) (by unfold fitsA; exact decide_eq_true (by omega)) (by omega) (by omega)]
        simp -implicitDefEqProofs only [go_sem, ↓reduceIte, Int.reduceEq, Int.reduceLT, Int.reduceLE, List.reduceReplicate, intA, setT_nil, setT_cons, bound_sl, trim_at, hch.bound, hrs.bound]
        exact ⟨μ, by omega, j + 1, by omega, rfl, Or.inr ⟨_, v + 1, by omega, by rw [ht]; rfl⟩⟩
  · exact ⟨0, by omega, rfl, Or.inl ⟨rfl, rfl⟩⟩
end Go.Ev
namespace Go.Ev
open Go.Proofs
set_option maxRecDepth 100000
set_option linter.unusedSimpArgs false
attribute [local irreducible] Wp WpS
/-! ### slices that are closed, or lie in memory -/
def SlH (X : Heap) (xs : List AV) (x : AV) : Prop := SlOf 1 xs x ∨ ∃ b v cap m e g cs, x = .sl b v 0 xs.length cap ∧ b < X.size ∧ X.row b v = some (m, e, 1, g, cs) ∧ cs.take xs.length = xs ∧ xs.length ≤ cs.length
theorem SlH.len {X : Heap} {xs : List AV} {x : AV} (h : SlH X xs x) : slLen x = some (.v (.int .i64 xs.length)) := by
  rcases h with h | ⟨b, v, cap, m, e, g, cs, rfl, -⟩
  · exact h.len
  · rfl
theorem SlH.get {X : Heap} {N : Nat} (hN : X.size = N) {xs : List AV} {x : AV} (h : SlH X xs x) {i : Nat} {z : AV} (hz : xs[i]? = some z) (hzc : z.cells = [z]) (k : IntKind) :
    ∃ p, slIdx 1 x (.v (.int k (i : Int))) = some p ∧ (∀ (t : TypeId) E, isAggT Tryz.prog t = some false → sizeT Tryz.prog t = some 1 → loadA Tryz.prog (X.plus E) t p = some z) ∧ ∀ top, N ≤ top → (objsOf p).all (fun c => ltB c top) = true := by
  have hi := (List.getElem?_eq_some_iff.1 hz).1
  rcases h with h | ⟨b, v, cap, m, e, g, cs, rfl, hb, hr, ht, hl⟩
  · refine ⟨.ro z 0, h.idx hz k, fun t E ha hs => ?_, fun _ _ => rfl⟩
    unfold loadA partOf
    rw [ha, hs]
    show z.cells[0]? = some z
    rw [hzc]; rfl
  · refine ⟨.ptr b v (0 + i * 1), ?_, fun t E ha hs => ?_, fun top h => ?_⟩
    · unfold slIdx
      simp; omega
    · have hrow : (X.plus E).row b v = some (m, e, 1, g, cs) := by rw [rowLo hb, hr]
      unfold loadA
      simp only [hrow]
      unfold partOf
      rw [ha, hs]
      simp only
      rw [Nat.zero_add, Nat.mul_one, ← List.getElem?_take_of_lt (j := xs.length) hi, ht, hz]
    · simp only [objsOf, List.all_cons, List.all_nil, Bool.and_true]
      unfold ltB
      simp; omega
theorem SlH.lock {X : Heap} {xs : List AV} {x : AV} (h : SlH X xs x) (k : Nat) : SlH { X with lock := k } xs x := by
  rcases h with h | ⟨b, v, cap, m, e, g, cs, rfl, hb, hr, ht⟩
  · exact Or.inl h
  · exact Or.inr ⟨b, v, cap, m, e, g, cs, rfl, hb, hr, ht⟩
theorem SlH.closed {X : Heap} {xs : List AV} {x : AV} (h : SlH X xs x) (hb : bound x = 0) (Y : Heap) : SlH Y xs x := by
  rcases h with h | ⟨b, v, cap, m, e, g, cs, rfl, -⟩
  · exact Or.inl h
  · simp [bound] at hb
theorem SlH.yld {X : Heap} {xs : List AV} {x : AV} (h : SlH X xs x) : isYld x = false := by
  rcases h with h | ⟨b, v, cap, m, e, g, cs, rfl, -⟩
  · rcases h with ⟨rfl, _⟩ | ⟨c, rfl⟩ <;> rfl
  · rfl
/-- a call that hands back what is no address, on memory that it leaves -/
theorem callA_still {C : Cfg} {me f : FuncId} {d : Option Tmp} {args : List AV} {X : Heap} {w : Value} (hx : C.ext f = none) (hp : C.pure me f d = true) (hy : args.any isYld = false)
    (h1 : boundL args = 0 → Fn' C f args { objs := [], lock := 0 } (fun v _ => v = .v w)) (h2 : Fn' C f args { X with lock := X.size } (fun v _ => v = .v w)) (hh : C.exh f = none := by rfl) : callA C (lim C) me f d args X = some (.v w, X) := by
  rw [callA_none hx hh]; unfold callB callKind
  simp only [hp, if_true]
  by_cases hb : boundL args = 0
  · have h1 := h1 hb
    unfold Fn' at h1
    rw [bindO_iff] at h1
    obtain ⟨o, h3, h4⟩ := h1
    rw [if_pos (by rw [hb]; rfl)]
    cases o with
    | ret v H => obtain rfl : v = .v w := h4; simp only [h3]; rfl
    | _ => exact h4.elim
  · unfold Fn' at h2
    rw [bindO_iff] at h2
    obtain ⟨o, h3, h4⟩ := h2
    rw [if_neg (fun h => hb (Nat.eq_of_beq_eq_true h)), hy]
    simp only [Bool.false_eq_true, if_false]
    cases o with
    | ret v H => obtain rfl : v = .v w := h4; simp only [h3]; rfl
    | _ => exact h4.elim
end Go.Ev
namespace Go.Ev
open Go.Proofs
set_option maxRecDepth 100000
set_option linter.unusedSimpArgs false
attribute [local irreducible] Wp WpS
theorem drop_eq_cons {α : Type} {xs : List α} {j : Nat} {x : α} (h : xs[j]? = some x) : xs.drop j = x :: xs.drop (j + 1) := by
  obtain ⟨hj, rfl⟩ := List.getElem?_eq_some_iff.1 h
  exact List.drop_eq_getElem_cons hj
theorem trimP0 {X : Heap} {N : Nat} (hN : X.size = N) (vs : List AV) (ms : List Nat) : (X.plus []).trim N vs ms = X.plus [] := by rw [plus_nil, ← hN, trim_size]
theorem isAgg9 : isAggT Tryz.prog 9 = some false := by kernel_rfl
end Go.Ev
namespace Go.Ev
open Go.Proofs
set_option maxRecDepth 100000
set_option linter.unusedSimpArgs false
attribute [local irreducible] Wp WpS
end Go.Ev
namespace Go.Ev
open Go.Proofs
set_option maxRecDepth 100000
set_option linter.unusedSimpArgs false
attribute [local irreducible] Wp WpS
def greatCB (l : List Rd) : Bool := decide (30 < l.length) || l.any fun r => decide (40 < r.word.size)
theorem any_cons_drop {α : Type} {xs : List α} {j : Nat} {x : α} (h : xs[j]? = some x) (p : α → Bool) : (xs.drop j).any p = (p x || (xs.drop (j + 1)).any p) := by rw [drop_eq_cons h]; rfl
set_option maxHeartbeats 2000000 in
theorem ans56 {e : Exts} (id : Int) (l : List Rd) (x : AV) (hx : RdsA l x) : Ans (Cx e) 57 [.agg [intA id, x]] (.v (.bool (greatCB l))) := by
  have hx : SlOf 5 (l.map rdV) x := hx
  unfold Ans
  rw [fn_step (fn_57 e) (show Tryz.f57.body = some _ from rfl)]
  by_cases hl : 30 < (l.length : Int)
  · have hg : greatCB l = true := by unfold greatCB; rw [decide_eq_true (by omega)]; rfl
    simp -implicitDefEqProofs only [Tryz.f57, go_sem, ↓reduceIte, Int.reduceEq, Int.reduceLT, Int.reduceLE, List.reduceReplicate, intA, setT_nil, setT_cons, hx.len, hx.cells, hx.flat, hx.bound, List.length_map, hl]
    rw [hg]
  · have hg : greatCB l = l.any fun r => decide (40 < r.word.size) := by unfold greatCB; rw [decide_eq_false (by omega)]; rfl
    simp -implicitDefEqProofs only [Tryz.f57, go_sem, ↓reduceIte, Int.reduceEq, Int.reduceLT, Int.reduceLE, List.reduceReplicate, intA, setT_nil, setT_cons, hx.len, hx.cells, hx.flat, hx.bound, List.length_map, hl]
    refine Lp_rule (P := fun μ a' H => ∃ j, j ≤ l.length ∧ l.length = j + μ ∧ a' = ⟨23, [(0, .agg [intA id, x]), (1, .ptr 0 0 0), (2, .v (.bool false)), (7, .v (.bool false)), (3, intA j)], []⟩ ∧ H = ⟨[some (.cells 0 0 66 1 false [intA id, x])], 0⟩ ∧ greatCB l = (l.drop j).any fun r => decide (40 < r.word.size)) ?_ l.length _ _ ⟨0, by omega, by omega, rfl, rfl, hg⟩
    rintro μ _ _ ⟨j, hj1, hj2, rfl, rfl, ho⟩
    by_cases hlt : (j : Int) < (l.length : Int)
    · obtain ⟨r, hr⟩ := at_lt l j (by omega)
      have hw := wrap_succ j (by omega)
      have hi := hx.idx (rds_get hr)
      unfold rdV at hi
      rw [any_cons_drop hr] at ho
      by_cases hs : 40 < (r.word.size : Int)
      · have h0 : greatCB l = true := by rw [ho, decide_eq_true (by omega)]; rfl
        simp -implicitDefEqProofs only [go_sem, ↓reduceIte, Int.reduceEq, Int.reduceLT, Int.reduceLE, List.reduceReplicate, intA, setT_nil, setT_cons, hx.len, List.length_map, hlt, hw, hi, hs]
        rw [h0]
      · have h0 : greatCB l = (l.drop (j + 1)).any fun r => decide (40 < r.word.size) := by rw [ho, decide_eq_false (by omega)]; rfl
        simp -implicitDefEqProofs only [go_sem, ↓reduceIte, Int.reduceEq, Int.reduceLT, Int.reduceLE, List.reduceReplicate, intA, setT_nil, setT_cons, hx.len, List.length_map, hlt, hw, hi, hs, trim_at, hx.bound]
        exact ⟨μ - 1, by omega, j + 1, by omega, by omega, rfl, rfl, h0⟩
    · have h0 : greatCB l = false := by rw [ho, show l.drop j = [] from List.drop_eq_nil_of_le (by omega)]; rfl
      simp -implicitDefEqProofs only [go_sem, ↓reduceIte, Int.reduceEq, Int.reduceLT, Int.reduceLE, List.reduceReplicate, intA, setT_nil, setT_cons, hx.len, List.length_map, hlt]
      rw [h0]
theorem call56 {e : Exts} (he : Quiet e) (id : Int) (l : List Rd) (x : AV) (hx : RdsA l x) (me : FuncId) (d : Option Tmp) (H : Heap) : callA (Cx e) (lim (Cx e)) me 57 d [.agg [.v (.int .i64 id), x]] H = some (.v (.bool (greatCB l)), H) :=
  (ans56 id l x hx).call (ext_57 he) (pure_57 _ _ _) (by simp only [boundL_cons, bound_agg, intA, bound_v, SlOf.bound hx, boundL_nil]; rfl) H
end Go.Ev
namespace Go.Ev
open Go.Proofs
set_option maxRecDepth 100000
set_option linter.unusedSimpArgs false
attribute [local irreducible] Wp WpS
/-- a reading of the reference -/
def readB (t : Txt) (r : Rd) : Bool := match lineAt t r.ch r.ln with | none => false | some l => if r.kind = 1 then fits1 l r else if r.kind = 2 then fits2 l r else if r.kind = 3 then fits3 l r else false
theorem callI61 {e : Exts} (he : Quiet e) (s : ByteArray) (hn : s.size < 2 ^ 63) (me : FuncId) (d : Option Tmp) : callI (Cx e) me 89 d [.v (.string s)] = some (.v (.bool (wordB s))) :=
  (ans61 he s hn).callI (ext_89 he) (pure_89 _ _ _) rfl
theorem bin_eq8 (x y : Operand) (m n : Int) : binA Tryz.prog .eql 5 x y (.v (.int .u8 m)) (.v (.int .u8 n)) = some (.v (.bool (decide (m = n)))) := bin_eql m n
set_option maxHeartbeats 2000000 in
theorem ans78 {e : Exts} (he : Quiet e) (t : Txt) (ht : Fits t) (ch : AV) (xs : List AV) (hch : SlOf 2 xs ch) (hall : All2 ChapA t xs) (r : Rd) (hr : RdF r) : Ans (Cx e) 93 [.agg [ch], rdV r] (.v (.bool (readB t r))) := by
  obtain ⟨y, hy, hc⟩ := call42 he t ht ch xs hch hall r.ch r.ln r.wd
  unfold Ans
  rw [fn_step (fn_93 e) (show Tryz.f93.body = some _ from rfl)]
  cases hL : lineAt t r.ch r.ln with
  | none =>
    rw [hL] at hc hy
    simp only [LineO] at hy
    subst hy
    have hB : readB t r = false := by unfold readB; rw [hL]
    rw [hB]
    simp -implicitDefEqProofs only [Tryz.f93, rdV, go_sem, ↓reduceIte, Int.reduceEq, Int.reduceLT, Int.reduceLE, List.reduceReplicate, intA, setT_nil, setT_cons, hch.cells, hch.flat, hch.bound, hc, Option.isSome_none]
  | some ln =>
    rw [hL] at hc hy
    have hy : SlOf 1 (strs ln) y := hy
    obtain ⟨cp, hcm, hlm⟩ := lineAt_mem hL
    have hll := ht.words cp hcm ln hlm
    have hw1 : IntKind.i64.wrap ((ln.length : Int) - 1) = (ln.length : Int) - 1 := wrap_in _ (by omega) (by omega)
    have h43 := call43 he r.wd 0 ((ln.length : Int) - 1)
    rw [within_len] at h43
    have h43' := call43 he r.wd 0 (ln.length : Int)
    have hi43 := callI43 he r.wd 0 ((ln.length : Int) - 1)
    rw [within_len] at hi43
    have h61 := call61 he r.word hr.word
    have hi61 := callI61 he r.word hr.word
    have hB : readB t r = (if r.kind = 1 then fits1 ln r else if r.kind = 2 then fits2 ln r else if r.kind = 3 then fits3 ln r else false) := by unfold readB; rw [hL]
    rw [hB]
    cases k1 : decide (r.kind = 1)
    · have n1 : ¬ r.kind = 1 := of_decide_eq_false k1
      rw [if_neg n1]
      cases k2 : decide (r.kind = 2)
      · have n2 : ¬ r.kind = 2 := of_decide_eq_false k2
        rw [if_neg n2]
        cases k3 : decide (r.kind = 3)
        · rw [if_neg (of_decide_eq_false k3)]
          simp -implicitDefEqProofs only [Tryz.f93, rdV, go_sem, ↓reduceIte, Int.reduceEq, Int.reduceLT, Int.reduceLE, List.reduceReplicate, intA, setT_nil, setT_cons, hch.cells, hch.flat, hch.bound, hc, Option.isSome_some, hy.cells, hy.flat, hy.bound, bin_eq8, k1, k2, k3]
        · rw [if_pos (of_decide_eq_true k3)]
          unfold fits3
          simp -implicitDefEqProofs only [Tryz.f93, rdV, go_sem, ↓reduceIte, Int.reduceEq, Int.reduceLT, Int.reduceLE, List.reduceReplicate, intA, setT_nil, setT_cons, hch.cells, hch.flat, hch.bound, hc, Option.isSome_some, hy.cells, hy.flat, hy.bound, bin_eq8, k1, k2, k3]
          refine wp_drawX [([], [], false), ([], [], false), ([], [], false), ([], [], false), ([2], [], false), ([], [], false), ([], [], false), ([], [], false), ([], [], false), ([], [], false), ([], [], false), ([], [], false), ([], [], false), ([], [], false), ([], [], false), ([], [], false), ([], [], false), ([], [], false), ([14], [], false), ([], [], false), ([14], [], false), ([], [], false), ([], [], false), ([], [], false)] (by kernel_rfl) (by kernel_rfl) ?_
          by_cases h1 : 0 ≤ r.wd ∧ r.wd < ln.length
          · rw [decide_eq_true h1] at hi43 ⊢
            obtain ⟨w, hwn⟩ : ∃ n : Nat, r.wd = n := ⟨r.wd.toNat, by omega⟩
            obtain ⟨s, hs⟩ := at_lt ln w (by omega)
            have hi := hy.idx (strs_get hs)
            rw [hwn] at hi43 ⊢
            have ha : at0 ln w = s := by unfold at0; rw [Int.toNat_natCast, hs]; rfl
            cases h2 : wordB r.word
            · rw [h2] at hi61
              simp -implicitDefEqProofs only [go_sem, ↓reduceIte, Int.reduceEq, Int.reduceLT, Int.reduceLE, List.reduceReplicate, intA, setT_nil, setT_cons, hy.len, hy.lenI, strs_len, hw1, hi43, hi61]
            · rw [h2] at hi61
              simp -implicitDefEqProofs only [go_sem, ↓reduceIte, Int.reduceEq, Int.reduceLT, Int.reduceLE, List.reduceReplicate, intA, setT_nil, setT_cons, hy.len, hy.lenI, strs_len, hw1, hi43, hi61, hi, bin_sne, ha]
          · rw [decide_eq_false h1] at hi43 ⊢
            simp -implicitDefEqProofs only [go_sem, ↓reduceIte, Int.reduceEq, Int.reduceLT, Int.reduceLE, List.reduceReplicate, intA, setT_nil, setT_cons, hy.len, hy.lenI, strs_len, hw1, hi43]
      · rw [if_pos (of_decide_eq_true k2)]
        unfold fits2
        cases h1 : withinB 0 ln.length [r.wd]
        · rw [h1] at h43'
          simp -implicitDefEqProofs only [Tryz.f93, rdV, go_sem, ↓reduceIte, Int.reduceEq, Int.reduceLT, Int.reduceLE, List.reduceReplicate, intA, setT_nil, setT_cons, hch.cells, hch.flat, hch.bound, hc, Option.isSome_some, hy.cells, hy.flat, hy.bound, hy.len, strs_len, bin_eq8, k1, k2, h43']
        · rw [h1] at h43'
          simp -implicitDefEqProofs only [Tryz.f93, rdV, go_sem, ↓reduceIte, Int.reduceEq, Int.reduceLT, Int.reduceLE, List.reduceReplicate, intA, setT_nil, setT_cons, hch.cells, hch.flat, hch.bound, hc, Option.isSome_some, hy.cells, hy.flat, hy.bound, hy.len, strs_len, bin_eq8, k1, k2, h43', h61]
    · rw [if_pos (of_decide_eq_true k1)]
      unfold fits1
      cases h1 : decide (0 ≤ r.wd ∧ r.wd < ln.length)
      · rw [h1] at h43
        simp -implicitDefEqProofs only [Tryz.f93, rdV, go_sem, ↓reduceIte, Int.reduceEq, Int.reduceLT, Int.reduceLE, List.reduceReplicate, intA, setT_nil, setT_cons, hch.cells, hch.flat, hch.bound, hc, Option.isSome_some, hy.cells, hy.flat, hy.bound, hy.len, strs_len, bin_eq8, k1, hw1, h43]
      · rw [h1] at h43
        simp -implicitDefEqProofs only [Tryz.f93, rdV, go_sem, ↓reduceIte, Int.reduceEq, Int.reduceLT, Int.reduceLE, List.reduceReplicate, intA, setT_nil, setT_cons, hch.cells, hch.flat, hch.bound, hc, Option.isSome_some, hy.cells, hy.flat, hy.bound, hy.len, strs_len, bin_eq8, k1, hw1, h43, bin_seq]
        rfl
end Go.Ev
namespace Go.Ev
open Go.Proofs
set_option maxRecDepth 100000
set_option linter.unusedSimpArgs false
attribute [local irreducible] Wp WpS
/-! ### a line of a copy, by the reference -/
def refI (k n w : Int) (s : List ByteArray × ByteArray) (r : Rd) : List ByteArray × ByteArray :=
  if r.ch = k ∧ r.ln = n ∧ r.wd = w then if r.kind = 2 then (s.1 ++ [r.word], s.2) else (s.1, r.word) else s
def refW (l : Line) (rs : List Rd) (k n : Int) (ds : List ByteArray) (w : Nat) : List ByteArray :=
  let s := rs.foldl (refI k n w) (ds, (l[w]?).getD emp)
  if s.2 = emp then s.1 else s.1 ++ [s.2]
def refLine (l : Line) (rs : List Rd) (k n : Int) : List ByteArray := (List.range (l.length + 1)).foldl (refW l rs k n) []
structure M79 (id : Int) (x : AV) (H : Heap) (ds : List ByteArray) (out : AV) : Prop where
  lock : H.lock = 0
  size : 2 ≤ H.size
  b1 : H.get 1 = some (.cells 0 0 66 1 false [.v (.int .i64 id), x])
  done : DoneR H ds out
theorem M79.row1 {id : Int} {x : AV} {H : Heap} {ds : List ByteArray} {out : AV} (h : M79 id x H ds out) (E : List (Option AObj)) : (H.plus E).row 1 0 = some (0, 66, 1, false, [.v (.int .i64 id), x]) := by
  rw [rowLo (by have := h.size; omega)]; exact get_row h.b1
theorem M79.plus {id : Int} {x : AV} {H : Heap} {ds : List ByteArray} {out : AV} (h : M79 id x H ds out) (E : List (Option AObj)) : M79 id x (H.plus E) ds out :=
  ⟨h.lock, by have := h.size; rw [plus_size]; omega, (plus_get E (by have := h.size; omega)).trans h.b1, h.done.plus E⟩
theorem M79.trim {id : Int} {x : AV} {H : Heap} {ds : List ByteArray} {out : AV} (h : M79 id x H ds out) {n : Nat} (hn : 2 ≤ n) (hn2 : n ≤ H.size) (vs : List AV) (ms : List Nat) (hv : bound out ≤ boundL vs) : M79 id x (H.trim n vs ms) ds out := by
  refine ⟨trim_lock.trans h.lock, Nat.le_trans hn (trim_size' hn2), (trim_lo (by omega)).trans h.b1, ?_⟩
  rcases h.done with hd | ⟨b, v, h1, h2, rfl, h4⟩
  · exact Or.inl hd
  · unfold Heap.trim
    split
    · rename_i hq
      rw [Bool.and_eq_true, Bool.and_eq_true, Bool.and_eq_true, Nat.ble_eq] at hq
      have h5 := hq.1.1.1
      have hb : b < n := by simp only [bound] at hv; omega
      have hg := (takeH_get (H := H) hb).trans (row_of_get h4)
      exact Or.inr ⟨b, v, h1, get_size hg, rfl, get_row hg⟩
    · exact Or.inr ⟨b, v, h1, h2, rfl, h4⟩
theorem M79.more {id : Int} {x : AV} {H : Heap} {ds : List ByteArray} {b v : Nat} (h : M79 id x H ds (.sl b v 0 ds.length none)) (hb : b < H.size) (hr : H.row b v = some (0, 9, 1, true, strs ds)) (s : List ByteArray) (n : Nat) (hn : n = ds.length + s.length) : M79 id x (H.put b (.cells (v + 1) 0 9 1 true (strs (ds ++ s)))) (ds ++ s) (.sl b (v + 1) 0 n none) := by
  have hne : 1 ≠ b := by
    rintro rfl
    have := (row_of_get hr).symm.trans h.b1
    simp at this
  refine ⟨h.lock, by rw [put_sizeI _ hb]; exact h.size, (put_get_ne _ (by have := h.size; omega) hne).trans h.b1, Or.inr ⟨b, v + 1, ?_, by rw [put_sizeI _ hb]; exact hb, by rw [hn, List.length_append], row_put_same hb⟩⟩
  have := h.lock
  show H.lock ≤ b
  omega
theorem M79.new {id : Int} {x : AV} {H : Heap} {ds : List ByteArray} {out : AV} (h : M79 id x H ds out) {N : Nat} (hN : H.size = N) (E : List (Option AObj)) (k : Nat) (ds' : List ByteArray) (hE : E[k]? = some (some (.cells 0 0 9 1 true (strs ds')))) : M79 id x (H.plus E) ds' (.sl (N + k) 0 0 ds'.length none) := by
  have hk := (List.getElem?_eq_some_iff.1 hE).1
  refine ⟨h.lock, by have := h.size; rw [plus_size]; omega, (plus_get E (by have := h.size; omega)).trans h.b1, Or.inr ⟨N + k, 0, ?_, by rw [plus_size]; omega, rfl, ?_⟩⟩
  · have := h.lock
    show H.lock ≤ _
    omega
  · rw [rowP hN, hE]; rfl
theorem le_boundL {v : AV} : ∀ {vs : List AV}, v ∈ vs → bound v ≤ boundL vs
  | a :: r, h => by
    rw [boundL_cons]
    rcases List.mem_cons.1 h with rfl | h
    · exact Nat.le_max_left _ _
    · exact Nat.le_trans (le_boundL h) (Nat.le_max_right _ _)
theorem fitsA1 : fitsA 16 1 = true := by decide
noncomputable def bodyI79 : Code := ((Tryz.f94.body.map loops).getD [])[1]?.getD .skip
def T79 (ch x lx : AV) (id k n w : Int) (b33 : Bool) (out : AV) (own : ByteArray) (i : Int) : List (Tmp × AV) :=
  [(0, .agg [ch]), (1, .agg [.v (.int .i64 id), x]), (2, .v (.int .i64 k)), (3, .v (.int .i64 n)), (4, .ptr 0 0 0), (5, .ptr 1 0 0), (8, .v (.slice none 0 0)), (9, out), (10, lx), (11, .v (.int .i64 w)), (27, .v (.bool true)), (12, .v (.string own)), (33, .v (.bool b33)), (13, .v (.int .i64 i))]
set_option maxHeartbeats 4000000 in
theorem inner79 {e : Exts} (rs : List Rd) (x : AV) (hx : SlOf 5 (rs.map rdV) x) (ch lx : AV) (id k n w : Int) (b33 : Bool) (ds0 : List ByteArray) (own0 : ByteArray) (K : Post)
    (hK : ∀ H out, M79 id x H (rs.foldl (refI k n w) (ds0, own0)).1 out → AtK K (.exit 2) ⟨86, T79 ch x lx id k n w b33 out (rs.foldl (refI k n w) (ds0, own0)).2 rs.length, []⟩ H)
    (X : Heap) (out0 : AV) (hM0 : M79 id x X ds0 out0) (hlen : ds0.length + rs.length < 2 ^ 32) :
    Lp (Cx e) 94 none [0, 1, 2, 3, 4, 5, 8, 9, 10, 11, 27, 12, 33, 13] bodyI79 ⟨86, T79 ch x lx id k n w b33 out0 own0 0, []⟩ X K := by
  refine Lp_ruleQ (P := fun μ a H => ∃ (i : Nat) (s : List ByteArray × ByteArray) (out : AV), i + μ = rs.length ∧ s = (rs.take i).foldl (refI k n w) (ds0, own0) ∧ s.1.length ≤ ds0.length + i ∧ a = ⟨86, T79 ch x lx id k n w b33 out s.2 i, []⟩ ∧ M79 id x H s.1 out) ?_ rs.length _ _ ⟨0, (ds0, own0), out0, by omega, rfl, Nat.le_refl _, rfl, hM0⟩
  rintro Q KK hQ hKK μ _ Y ⟨i, ⟨ds, own⟩, out, hi0, hs, hsl, rfl, hM⟩
  unfold bodyI79 T79
  simp only [Tryz.f94, loops, Option.map_some, Option.getD_some, List.nil_append, List.append_nil, List.cons_append, List.getElem?_cons_zero, List.getElem?_cons_succ]
  obtain ⟨N, hN⟩ : ∃ N, Y.size = N := ⟨_, rfl⟩
  have hlk : Y.lock ≤ N := by have := hM.lock; omega
  have hr1 := hM.row1
  by_cases hlt : (i : Int) < (rs.length : Int)
  · obtain ⟨r, hr⟩ := at_lt rs i (by omega)
    have hw := wrap_succ i (by omega)
    have hir := hx.idx (rds_get hr)
    unfold rdV at hir
    have ht : (rs.take (i + 1)).foldl (refI k n w) (ds0, own0) = refI k n w (ds, own) r := by
      rw [List.take_add_one, hr, List.foldl_append, ← hs]; rfl
    rw [← plus_nil Y]
    have hn2 : 2 ≤ N := by have := hM.size; omega
    have stay : refI k n w (ds, own) r = (ds, own) → ∀ E : List (Option AObj), Again Q μ ⟨86, T79 ch x lx id k n w b33 out own (i + 1 : Nat), []⟩ ((Y.plus E).trim N ((T79 ch x lx id k n w b33 out own (i + 1 : Nat)).map (·.2)) []) := fun hq E =>
      ⟨μ - 1, by omega, hQ _ _ _ ⟨i + 1, (ds, own), out, by omega, (ht.trans hq).symm, by simp only at hsl ⊢; omega, rfl, (hM.plus E).trim hn2 (by rw [plus_size]; omega) _ _ (le_boundL (by simp [T79]))⟩⟩
    cases h1 : decide (r.ch = k)
    · simp -implicitDefEqProofs only [go_sem, ↓reduceIte, Int.reduceEq, Int.reduceLT, Int.reduceLE, List.reduceReplicate, intA, setT_nil, setT_cons, hr1, hx.len, List.length_map, hlt, hw, hir, h1, sizeP hN, putP0 hN, putP hN, settleP0 hN, settleP hN, rowP0 hN, rowP hN, storeP0 hN hlk, storeP hN hlk, List.length_nil, Nat.add_zero]
      exact stay (by unfold refI; rw [if_neg (fun h => of_decide_eq_false h1 h.1)]) _
    cases h2 : decide (r.ln = n)
    · simp -implicitDefEqProofs only [go_sem, ↓reduceIte, Int.reduceEq, Int.reduceLT, Int.reduceLE, List.reduceReplicate, intA, setT_nil, setT_cons, hr1, hx.len, List.length_map, hlt, hw, hir, h1, h2, sizeP hN, putP0 hN, putP hN, settleP0 hN, settleP hN, rowP0 hN, rowP hN, storeP0 hN hlk, storeP hN hlk, List.length_nil, Nat.add_zero]
      exact stay (by unfold refI; rw [if_neg (fun h => of_decide_eq_false h2 h.2.1)]) _
    cases h3 : decide (r.wd = w)
    · simp -implicitDefEqProofs only [go_sem, ↓reduceIte, Int.reduceEq, Int.reduceLT, Int.reduceLE, List.reduceReplicate, intA, setT_nil, setT_cons, hr1, hx.len, List.length_map, hlt, hw, hir, h1, h2, h3, sizeP hN, putP0 hN, putP hN, settleP0 hN, settleP hN, rowP0 hN, rowP hN, storeP0 hN hlk, storeP hN hlk, List.length_nil, Nat.add_zero]
      exact stay (by unfold refI; rw [if_neg (fun h => of_decide_eq_false h3 h.2.2)]) _
    have hat : r.ch = k ∧ r.ln = n ∧ r.wd = w := ⟨of_decide_eq_true h1, of_decide_eq_true h2, of_decide_eq_true h3⟩
    cases h4 : decide (r.kind = 2)
    · have hq : refI k n w (ds, own) r = (ds, r.word) := by unfold refI; rw [if_pos hat, if_neg (of_decide_eq_false h4)]
      simp -implicitDefEqProofs only [go_sem, ↓reduceIte, Int.reduceEq, Int.reduceLT, Int.reduceLE, List.reduceReplicate, intA, setT_nil, setT_cons, hr1, hx.len, List.length_map, hlt, hw, hir, h1, h2, h3, bin_eq8, h4, sizeP hN, putP0 hN, putP hN, settleP0 hN, settleP hN, rowP0 hN, rowP hN, storeP0 hN hlk, storeP hN hlk, List.length_nil, Nat.add_zero]
      exact ⟨μ - 1, by omega, hQ _ _ _ ⟨i + 1, (ds, r.word), out, by omega, (ht.trans hq).symm, by simp only at hsl ⊢; omega, rfl, (hM.plus _).trim hn2 (by rw [plus_size]; omega) _ _ (le_boundL (by simp))⟩⟩
    have hq : refI k n w (ds, own) r = (ds ++ [r.word], own) := by unfold refI; rw [if_pos hat, if_pos (of_decide_eq_true h4)]
    rcases hM.done with ⟨hd, ho⟩ | ⟨b, v, hb1, hb2, ho, hrow⟩
    · simp only at hd ho
      subst hd ho
      simp -implicitDefEqProofs only [go_sem, ↓reduceIte, Int.reduceEq, Int.reduceLT, Int.reduceLE, List.reduceReplicate, intA, setT_nil, setT_cons, hr1, hx.len, List.length_map, hlt, hw, hir, h1, h2, h3, bin_eq8, h4, fitsA1, List.flatMap_cons, List.flatMap_nil, sizeP hN, putP0 hN, putP hN, settleP0 hN, settleP hN, rowP0 hN, rowP hN, storeP0 hN hlk, storeP hN hlk, List.length_nil, Nat.add_zero]
      have hnew := hM.new hN [some (.cells 0 0 105 1 false [.v (.int .i64 r.ch), .v (.int .i64 r.ln), .v (.int .i64 r.wd), .v (.int .u8 r.kind), .v (.string r.word)]), some (.cells 0 0 9 1 true [.v (.string r.word)])] 1 [r.word] rfl
      exact ⟨μ - 1, by omega, hQ _ _ _ ⟨i + 1, ([] ++ [r.word], own), .sl (N + 1) 0 0 1 none, by omega, (ht.trans hq).symm, by simp only [List.nil_append, List.length_cons, List.length_nil] at hsl ⊢; omega, rfl, hnew.trim hn2 (by rw [plus_size]; omega) _ _ (le_boundL (by simp))⟩⟩
    · simp only at ho hrow
      subst ho
      simp -implicitDefEqProofs only [go_sem, ↓reduceIte, Int.reduceEq, Int.reduceLT, Int.reduceLE, List.reduceReplicate, intA, setT_nil, setT_cons, hr1, hx.len, List.length_map, hlt, hw, hir, h1, h2, h3, bin_eq8, h4, List.flatMap_cons, List.flatMap_nil, sizeP hN, putP0 hN, putP hN, settleP0 hN, settleP hN, rowP0 hN, rowP hN, storeP0 hN hlk, storeP hN hlk, List.length_nil, Nat.add_zero]
      have hrp : ∀ E, (Y.plus E).row b v = some (0, 9, 1, true, strs ds) := fun E => by rw [rowLo hb2]; exact hrow
      have hf : fitsA 16 (ds.length + 1) = true := by unfold fitsA; exact decide_eq_true (by simp only at hsl; omega)
      have hmore := hM.more hb2 hrow [r.word] (ds.length + 1) rfl
      rw [appTo_own (m := 0) (e' := 9) (cs := strs ds) (hrp _) (by rw [strs_len, Nat.mul_one]) hb1 hf (by omega) (by omega)]
      rw [putLo hb2]
      have hNY : (Y.put b (.cells (v + 1) (Nat.max 0 0) 9 1 true (strs ds ++ [.v (.string r.word)]))).size = N := by rw [put_sizeI _ hb2]; exact hN
      have hst : strs (ds ++ [r.word]) = strs ds ++ [.v (.string r.word)] := strs_append _ _
      rw [hst] at hmore
      change M79 id x (Y.put b (.cells (v + 1) (Nat.max 0 0) 9 1 true (strs ds ++ [.v (.string r.word)]))) _ _ at hmore
      change bindO (some (AV.sl b (v + 1) 0 (ds.length + 1) none, (Y.put b (.cells (v + 1) (Nat.max 0 0) 9 1 true (strs ds ++ [.v (.string r.word)]))).plus _)) _
      generalize Y.put b (.cells (v + 1) (Nat.max 0 0) 9 1 true (strs ds ++ [.v (.string r.word)])) = Z at hmore hNY ⊢
      simp -implicitDefEqProofs only [go_sem, ↓reduceIte, Int.reduceEq, Int.reduceLT, Int.reduceLE, List.reduceReplicate, intA, setT_nil, setT_cons, sizeP hNY, settleP0 hNY, settleP hNY]
      exact ⟨μ - 1, by omega, hQ _ _ _ ⟨i + 1, (ds ++ [r.word], own), .sl b (v + 1) 0 (ds.length + 1) none, by omega, (ht.trans hq).symm, by simp only [List.length_append, List.length_cons, List.length_nil] at hsl ⊢; omega, rfl, (hmore.plus _).trim hn2 (by rw [plus_size]; omega) _ _ (le_boundL (by simp))⟩⟩
  · obtain rfl : i = rs.length := by omega
    rw [List.take_length] at hs
    have hc := hK Y out (by rw [← hs]; exact hM)
    rw [← hs] at hc
    unfold T79 at hc
    rw [← plus_nil Y] at hc ⊢
    simp -implicitDefEqProofs only [go_sem, ↓reduceIte, Int.reduceEq, Int.reduceLT, Int.reduceLE, List.reduceReplicate, intA, setT_nil, setT_cons, ↓boolP_bool, ↓iteB_true, ↓iteB_false, hr1, hx.len, List.length_map, Int.lt_irrefl, sizeP hN, settleP0 hN, settleP hN, trimP0 hN, List.length_nil, Nat.add_zero]
    exact hKK _ _ _ hc
end Go.Ev
namespace Go.Ev
open Go.Proofs
set_option maxRecDepth 100000
set_option linter.unusedSimpArgs false
attribute [local irreducible] Wp WpS
theorem M79.trim' {id : Int} {x : AV} {H : Heap} {ds : List ByteArray} {out : AV} (h : M79 id x H ds out) {n : Nat} (hn : 2 ≤ n) (vs : List AV) (ms : List Nat) (hv : bound out ≤ boundL vs) : M79 id x (H.trim n vs ms) ds out := by
  by_cases h2 : n ≤ H.size
  · exact h.trim hn h2 vs ms hv
  · rw [trim_whole (by omega)]; exact h
theorem refI_len (k n w : Int) : ∀ (rs : List Rd) (s : List ByteArray × ByteArray), (rs.foldl (refI k n w) s).1.length ≤ s.1.length + rs.length
  | [], s => Nat.le_refl _
  | r :: rs, s => by
    have h := refI_len k n w rs (refI k n w s r)
    have h2 : (refI k n w s r).1.length ≤ s.1.length + 1 := by
      unfold refI; split
      · split
        · simp
        · exact Nat.le_succ _
      · exact Nat.le_succ _
    simp only [List.foldl_cons, List.length_cons]; omega
theorem refW_len (l : Line) (rs : List Rd) (k n : Int) (w : Nat) (ds : List ByteArray) : (refW l rs k n ds w).length ≤ ds.length + rs.length + 1 := by
  have h := refI_len k n w rs (ds, (l[w]?).getD emp)
  unfold refW
  simp only at h ⊢
  split
  · omega
  · rw [List.length_append]; simp only [List.length_cons, List.length_nil]; omega
theorem refs_len (l : Line) (rs : List Rd) (k n : Int) (hrs : rs.length ≤ 1000) : ∀ w : Nat, ((List.range w).foldl (refW l rs k n) []).length ≤ w * 1001
  | 0 => Nat.le_refl _
  | w + 1 => by
    rw [List.range_succ, List.foldl_append]
    have h := refs_len l rs k n hrs w
    have h2 := refW_len l rs k n w ((List.range w).foldl (refW l rs k n) [])
    show (refW l rs k n _ w).length ≤ _
    omega
set_option maxHeartbeats 2000000 in
theorem ans79 {e : Exts} (t : Txt) (ht : Fits t) (ch : AV) (xs : List AV) (hch : SlOf 2 xs ch) (hall : All2 ChapA t xs) (id : Int) (rs : List Rd) (x : AV) (hx : RdsA rs x) (k n : Nat) (cp : Chap) (hk : t[k]? = some cp) (ln : Line) (hn : cp.2[n]? = some ln) (hlen : ln.length ≤ 1000) (hrs : rs.length ≤ 1000) : ∃ v, SlOf 1 (strs (refLine ln rs k n)) v ∧ Ans (Cx e) 94 [.agg [ch], .agg [intA id, x], intA k, intA n] v := by
  have hx : SlOf 5 (rs.map rdV) x := hx
  obtain ⟨z, hz, l, rfl, lxs, hl, hls⟩ := hall.get hk
  obtain ⟨lx, hlx, hll⟩ := hls.get hn
  have hll : SlOf 1 (strs ln) lx := hll
  have hi := hch.idx hz
  unfold intA at hi
  refine ans_of_P ?_
  rw [fn_step (fn_94 e) (show Tryz.f94.body = some _ from rfl)]
  simp -implicitDefEqProofs only [Tryz.f94, go_sem, ↓reduceIte, Int.reduceEq, Int.reduceLT, Int.reduceLE, List.reduceReplicate, intA, setT_nil, setT_cons, hch.cells, hch.flat, hch.bound, hx.cells, hx.flat, hx.bound, hi, hl.cells, hl.idx hlx, hll.cells, hll.flat]
  refine Lp_rule (P := fun μ a H => ∃ w ds out, w + μ = ln.length + 1 ∧ a = ⟨86, [(0, .agg [ch]), (1, .agg [intA id, x]), (2, intA k), (3, intA n), (4, .ptr 0 0 0), (5, .ptr 1 0 0), (8, .v (.slice none 0 0)), (9, out), (10, lx), (11, intA w)], []⟩ ∧ M79 id x H ds out ∧ ds = (List.range w).foldl (refW ln rs k n) []) ?_ (ln.length + 1) _ _ ⟨0, [], .v (.slice none 0 0), by omega, rfl, ⟨rfl, Nat.le_refl _, rfl, Or.inl ⟨rfl, rfl⟩⟩, rfl⟩
  rintro μ _ X ⟨w, ds, out, hw0, rfl, hM, hds⟩
  have hfit := ht.words cp (List.mem_of_getElem? hk) ln (List.mem_of_getElem? hn)
  by_cases hle : (w : Int) ≤ (ln.length : Int)
  · have hw := wrap_succ w (by omega)
    have hds2 : ds.length ≤ w * 1001 := by rw [hds]; exact refs_len ln rs k n hrs w
    have hNx : ds.length + rs.length < 2 ^ 32 := by omega
    have hstep : (List.range (w + 1)).foldl (refW ln rs k n) [] = refW ln rs k n ds w := by rw [List.range_succ, List.foldl_append, ← hds]; rfl
    by_cases hlt : (w : Int) < (ln.length : Int)
    · obtain ⟨s, hs⟩ := at_lt ln w (by omega)
      have hsi := hll.idx (strs_get hs)
      have how : (ln[w]?).getD emp = s := by rw [hs]; rfl
      simp -implicitDefEqProofs only [go_sem, ↓reduceIte, Int.reduceEq, Int.reduceLT, Int.reduceLE, List.reduceReplicate, intA, setT_nil, setT_cons, ↓boolP_bool, ↓iteB_true, ↓iteB_false, hll.len, strs_len, hle, hlt, hsi]
      refine inner79 rs x hx ch lx id k n w true ds s _ ?_ X out hM hNx
      intro Y o2 hM2
      unfold T79
      obtain ⟨N, hN⟩ : ∃ N, Y.size = N := ⟨_, rfl⟩
      have hlk : Y.lock ≤ N := by have := hM2.lock; omega
      have hl2 := refI_len k n w rs (ds, s)
      have hqW : refW ln rs k n ds w = if (rs.foldl (refI k n w) (ds, s)).2 = emp then (rs.foldl (refI k n w) (ds, s)).1 else (rs.foldl (refI k n w) (ds, s)).1 ++ [(rs.foldl (refI k n w) (ds, s)).2] := by unfold refW; rw [how]
      generalize rs.foldl (refI k n w) (ds, s) = st at hM2 hl2 hqW ⊢
      obtain ⟨ds2, own2⟩ := st
      simp only at hM2 hl2 hqW
      rw [← plus_nil Y]
      by_cases he : own2 = ({ data := #[] } : ByteArray)
      · rw [if_pos (show own2 = emp from he)] at hqW
        have he' : decide (own2 = ({ data := #[] } : ByteArray)) = true := decide_eq_true he
        simp -implicitDefEqProofs only [go_sem, ↓reduceIte, Int.reduceEq, Int.reduceLT, Int.reduceLE, List.reduceReplicate, intA, setT_nil, setT_cons, ↓boolP_bool, ↓iteB_true, ↓iteB_false, bin_sne, he', hw, sizeP hN, settleP0 hN, settleP hN, List.length_nil, Nat.add_zero]
        exact ⟨μ - 1, by omega, w + 1, ds2, o2, by omega, rfl, (hM2.plus _).trim' hM.size _ _ (le_boundL (by simp)), by rw [hstep, hqW]⟩
      · rw [if_neg (show ¬ own2 = emp from he)] at hqW
        have he' : decide (own2 = ({ data := #[] } : ByteArray)) = false := decide_eq_false he
        rcases hM2.done with ⟨hd, ho⟩ | ⟨b, v, hb1, hb2, ho, hrow⟩
        · subst hd ho
          simp -implicitDefEqProofs only [go_sem, ↓reduceIte, Int.reduceEq, Int.reduceLT, Int.reduceLE, List.reduceReplicate, intA, setT_nil, setT_cons, ↓boolP_bool, ↓iteB_true, ↓iteB_false, bin_sne, he', hw, fitsA1, List.flatMap_cons, List.flatMap_nil, sizeP hN, putP0 hN, putP hN, settleP0 hN, settleP hN, rowP0 hN, rowP hN, storeP0 hN hlk, storeP hN hlk, List.length_nil, Nat.add_zero]
          have hnew := hM2.new hN [some (.cells 0 0 9 1 true [.v (.string own2)])] 0 [own2] rfl
          exact ⟨μ - 1, by omega, w + 1, [] ++ [own2], .sl N 0 0 1 none, by omega, rfl, hnew.trim' hM.size _ _ (le_boundL (by simp)), by rw [hstep, hqW]⟩
        · subst ho
          have hrp : ∀ E, (Y.plus E).row b v = some (0, 9, 1, true, strs ds2) := fun E => by rw [rowLo hb2]; exact hrow
          have hf : fitsA 16 (ds2.length + 1) = true := by unfold fitsA; exact decide_eq_true (by omega)
          have hmore := hM2.more hb2 hrow [own2] (ds2.length + 1) rfl
          simp -implicitDefEqProofs only [go_sem, ↓reduceIte, Int.reduceEq, Int.reduceLT, Int.reduceLE, List.reduceReplicate, intA, setT_nil, setT_cons, ↓boolP_bool, ↓iteB_true, ↓iteB_false, bin_sne, he', hw, List.flatMap_cons, List.flatMap_nil, sizeP hN, putP0 hN, putP hN, settleP0 hN, settleP hN, rowP0 hN, rowP hN, storeP0 hN hlk, storeP hN hlk, List.length_nil, Nat.add_zero]
          rw [appTo_own (m := 0) (e' := 9) (cs := strs ds2) (hrp _) (by rw [strs_len, Nat.mul_one]) hb1 hf (by omega) (by omega)]
          rw [putLo hb2]
          have hNY : (Y.put b (.cells (v + 1) (Nat.max 0 0) 9 1 true (strs ds2 ++ [.v (.string own2)]))).size = N := by rw [put_sizeI _ hb2]; exact hN
          have hst : strs (ds2 ++ [own2]) = strs ds2 ++ [.v (.string own2)] := strs_append _ _
          rw [hst] at hmore
          change M79 id x (Y.put b (.cells (v + 1) (Nat.max 0 0) 9 1 true (strs ds2 ++ [.v (.string own2)]))) _ _ at hmore
          change bindO (some (AV.sl b (v + 1) 0 (ds2.length + 1) none, (Y.put b (.cells (v + 1) (Nat.max 0 0) 9 1 true (strs ds2 ++ [.v (.string own2)]))).plus _)) _
          generalize Y.put b (.cells (v + 1) (Nat.max 0 0) 9 1 true (strs ds2 ++ [.v (.string own2)])) = Z at hmore hNY ⊢
          simp -implicitDefEqProofs only [go_sem, ↓reduceIte, Int.reduceEq, Int.reduceLT, Int.reduceLE, List.reduceReplicate, intA, setT_nil, setT_cons, ↓boolP_bool, ↓iteB_true, ↓iteB_false, hw, sizeP hNY, settleP0 hNY, settleP hNY]
          exact ⟨μ - 1, by omega, w + 1, ds2 ++ [own2], .sl b (v + 1) 0 (ds2.length + 1) none, by omega, rfl, (hmore.plus _).trim' hM.size _ _ (le_boundL (by simp)), by rw [hstep, hqW]⟩
    · obtain rfl : w = ln.length := by omega
      simp -implicitDefEqProofs only [go_sem, ↓reduceIte, Int.reduceEq, Int.reduceLT, Int.reduceLE, List.reduceReplicate, intA, setT_nil, setT_cons, ↓boolP_bool, ↓iteB_true, ↓iteB_false, hll.len, strs_len, hle, hlt]
      refine inner79 rs x hx ch lx id k n ln.length false ds emp _ ?_ X out hM hNx
      intro Y o2 hM2
      have how : (ln[ln.length]?).getD emp = emp := by rw [List.getElem?_eq_none_iff.2 (Nat.le_refl _)]; rfl
      unfold T79
      obtain ⟨N, hN⟩ : ∃ N, Y.size = N := ⟨_, rfl⟩
      have hlk : Y.lock ≤ N := by have := hM2.lock; omega
      have hl2 := refI_len k n ln.length rs (ds, emp)
      have hqW : refW ln rs k n ds ln.length = if (rs.foldl (refI k n ln.length) (ds, emp)).2 = emp then (rs.foldl (refI k n ln.length) (ds, emp)).1 else (rs.foldl (refI k n ln.length) (ds, emp)).1 ++ [(rs.foldl (refI k n ln.length) (ds, emp)).2] := by unfold refW; rw [how]
      generalize rs.foldl (refI k n ln.length) (ds, emp) = st at hM2 hl2 hqW ⊢
      obtain ⟨ds2, own2⟩ := st
      simp only at hM2 hl2 hqW
      rw [← plus_nil Y]
      by_cases he : own2 = ({ data := #[] } : ByteArray)
      · rw [if_pos (show own2 = emp from he)] at hqW
        have he' : decide (own2 = ({ data := #[] } : ByteArray)) = true := decide_eq_true he
        simp -implicitDefEqProofs only [go_sem, ↓reduceIte, Int.reduceEq, Int.reduceLT, Int.reduceLE, List.reduceReplicate, intA, setT_nil, setT_cons, ↓boolP_bool, ↓iteB_true, ↓iteB_false, bin_sne, he', hw, sizeP hN, settleP0 hN, settleP hN, List.length_nil, Nat.add_zero]
        exact ⟨μ - 1, by omega, ln.length + 1, ds2, o2, by omega, rfl, (hM2.plus _).trim' hM.size _ _ (le_boundL (by simp)), by rw [hstep, hqW]⟩
      · rw [if_neg (show ¬ own2 = emp from he)] at hqW
        have he' : decide (own2 = ({ data := #[] } : ByteArray)) = false := decide_eq_false he
        rcases hM2.done with ⟨hd, ho⟩ | ⟨b, v, hb1, hb2, ho, hrow⟩
        · subst hd ho
          simp -implicitDefEqProofs only [go_sem, ↓reduceIte, Int.reduceEq, Int.reduceLT, Int.reduceLE, List.reduceReplicate, intA, setT_nil, setT_cons, ↓boolP_bool, ↓iteB_true, ↓iteB_false, bin_sne, he', hw, fitsA1, List.flatMap_cons, List.flatMap_nil, sizeP hN, putP0 hN, putP hN, settleP0 hN, settleP hN, rowP0 hN, rowP hN, storeP0 hN hlk, storeP hN hlk, List.length_nil, Nat.add_zero]
          have hnew := hM2.new hN [some (.cells 0 0 9 1 true [.v (.string own2)])] 0 [own2] rfl
          exact ⟨μ - 1, by omega, ln.length + 1, [] ++ [own2], .sl N 0 0 1 none, by omega, rfl, hnew.trim' hM.size _ _ (le_boundL (by simp)), by rw [hstep, hqW]⟩
        · subst ho
          have hrp : ∀ E, (Y.plus E).row b v = some (0, 9, 1, true, strs ds2) := fun E => by rw [rowLo hb2]; exact hrow
          have hf : fitsA 16 (ds2.length + 1) = true := by unfold fitsA; exact decide_eq_true (by omega)
          have hmore := hM2.more hb2 hrow [own2] (ds2.length + 1) rfl
          simp -implicitDefEqProofs only [go_sem, ↓reduceIte, Int.reduceEq, Int.reduceLT, Int.reduceLE, List.reduceReplicate, intA, setT_nil, setT_cons, ↓boolP_bool, ↓iteB_true, ↓iteB_false, bin_sne, he', hw, List.flatMap_cons, List.flatMap_nil, sizeP hN, putP0 hN, putP hN, settleP0 hN, settleP hN, rowP0 hN, rowP hN, storeP0 hN hlk, storeP hN hlk, List.length_nil, Nat.add_zero]
          rw [appTo_own (m := 0) (e' := 9) (cs := strs ds2) (hrp _) (by rw [strs_len, Nat.mul_one]) hb1 hf (by omega) (by omega)]
          rw [putLo hb2]
          have hNY : (Y.put b (.cells (v + 1) (Nat.max 0 0) 9 1 true (strs ds2 ++ [.v (.string own2)]))).size = N := by rw [put_sizeI _ hb2]; exact hN
          have hst : strs (ds2 ++ [own2]) = strs ds2 ++ [.v (.string own2)] := strs_append _ _
          rw [hst] at hmore
          change M79 id x (Y.put b (.cells (v + 1) (Nat.max 0 0) 9 1 true (strs ds2 ++ [.v (.string own2)]))) _ _ at hmore
          change bindO (some (AV.sl b (v + 1) 0 (ds2.length + 1) none, (Y.put b (.cells (v + 1) (Nat.max 0 0) 9 1 true (strs ds2 ++ [.v (.string own2)]))).plus _)) _
          generalize Y.put b (.cells (v + 1) (Nat.max 0 0) 9 1 true (strs ds2 ++ [.v (.string own2)])) = Z at hmore hNY ⊢
          simp -implicitDefEqProofs only [go_sem, ↓reduceIte, Int.reduceEq, Int.reduceLT, Int.reduceLE, List.reduceReplicate, intA, setT_nil, setT_cons, ↓boolP_bool, ↓iteB_true, ↓iteB_false, hw, sizeP hNY, settleP0 hNY, settleP hNY]
          exact ⟨μ - 1, by omega, ln.length + 1, ds2 ++ [own2], .sl b (v + 1) 0 (ds2.length + 1) none, by omega, rfl, (hmore.plus _).trim' hM.size _ _ (le_boundL (by simp)), by rw [hstep, hqW]⟩
  · have hw1 : w = ln.length + 1 := by omega
    have hfin : ds = refLine ln rs k n := by rw [hds, hw1]; rfl
    rw [hfin] at hM
    obtain ⟨v, hv1, hv2⟩ := freeze_done hM.done hM.lock
    simp -implicitDefEqProofs only [go_sem, ↓reduceIte, Int.reduceEq, Int.reduceLT, Int.reduceLE, List.reduceReplicate, intA, setT_nil, setT_cons, ↓boolP_bool, ↓iteB_true, ↓iteB_false, hll.len, strs_len, hle]
    exact ⟨v, hv2, hv1⟩
end Go.Ev
namespace Go.Ev
open Go.Proofs
set_option maxRecDepth 100000
set_option linter.unusedSimpArgs false
attribute [local irreducible] Wp WpS
theorem call78 {e : Exts} (he : Quiet e) (t : Txt) (ht : Fits t) (ch : AV) (xs : List AV) (hch : SlOf 2 xs ch) (hall : All2 ChapA t xs) (r : Rd) (hr : RdF r) (me : FuncId) (d : Option Tmp) (H : Heap) : callA (Cx e) (lim (Cx e)) me 93 d [.agg [ch], rdV r] H = some (.v (.bool (readB t r)), H) :=
  (ans78 he t ht ch xs hch hall r hr).call (ext_93 he) (pure_93 _ _ _) (by simp only [boundL_cons, bound_agg, hch.bound, rdV_bound, boundL_nil]; rfl) H
theorem call79 {e : Exts} (he : Quiet e) (t : Txt) (ht : Fits t) (ch : AV) (xs : List AV) (hch : SlOf 2 xs ch) (hall : All2 ChapA t xs) (id : Int) (rs : List Rd) (x : AV) (hx : RdsA rs x) (k n : Nat) (cp : Chap) (hk : t[k]? = some cp) (ln : Line) (hn : cp.2[n]? = some ln) (hlen : ln.length ≤ 1000) (hrs : rs.length ≤ 1000) :
    ∃ v, SlOf 1 (strs (refLine ln rs k n)) v ∧ ∀ (me : FuncId) (d : Option Tmp) (H : Heap), callA (Cx e) (lim (Cx e)) me 94 d [.agg [ch], .agg [.v (.int .i64 id), x], .v (.int .i64 k), .v (.int .i64 n)] H = some (v, H) := by
  obtain ⟨v, hv, ha⟩ := ans79 (e := e) t ht ch xs hch hall id rs x hx k n cp hk ln hn hlen hrs
  exact ⟨v, hv, fun me d H => ha.call (ext_94 he) (pure_94 _ _ _) (by simp only [boundL_cons, bound_agg, hch.bound, intA, bound_v, SlOf.bound hx, boundL_nil]; rfl) H⟩
/-- for texts without empty lines the two tests of a reading agree -/
theorem fit_read {t : Txt} {r : Rd} (h : ∀ l, lineAt t r.ch r.ln = some l → l.length ≠ 0) : fitOne t r = readB t r := by
  unfold fitOne readB
  cases hL : lineAt t r.ch r.ln with
  | none => rfl
  | some l =>
    have h0 := h l hL
    have hz : decide (l.length = 0) = false := decide_eq_false h0
    simp only [hz, Bool.not_false, Bool.true_and]
    by_cases h1 : r.kind = 1
    · rw [h1]; rfl
    · by_cases h2 : r.kind = 2
      · rw [h2]; rfl
      · by_cases h3 : r.kind = 3
        · rw [h3]; rfl
        · rw [if_neg h1, if_neg h1, if_neg h2, if_neg h2, if_neg h3]
          have : withinB 1 3 [r.kind] = false := by
            simp only [withinB, List.all_cons, List.all_nil, Bool.and_true, Bool.and_eq_false_iff, decide_eq_false_iff_not]; omega
          rw [this]; rfl
end Go.Ev
namespace Go.Ev
open Go.Proofs
set_option maxRecDepth 100000
set_option linter.unusedSimpArgs false
attribute [local irreducible] Wp WpS
/-! ### a copy, by the reference -/
def pairR (p r : Rd) : Bool := !(beforeB (r.ch, r.ln, r.wd) (p.ch, p.ln, p.wd) || (eqP r.ch r.ln r.wd p.ch p.ln p.wd && !decide (p.kind = 2)))
def rdsB (t : Txt) : Option Rd → List Rd → Bool
  | _, [] => true
  | p, r :: l => readB t r && (match p with | none => true | some p => pairR p r) && rdsB t (some r) l
def linesN (rs : List Rd) (k : Nat) : Nat → List Line → Bool
  | _, [] => true
  | n, l :: r => withinB 1 10 [((refLine l rs k n).length : Int)] && linesN rs k (n + 1) r
def chapsN (rs : List Rd) : Nat → Txt → Bool
  | _, [] => true
  | k, c :: r => linesN rs k 0 c.2 && chapsN rs (k + 1) r
def copyB (t : Txt) (id : Int) (rs : List Rd) : Bool := withinB 0 9999 [id] && !decide (20 < (rs.length : Int)) && (rdsB t none rs && chapsN rs 0 t)
set_option maxHeartbeats 4000000 in
theorem ans57 {e : Exts} (he : Quiet e) (t : Txt) (ht : Fits t) (hlen : ∀ c ∈ t, ∀ l ∈ c.2, l.length ≤ 1000) (ch : AV) (xs : List AV) (hch : SlOf 2 xs ch) (hall : All2 ChapA t xs) (id : Int) (rs : List Rd) (x : AV) (hx : RdsA rs x) (hrf : ∀ r ∈ rs, RdF r) : Ans (Cx e) 58 [.agg [ch], .agg [intA id, x]] (.v (.bool (copyB t id rs))) := by
  have hxr := hx
  have hx : SlOf 5 (rs.map rdV) x := hx
  have hfit := ht.chs
  have h43 := call43 he id 0 9999
  unfold Ans
  rw [fn_step (fn_58 e) (show Tryz.f58.body = some _ from rfl)]
  cases h1 : withinB 0 9999 [id]
  · rw [h1] at h43
    have hB : copyB t id rs = false := by unfold copyB; rw [h1]; rfl
    rw [hB]
    simp -implicitDefEqProofs only [Tryz.f58, go_sem, ↓reduceIte, Int.reduceEq, Int.reduceLT, Int.reduceLE, List.reduceReplicate, intA, setT_nil, setT_cons, ↓boolP_bool, ↓iteB_true, ↓iteB_false, hch.cells, hch.flat, hch.bound, hx.cells, hx.flat, hx.bound, hx.len, List.length_map, h43]
  by_cases h20 : 20 < (rs.length : Int)
  · have h2 : decide (20 < (rs.length : Int)) = true := decide_eq_true h20
    rw [h1] at h43
    have hB : copyB t id rs = false := by unfold copyB; rw [h1, h2]; rfl
    rw [hB]
    simp -implicitDefEqProofs only [Tryz.f58, go_sem, ↓reduceIte, Int.reduceEq, Int.reduceLT, Int.reduceLE, List.reduceReplicate, intA, setT_nil, setT_cons, ↓boolP_bool, ↓iteB_true, ↓iteB_false, hch.cells, hch.flat, hch.bound, hx.cells, hx.flat, hx.bound, hx.len, List.length_map, h43, h2]
  have h2 : decide (20 < (rs.length : Int)) = false := decide_eq_false h20
  rw [h1] at h43
  have hB : copyB t id rs = (rdsB t none rs && chapsN rs 0 t) := by unfold copyB; rw [h1, h2]; rfl
  rw [hB]
  simp -implicitDefEqProofs only [Tryz.f58, go_sem, ↓reduceIte, Int.reduceEq, Int.reduceLT, Int.reduceLE, List.reduceReplicate, intA, setT_nil, setT_cons, ↓boolP_bool, ↓iteB_true, ↓iteB_false, hch.cells, hch.flat, hch.bound, hx.cells, hx.flat, hx.bound, hx.len, List.length_map, h43, h2]
  refine Lp_rule (P := fun μ a H => ∃ j, j + μ = rs.length ∧ a = ⟨97, [(0, .agg [ch]), (1, .agg [intA id, x]), (2, .ptr 0 0 0), (3, .ptr 1 0 0), (4, .v (.bool false)), (18, .v (.bool false)), (5, intA j)], []⟩ ∧ H = ⟨[some (.cells 0 0 24 1 false [ch]), some (.cells 0 0 66 1 false [intA id, x])], 0⟩ ∧ rdsB t none rs = rdsB t (if j = 0 then none else rs[j - 1]?) (rs.drop j)) ?_ rs.length _ _ ⟨0, by omega, rfl, rfl, rfl⟩
  rintro μ _ _ ⟨j, hj, rfl, rfl, ho⟩
  by_cases hlt : (j : Int) < (rs.length : Int)
  · obtain ⟨r, hr⟩ := at_lt rs j (by omega)
    have hw := wrap_succ j (by omega)
    have hir := hx.idx (rds_get hr)
    have hc78 := call78 he t ht ch xs hch hall r (hrf r (List.mem_of_getElem? hr))
    unfold rdV at hir hc78
    rw [drop_eq_cons hr] at ho
    cases hrd : readB t r
    · have hf : rdsB t none rs = false := by rw [ho]; unfold rdsB; rw [hrd, Bool.false_and, Bool.false_and]
      rw [hrd] at hc78
      rw [hf, Bool.false_and]
      simp -implicitDefEqProofs only [go_sem, ↓reduceIte, Int.reduceEq, Int.reduceLT, Int.reduceLE, List.reduceReplicate, intA, setT_nil, setT_cons, ↓boolP_bool, ↓iteB_true, ↓iteB_false, trim_at, hx.bound, hch.bound, hx.len, List.length_map, hch.cells, hx.cells, hlt, hw, hir, hc78]
    rw [hrd] at hc78
    cases j with
    | zero =>
      have hf : rdsB t none rs = rdsB t (some r) (rs.drop 1) := by rw [ho]; show (readB t r && true && _) = _; rw [hrd]; rfl
      simp -implicitDefEqProofs only [go_sem, ↓reduceIte, Int.reduceEq, Int.reduceLT, Int.reduceLE, List.reduceReplicate, intA, setT_nil, setT_cons, ↓boolP_bool, ↓iteB_true, ↓iteB_false, trim_at, hx.bound, hch.bound, hx.len, List.length_map, hch.cells, hx.cells, hlt, hw, hir, hc78]
      refine wp_drawX [([], [], false), ([], [], false), ([], [], false), ([], [], false), ([], [], false), ([], [], false), ([4], [], false), ([], [], false), ([], [], false), ([], [], false), ([], [], false), ([4], [], false), ([], [], false), ([], [], false), ([], [], false), ([], [], false), ([], [], false), ([15], [], false), ([], [], false), ([], [], false), ([], [], false), ([], [], false), ([15], [], false), ([], [], false), ([], [], false), ([], [], false), ([], [], false), ([], [], false), ([], [], false), ([], [], false), ([], [], false), ([], [], false), ([], [], false), ([], [], false), ([], [], false), ([], [], false)] (by kernel_rfl) (by kernel_rfl) ?_
      simp -implicitDefEqProofs only [go_sem, ↓reduceIte, Int.reduceEq, Int.reduceLT, Int.reduceLE, List.reduceReplicate, intA, setT_nil, setT_cons, ↓boolP_bool, ↓iteB_true, ↓iteB_false, trim_at, hx.bound, hch.bound, hx.len, List.length_map, hch.cells, hx.cells, hw, Int.natCast_zero, Int.lt_irrefl, decide_false, show IntKind.i64.wrap (0 + 1) = 1 from rfl]
      exact ⟨μ - 1, by omega, 1, by omega, rfl, rfl, by rw [hf, if_neg (by omega)]; show _ = rdsB t rs[0]? _; rw [hr]⟩
    | succ i => 
      obtain ⟨p, hp⟩ := at_lt rs i (by omega)
      have hip := hx.idx (rds_get hp)
      unfold rdV at hip
      have hw1 : IntKind.i64.wrap (((i + 1 : Nat) : Int) - 1) = (i : Int) := by rw [wrap_in _ (by omega) (by omega)]; omega
      have hpos : (0 : Int) < ((i + 1 : Nat) : Int) := by omega
      have hc18 : ∀ (me : FuncId) (d : Option Tmp), callI (Cx e) me 61 d [.agg [.v (.int .i64 r.ch), .v (.int .i64 r.ln), .v (.int .i64 r.wd)], .agg [.v (.int .i64 p.ch), .v (.int .i64 p.ln), .v (.int .i64 p.wd)]] = some (.v (.bool (beforeB (r.ch, r.ln, r.wd) (p.ch, p.ln, p.wd)))) := fun me d => (ans18 r.ch r.ln r.wd p.ch p.ln p.wd).callI (ext_61 he) (pure_61 _ _ _) rfl
      have hf : rdsB t none rs = (pairR p r && rdsB t (some r) (rs.drop (i + 1 + 1))) := by rw [ho, if_neg (by omega), Nat.add_sub_cancel, hp]; show (readB t r && pairR p r && _) = _; rw [hrd]; rfl
      simp -implicitDefEqProofs only [go_sem, ↓reduceIte, Int.reduceEq, Int.reduceLT, Int.reduceLE, List.reduceReplicate, intA, setT_nil, setT_cons, ↓boolP_bool, ↓iteB_true, ↓iteB_false, trim_at, hx.bound, hch.bound, hx.len, List.length_map, hch.cells, hx.cells, hlt, hw, hir, hc78]
      refine wp_drawX [([], [], false), ([], [], false), ([], [], false), ([], [], false), ([], [], false), ([], [], false), ([4], [], false), ([], [], false), ([], [], false), ([], [], false), ([], [], false), ([4], [], false), ([], [], false), ([], [], false), ([], [], false), ([], [], false), ([], [], false), ([15], [], false), ([], [], false), ([], [], false), ([], [], false), ([], [], false), ([15], [], false), ([], [], false), ([], [], false), ([], [], false), ([], [], false), ([], [], false), ([], [], false), ([], [], false), ([], [], false), ([], [], false), ([], [], false), ([], [], false), ([], [], false), ([], [], false)] (by kernel_rfl) (by kernel_rfl) ?_
      cases k1 : beforeB (r.ch, r.ln, r.wd) (p.ch, p.ln, p.wd)
      · cases k2 : eqP r.ch r.ln r.wd p.ch p.ln p.wd
        · have hpr : pairR p r = true := by unfold pairR; rw [k1, k2]; rfl
          rw [k1] at hc18
          simp -implicitDefEqProofs only [go_sem, ↓reduceIte, Int.reduceEq, Int.reduceLT, Int.reduceLE, List.reduceReplicate, intA, setT_nil, setT_cons, ↓boolP_bool, ↓iteB_true, ↓iteB_false, trim_at, hx.bound, hch.bound, hx.len, List.length_map, hch.cells, hx.cells, hw, hw1, hpos, hip, hc18, eq32, k2]
          exact ⟨μ - 1, by omega, i + 1 + 1, by omega, rfl, rfl, by rw [hf, hpr, Bool.true_and, if_neg (by omega), Nat.add_sub_cancel, hr]⟩
        · cases k3 : decide (p.kind = 2)
          · have hpr : pairR p r = false := by unfold pairR; rw [k1, k2, k3]; rfl
            rw [k1] at hc18
            rw [hf, hpr, Bool.false_and, Bool.false_and]
            simp -implicitDefEqProofs only [go_sem, ↓reduceIte, Int.reduceEq, Int.reduceLT, Int.reduceLE, List.reduceReplicate, intA, setT_nil, setT_cons, ↓boolP_bool, ↓iteB_true, ↓iteB_false, trim_at, hx.bound, hch.bound, hx.len, List.length_map, hch.cells, hx.cells, hw, hw1, hpos, hip, hc18, eq32, k2, bin_neq8, k3]
          · have hpr : pairR p r = true := by unfold pairR; rw [k1, k2, k3]; rfl
            rw [k1] at hc18
            simp -implicitDefEqProofs only [go_sem, ↓reduceIte, Int.reduceEq, Int.reduceLT, Int.reduceLE, List.reduceReplicate, intA, setT_nil, setT_cons, ↓boolP_bool, ↓iteB_true, ↓iteB_false, trim_at, hx.bound, hch.bound, hx.len, List.length_map, hch.cells, hx.cells, hw, hw1, hpos, hip, hc18, eq32, k2, bin_neq8, k3]
            exact ⟨μ - 1, by omega, i + 1 + 1, by omega, rfl, rfl, by rw [hf, hpr, Bool.true_and, if_neg (by omega), Nat.add_sub_cancel, hr]⟩
      · have hpr : pairR p r = false := by unfold pairR; rw [k1]; rfl
        rw [k1] at hc18
        rw [hf, hpr, Bool.false_and, Bool.false_and]
        simp -implicitDefEqProofs only [go_sem, ↓reduceIte, Int.reduceEq, Int.reduceLT, Int.reduceLE, List.reduceReplicate, intA, setT_nil, setT_cons, ↓boolP_bool, ↓iteB_true, ↓iteB_false, trim_at, hx.bound, hch.bound, hx.len, List.length_map, hch.cells, hx.cells, hw, hw1, hpos, hip, hc18]
  · have hdone : rdsB t none rs = true := by rw [ho, show rs.drop j = [] from List.drop_eq_nil_of_le (by omega)]; rfl
    rw [hdone, Bool.true_and]
    simp -implicitDefEqProofs only [go_sem, ↓reduceIte, Int.reduceEq, Int.reduceLT, Int.reduceLE, List.reduceReplicate, intA, setT_nil, setT_cons, ↓boolP_bool, ↓iteB_true, ↓iteB_false, trim_at, hx.bound, hch.bound, hx.len, List.length_map, hch.cells, hx.cells, hlt]
    have hj5 : j = rs.length := by omega
    subst hj5
    refine Lp_rule (P := fun μ a H => ∃ k, k + μ = t.length ∧ a = ⟨97, [(0, .agg [ch]), (1, .agg [intA id, x]), (2, .ptr 0 0 0), (3, .ptr 1 0 0), (4, .v (.bool false)), (18, .v (.bool false)), (5, intA rs.length), (7, intA k)], []⟩ ∧ H = ⟨[some (.cells 0 0 24 1 false [ch]), some (.cells 0 0 66 1 false [intA id, x])], 0⟩ ∧ chapsN rs 0 t = chapsN rs k (t.drop k)) ?_ t.length _ _ ⟨0, by omega, rfl, rfl, rfl⟩
    rintro μ2 _ _ ⟨k, hk, rfl, rfl, hok⟩
    by_cases hltk : (k : Int) < (t.length : Int)
    · obtain ⟨cp, hcp⟩ := at_lt t k (by omega)
      have hwk := wrap_succ k (by omega)
      obtain ⟨z, hz, l, rfl, lxs, hll, hls⟩ := hall.get hcp
      have hik := hch.idx hz
      unfold intA at hik
      have hcm := List.mem_of_getElem? hcp
      have hfl := ht.lines cp hcm
      rw [drop_eq_cons hcp] at hok
      simp -implicitDefEqProofs only [go_sem, ↓reduceIte, Int.reduceEq, Int.reduceLT, Int.reduceLE, List.reduceReplicate, intA, setT_nil, setT_cons, ↓boolP_bool, ↓iteB_true, ↓iteB_false, trim_at, hx.bound, hch.bound, hx.len, List.length_map, hch.cells, hx.cells, hch.len, ← hall.1, hltk]
      refine Lp_rule (P := fun μ a H => ∃ n, n + μ = cp.2.length ∧ a = ⟨97, [(0, .agg [ch]), (1, .agg [intA id, x]), (2, .ptr 0 0 0), (3, .ptr 1 0 0), (4, .v (.bool false)), (18, .v (.bool false)), (5, intA rs.length), (7, intA k), (75, .v (.bool true)), (8, intA n)], []⟩ ∧ H = ⟨[some (.cells 0 0 24 1 false [ch]), some (.cells 0 0 66 1 false [intA id, x])], 0⟩ ∧ linesN rs k 0 cp.2 = linesN rs k n (cp.2.drop n)) ?_ cp.2.length _ _ ⟨0, by omega, rfl, rfl, rfl⟩
      rintro μ3 _ _ ⟨n, hn, rfl, rfl, hon⟩
      by_cases hltn : (n : Int) < (cp.2.length : Int)
      · obtain ⟨ln, hln⟩ := at_lt cp.2 n (by omega)
        have hwn := wrap_succ n (by omega)
        obtain ⟨v, hv, h79⟩ := call79 he t ht ch xs hch hall id rs x hxr k n cp hcp ln hln (hlen cp hcm ln (List.mem_of_getElem? hln)) (by omega)
        have hv : SlOf 1 (strs (refLine ln rs k n)) v := hv
        have hw10 := call43 he ((refLine ln rs k n).length : Int) 1 10
        rw [drop_eq_cons hln] at hon
        cases h10 : withinB 1 10 [((refLine ln rs k n).length : Int)]
        · rw [h10] at hw10
          have hf : chapsN rs 0 t = false := by rw [hok]; show (linesN rs k 0 cp.2 && _) = _; rw [hon]; show ((withinB 1 10 _ && _) && _) = _; rw [h10]; rfl
          rw [hf]
          simp -implicitDefEqProofs only [go_sem, ↓reduceIte, Int.reduceEq, Int.reduceLT, Int.reduceLE, List.reduceReplicate, intA, setT_nil, setT_cons, ↓boolP_bool, ↓iteB_true, ↓iteB_false, trim_at, hx.bound, hch.bound, hx.len, List.length_map, hch.cells, hx.cells, hch.len, ← hall.1, hik, hll.len, hll.cells, ← hls.1, hltn, h79, hv.len, hv.flat, strs_len, hw10]
        · rw [h10] at hw10
          simp -implicitDefEqProofs only [go_sem, ↓reduceIte, Int.reduceEq, Int.reduceLT, Int.reduceLE, List.reduceReplicate, intA, setT_nil, setT_cons, ↓boolP_bool, ↓iteB_true, ↓iteB_false, trim_at, hx.bound, hch.bound, hx.len, List.length_map, hch.cells, hx.cells, hch.len, ← hall.1, hik, hll.len, hll.cells, ← hls.1, hltn, h79, hv.len, hv.flat, strs_len, hw10, hwn]
          exact ⟨μ3 - 1, by omega, n + 1, by omega, rfl, rfl, by rw [hon]; show (withinB 1 10 _ && _) = _; rw [h10]; rfl⟩
      · have hf : linesN rs k 0 cp.2 = true := by rw [hon, show cp.2.drop n = [] from List.drop_eq_nil_of_le (by omega)]; rfl
        simp -implicitDefEqProofs only [go_sem, ↓reduceIte, Int.reduceEq, Int.reduceLT, Int.reduceLE, List.reduceReplicate, intA, setT_nil, setT_cons, ↓boolP_bool, ↓iteB_true, ↓iteB_false, trim_at, hx.bound, hch.bound, hx.len, List.length_map, hch.cells, hx.cells, hch.len, ← hall.1, hik, hll.len, hll.cells, ← hls.1, hltn, hwk]
        exact ⟨μ2 - 1, by omega, k + 1, by omega, rfl, rfl, by rw [hok]; show (linesN rs k 0 cp.2 && _) = _; rw [hf]; rfl⟩
    · have hf : chapsN rs 0 t = true := by rw [hok, show t.drop k = [] from List.drop_eq_nil_of_le (by omega)]; rfl
      rw [hf]
      simp -implicitDefEqProofs only [go_sem, ↓reduceIte, Int.reduceEq, Int.reduceLT, Int.reduceLE, List.reduceReplicate, intA, setT_nil, setT_cons, ↓boolP_bool, ↓iteB_true, ↓iteB_false, trim_at, hx.bound, hch.bound, hx.len, List.length_map, hch.cells, hx.cells, hch.len, ← hall.1, hltk]
end Go.Ev
namespace Go.Ev
open Go.Proofs
set_option maxRecDepth 100000
set_option linter.unusedSimpArgs false
attribute [local irreducible] Wp WpS
end Go.Ev
namespace Go.Ev
open Go.Proofs
set_option maxRecDepth 100000
set_option linter.unusedSimpArgs false
attribute [local irreducible] Wp WpS
/-- the copy is one of the text, as hasCopy has it -/
def Has58 (e : Exts) (ch : AV) (id : Int) (x : AV) (b : Bool) : Prop := ∀ (me : FuncId) (d : Option Tmp) (H : Heap), callA (Cx e) (lim (Cx e)) me 121 d [.agg [ch], .agg [.v (.int .i64 id), x]] H = some (.v (.bool b), H)
set_option maxHeartbeats 2000000 in
theorem ans54 {e : Exts} (he : Quiet e) (t : Txt) (ht : Fits t) (htx : textB t = true) (ch : AV) (xs : List AV) (hch : SlOf 2 xs ch) (hall : All2 ChapA t xs) (id : Int) (rs : List Rd) (x : AV) (hx : RdsA rs x) (h58 : Has58 e ch id x true) : Ans (Cx e) 95 [.agg [ch], .agg [intA id, x]] (.tup [.agg [ch], intA 0]) := by
  have hx : SlOf 5 (rs.map rdV) x := hx
  have h40 := call40 he t ht ch ⟨xs, hch, hall⟩
  rw [htx, if_pos rfl] at h40
  unfold intA at h40
  unfold Has58 at h58
  unfold Ans
  rw [fn_step (fn_95 e) (show Tryz.f95.body = some _ from rfl)]
  simp -implicitDefEqProofs only [Tryz.f95, go_sem, ↓reduceIte, Int.reduceEq, Int.reduceLT, Int.reduceLE, List.reduceReplicate, intA, setT_nil, setT_cons, ↓boolP_bool, ↓iteB_true, ↓iteB_false, hch.cells, hch.flat, hch.bound, hx.cells, hx.flat, hx.bound, h40, h58]
  rcases hch with ⟨rfl, -⟩ | ⟨cap, rfl⟩ <;> rfl
theorem call54 {e : Exts} (he : Quiet e) (t : Txt) (ht : Fits t) (htx : textB t = true) (ch : AV) (xs : List AV) (hch : SlOf 2 xs ch) (hall : All2 ChapA t xs) (id : Int) (rs : List Rd) (x : AV) (hx : RdsA rs x) (h58 : Has58 e ch id x true) (me : FuncId) (d : Option Tmp) (H : Heap) : callA (Cx e) (lim (Cx e)) me 95 d [.agg [ch], .agg [.v (.int .i64 id), x]] H = some (.tup [.agg [ch], .v (.int .i64 0)], H) :=
  (ans54 he t ht htx ch xs hch hall id rs x hx h58).call (ext_95 he) (pure_95 _ _ _) (by simp only [boundL_cons, bound_agg, hch.bound, intA, bound_v, SlOf.bound hx, boundL_nil]; rfl) H
def takesB (a b c : Int) (r : Rd) : Bool := eqP r.ch r.ln r.wd a b c && !decide (r.kind = 2)
def standL (rs : List Rd) (a b c : Int) (own : ByteArray) : ByteArray := match rs.find? (takesB a b c) with | some r => r.word | none => own
set_option maxHeartbeats 2000000 in
theorem ans30 {e : Exts} (he : Quiet e) (t : Txt) (ht : Fits t) (htx : textB t = true) (ch : AV) (xs : List AV) (hch : SlOf 2 xs ch) (hall : All2 ChapA t xs) (id : Int) (rs : List Rd) (x : AV) (hx : RdsA rs x) (hrs : rs.length ≤ 1000) (h58 : Has58 e ch id x true) (a b c : Nat) (ln : Line) (hL : lineAt t a b = some ln) (own : ByteArray) (hc : ln[c]? = some own) :
    Ans (Cx e) 60 [.agg [ch], .agg [intA id, x], .agg [intA a, intA b, intA c]] (.tup [.v (.string (standL rs a b c own)), intA 0]) := by
  have h54 := call54 he t ht htx ch xs hch hall id rs x hx h58
  have hx : SlOf 5 (rs.map rdV) x := hx
  have hcl := (List.getElem?_eq_some_iff.1 hc).1
  have h44 := call44 he t ht ch xs hch hall a b c
  have hp : placeB' t a b c = true := by unfold placeB'; rw [hL]; simp; omega
  rw [hp] at h44
  obtain ⟨y, hy, h45, hi45⟩ := call45 he t ht ch xs hch hall a b c
  rw [hL] at hy
  have hy : SlOf 1 (strs ln) y := hy
  have hyi := hy.idx (strs_get hc)
  unfold Ans
  rw [fn_step (fn_60 e) (show Tryz.f60.body = some _ from rfl)]
  simp -implicitDefEqProofs only [Tryz.f60, go_sem, ↓reduceIte, Int.reduceEq, Int.reduceLT, Int.reduceLE, List.reduceReplicate, intA, setT_nil, setT_cons, ↓boolP_bool, ↓iteB_true, ↓iteB_false, hch.cells, hch.flat, hch.bound, hx.cells, hx.flat, hx.bound, h54, h44, hx.len, List.length_map]
  refine Lp_rule (P := fun μ a' H => ∃ j, j + μ = rs.length ∧ a' = ⟨51, [(0, .agg [ch]), (1, .agg [intA id, x]), (2, .agg [intA a, intA b, intA c]), (3, .ptr 0 0 0), (4, .ptr 1 0 0), (5, .ptr 2 0 0), (6, .v (.string { data := #[] })), (7, intA 0), (8, .ptr 3 0 0), (9, intA 0), (19, .v (.bool false)), (24, .v (.bool false)), (26, x), (27, intA rs.length), (28, intA j)], []⟩ ∧ H = ⟨[some (.cells 0 0 24 1 false [ch]), some (.cells 0 0 66 1 false [intA id, x]), some (.cells 0 0 28 1 false [intA a, intA b, intA c]), some (.cells 0 0 140 1 false [ch])], 0⟩ ∧ standL rs a b c own = standL (rs.drop j) a b c own) ?_ rs.length _ _ ⟨0, by omega, rfl, rfl, rfl⟩
  rintro μ _ _ ⟨j, hj, rfl, rfl, ho⟩
  by_cases hlt : (j : Int) < (rs.length : Int)
  · obtain ⟨r, hr⟩ := at_lt rs j (by omega)
    have hw := wrap_succ j (by omega)
    have hir := hx.idx (rds_get hr)
    unfold rdV at hir
    rw [drop_eq_cons hr] at ho
    have hgo : takesB a b c r = false → standL rs a b c own = standL (rs.drop (j + 1)) a b c own := fun h => by rw [ho]; unfold standL; rw [List.find?_cons, h]
    cases k1 : eqP r.ch r.ln r.wd a b c
    · simp -implicitDefEqProofs only [go_sem, ↓reduceIte, Int.reduceEq, Int.reduceLT, Int.reduceLE, List.reduceReplicate, intA, setT_nil, setT_cons, ↓boolP_bool, ↓iteB_true, ↓iteB_false, trim_at, hx.bound, hch.bound, hx.len, List.length_map, hch.cells, hx.cells, hlt, hw, hir, eq32, k1]
      exact ⟨μ - 1, by omega, j + 1, by omega, rfl, rfl, hgo (by unfold takesB; rw [k1]; rfl)⟩
    · cases k2 : decide (r.kind = 2)
      · have hf : standL rs a b c own = r.word := by rw [ho]; unfold standL; rw [List.find?_cons, show takesB a b c r = true by unfold takesB; rw [k1, k2]; rfl]
        rw [hf]
        simp -implicitDefEqProofs only [go_sem, ↓reduceIte, Int.reduceEq, Int.reduceLT, Int.reduceLE, List.reduceReplicate, intA, setT_nil, setT_cons, ↓boolP_bool, ↓iteB_true, ↓iteB_false, trim_at, hx.bound, hch.bound, hx.len, List.length_map, hch.cells, hx.cells, hlt, hw, hir, eq32, k1, bin_neq8, k2]
        rfl
      · simp -implicitDefEqProofs only [go_sem, ↓reduceIte, Int.reduceEq, Int.reduceLT, Int.reduceLE, List.reduceReplicate, intA, setT_nil, setT_cons, ↓boolP_bool, ↓iteB_true, ↓iteB_false, trim_at, hx.bound, hch.bound, hx.len, List.length_map, hch.cells, hx.cells, hlt, hw, hir, eq32, k1, bin_neq8, k2]
        exact ⟨μ - 1, by omega, j + 1, by omega, rfl, rfl, hgo (by unfold takesB; rw [k1, k2]; rfl)⟩
  · have hf : standL rs a b c own = own := by rw [ho, show rs.drop j = [] from List.drop_eq_nil_of_le (by omega)]; rfl
    rw [hf]
    simp -implicitDefEqProofs only [go_sem, ↓reduceIte, Int.reduceEq, Int.reduceLT, Int.reduceLE, List.reduceReplicate, intA, setT_nil, setT_cons, ↓boolP_bool, ↓iteB_true, ↓iteB_false, trim_at, hx.bound, hch.bound, hx.len, List.length_map, hch.cells, hx.cells, hlt]
    refine wp_drawX [([], [], false), ([0], [], false), ([], [], false), ([], [], false), ([0, 1, 2], [], false), ([], [], false), ([], [], false), ([], [], false), ([], [], false)] (by kernel_rfl) (by kernel_rfl) ?_
    simp -implicitDefEqProofs only [go_sem, ↓reduceIte, Int.reduceEq, Int.reduceLT, Int.reduceLE, List.reduceReplicate, intA, setT_nil, setT_cons, ↓boolP_bool, ↓iteB_true, ↓iteB_false, trim_at, hx.bound, hch.bound, hx.len, List.length_map, hch.cells, hx.cells, h45, hi45, hyi]
    rfl
end Go.Ev
namespace Go.Ev
open Go.Proofs
set_option maxRecDepth 100000
set_option linter.unusedSimpArgs false
attribute [local irreducible] Wp WpS
set_option maxHeartbeats 2000000 in
/-- what read answers, Read answers of a copy that is one of the text -/
theorem ans25 {e : Exts} (he : Quiet e) (t : Txt) (ht : Fits t) (htx : textB t = true) (ch : AV) (xs : List AV) (hch : SlOf 2 xs ch) (hall : All2 ChapA t xs) (id : Int) (rs : List Rd) (x : AV) (hx : RdsA rs x) (h58 : Has58 e ch id x true) (ys : List AV) (o : AV) (ho : SlOf 2 ys o) (h55 : Ans (Cx e) 96 [.agg [ch], .agg [intA id, x]] (.agg [o])) : Ans (Cx e) 59 [.agg [ch], .agg [intA id, x]] (.tup [.agg [o], intA 0]) := by
  have h54 := call54 he t ht htx ch xs hch hall id rs x hx h58
  have hx : SlOf 5 (rs.map rdV) x := hx
  have hc55 : ∀ (me : FuncId) (d : Option Tmp) (H : Heap), callA (Cx e) (lim (Cx e)) me 96 d [.agg [ch], .agg [.v (.int .i64 id), x]] H = some (.agg [o], H) := fun me d H =>
    h55.call (ext_96 he) (pure_96 _ _ _) (by simp only [boundL_cons, bound_agg, hch.bound, intA, bound_v, hx.bound, boundL_nil]; rfl) H
  unfold Ans
  rw [fn_step (fn_59 e) (show Tryz.f59.body = some _ from rfl)]
  simp -implicitDefEqProofs only [Tryz.f59, go_sem, ↓reduceIte, Int.reduceEq, Int.reduceLT, Int.reduceLE, List.reduceReplicate, intA, setT_nil, setT_cons, ↓boolP_bool, ↓iteB_true, ↓iteB_false, hch.cells, hch.flat, hch.bound, hx.cells, hx.flat, hx.bound, h54, hc55, ho.cells, ho.flat, ho.bound]
  rcases ho with ⟨rfl, -⟩ | ⟨cap, rfl⟩ <;> rfl
end Go.Ev
namespace Go.Ev
open Go.Proofs
set_option maxRecDepth 100000
set_option linter.unusedSimpArgs false
attribute [local irreducible] Wp WpS
theorem trimP1 {X : Heap} {N : Nat} (hN : X.size = N) (o : Option AObj) (vs : List AV) (ms : List Nat) : (X.plus [o]).trim (N + 1) vs ms = X.plus [o] := by
  have : N + 1 = (X.plus [o]).size := by rw [sizeP hN]; rfl
  rw [this, trim_size]
theorem isAgg3 : isAggT Tryz.prog 3 = some false := by kernel_rfl
theorem size3 : sizeT Tryz.prog 3 = some 1 := by kernel_rfl
set_option maxHeartbeats 4000000 in
theorem fn69 {e : Exts} {X : Heap} {N : Nat} (hN : X.size = N) (lo hi : Int) (ns : List Int) (a : AV) (ha : SlH X (ns.map intA) a) (hn : ns.length < 2 ^ 63) : Fn' (Cx e) 120 [.agg [.v (.int .i64 lo), .v (.int .i64 hi)], a] X (fun v _ => v = .v (.bool (withinB lo hi ns))) := by
  rw [fn_step (fn_120 e) (show Tryz.f120.body = some _ from rfl)]
  rw [← plus_nil X]
  simp -implicitDefEqProofs only [Tryz.f120, go_sem, ↓reduceIte, Int.reduceEq, Int.reduceLT, Int.reduceLE, List.reduceReplicate, intA, setT_nil, setT_cons, ↓boolP_bool, ↓iteB_true, ↓iteB_false, ha.len, List.length_map, sizeP hN, putP0 hN, putP hN, settleP0 hN, settleP hN, List.length_nil, Nat.add_zero]
  refine Lp_rule (P := fun μ a' H => ∃ j, j + μ = ns.length ∧ a' = ⟨24, [(0, .agg [intA lo, intA hi]), (1, a), (2, .ptr N 0 0), (4, .v (.bool false)), (7, a), (8, intA ns.length), (9, intA j)], []⟩ ∧ X.plus [some (.cells 0 0 170 1 false [intA lo, intA hi])] = H ∧ withinB lo hi ns = withinB lo hi (ns.drop j)) ?_ ns.length _ _ ⟨0, by omega, rfl, rfl, rfl⟩
  rintro μ _ _ ⟨j, hj, rfl, rfl, ho⟩
  by_cases hlt : (j : Int) < (ns.length : Int)
  · obtain ⟨n, hr⟩ := at_lt ns j (by omega)
    have hw := wrap_succ j (by omega)
    obtain ⟨p, hp1, hp2, hp3⟩ := ha.get hN (show (ns.map intA)[j]? = some (intA n) by rw [List.getElem?_map, hr]; rfl) rfl .i64
    unfold intA at hp2
    rw [drop_eq_cons hr] at ho
    have hgo : withinB lo hi [n] = true → withinB lo hi ns = withinB lo hi (ns.drop (j + 1)) := fun h => by
      rw [ho]; unfold withinB at h ⊢; simp only [List.all_cons, List.all_nil, Bool.and_true] at h ⊢; rw [h, Bool.true_and]
    have hno : withinB lo hi [n] = false → withinB lo hi ns = false := fun h => by
      rw [ho]; unfold withinB at h ⊢; simp only [List.all_cons, List.all_nil, Bool.and_true] at h ⊢; rw [h, Bool.false_and]
    by_cases k1 : n < lo
    · have hf := hno (by unfold withinB; simp; omega)
      rw [hf]
      simp -implicitDefEqProofs only [go_sem, ↓reduceIte, Int.reduceEq, Int.reduceLT, Int.reduceLE, List.reduceReplicate, intA, setT_nil, setT_cons, ↓boolP_bool, ↓iteB_true, ↓iteB_false, hlt, hw, hp1, hp2 _ _ isAgg3 size3, k1, sizeP hN, rowP0 hN, rowP hN, settleP0 hN, settleP hN, List.length_nil, Nat.add_zero]
      rfl
    · by_cases k2 : hi < n
      · have hf := hno (by unfold withinB; simp; omega)
        rw [hf]
        simp -implicitDefEqProofs only [go_sem, ↓reduceIte, Int.reduceEq, Int.reduceLT, Int.reduceLE, List.reduceReplicate, intA, setT_nil, setT_cons, ↓boolP_bool, ↓iteB_true, ↓iteB_false, hlt, hw, hp1, hp2 _ _ isAgg3 size3, k1, k2, sizeP hN, rowP0 hN, rowP hN, settleP0 hN, settleP hN, List.length_nil, Nat.add_zero]
        rfl
      · have hf := hgo (by unfold withinB; simp; omega)
        simp -implicitDefEqProofs only [go_sem, ↓reduceIte, Int.reduceEq, Int.reduceLT, Int.reduceLE, List.reduceReplicate, intA, setT_nil, setT_cons, ↓boolP_bool, ↓iteB_true, ↓iteB_false, hlt, hw, hp1, hp2 _ _ isAgg3 size3, k1, k2, sizeP hN, rowP0 hN, rowP hN, settleP0 hN, settleP hN, List.length_nil, Nat.add_zero, trimP1 hN]
        exact ⟨μ - 1, by omega, j + 1, by omega, rfl, rfl, hf⟩
  · have hf : withinB lo hi ns = true := by rw [ho, show ns.drop j = [] from List.drop_eq_nil_of_le (by omega)]; rfl
    rw [hf]
    simp -implicitDefEqProofs only [go_sem, ↓reduceIte, Int.reduceEq, Int.reduceLT, Int.reduceLE, List.reduceReplicate, intA, setT_nil, setT_cons, ↓boolP_bool, ↓iteB_true, ↓iteB_false, hlt, sizeP hN, settleP0 hN, settleP hN, List.length_nil, Nat.add_zero, trimP1 hN]
    rfl
theorem callP69 {e : Exts} (he : Quiet e) {X : Heap} (lo hi : Int) (ns : List Int) (a : AV) (ha : SlH X (ns.map intA) a) (hn : ns.length < 2 ^ 63) (me : FuncId) (d : Option Tmp) : callA (Cx e) (lim (Cx e)) me 120 d [.agg [.v (.int .i64 lo), .v (.int .i64 hi)], a] X = some (.v (.bool (withinB lo hi ns)), X) := by
  refine callA_still (ext_120 he) (pure_120 _ _ _) ?_ (fun h0 => fn69 rfl lo hi ns a (ha.closed ?_ _) hn) (fn69 rfl lo hi ns a (ha.lock _) hn)
  · have : isYld (.agg [.v (.int .i64 lo), .v (.int .i64 hi)]) = false := rfl
    simp [ha.yld, this]
  · rw [boundL_cons, boundL_cons] at h0
    exact Nat.le_zero.1 (h0 ▸ Nat.le_trans (Nat.le_max_left _ _) (Nat.le_max_right _ _))
theorem fn82 {e : Exts} (he : Quiet e) {X : Heap} (ns : List Int) (a : AV) (ha : SlH X (ns.map intA) a) (hn : ns.length < 2 ^ 63) : Fn' (Cx e) 139 [a] X (fun v _ => v = .v (.bool (withinB 1 10 ns))) := by
  rw [fn_step (fn_139 e) (show Tryz.f139.body = some _ from rfl)]
  have hc := callP69 he 1 10 ns a ha hn
  simp -implicitDefEqProofs only [Tryz.f139, go_sem, ↓reduceIte, Int.reduceEq, Int.reduceLT, Int.reduceLE, List.reduceReplicate, intA, setT_nil, setT_cons, ↓boolP_bool, ↓iteB_true, ↓iteB_false, hc]
  rfl
theorem callP82 {e : Exts} (he : Quiet e) {X : Heap} (ns : List Int) (a : AV) (ha : SlH X (ns.map intA) a) (hn : ns.length < 2 ^ 63) (me : FuncId) (d : Option Tmp) : callA (Cx e) (lim (Cx e)) me 139 d [a] X = some (.v (.bool (withinB 1 10 ns)), X) := by
  refine callA_still (ext_139 he) (pure_139 _ _ _) ?_ (fun h0 => fn82 he ns a (ha.closed ?_ _) hn) (fn82 he ns a (ha.lock _) hn)
  · simp [ha.yld]
  · rw [boundL_cons] at h0
    exact Nat.le_zero.1 (h0 ▸ Nat.le_max_left _ _)
end Go.Ev
namespace Go.Ev
open Go.Proofs
set_option maxRecDepth 100000
set_option linter.unusedSimpArgs false
attribute [local irreducible] Wp WpS
/-! ### the lengths of the lines of a copy -/
def lenIt (x : List AV) : Int := match x with | [_, z] => ((slElems z).length : Int) | _ => 0
def lensOf (ys : List AV) : List Int := ys.flatMap fun y => (linesOf y).map fun z => ((slElems z).length : Int)
theorem lineIts_lens (i : Nat) : ∀ (k : Nat) (zs : List AV), (lineIts i k zs).map lenIt = zs.map fun z => ((slElems z).length : Int)
  | _, [] => rfl
  | k, z :: r => by
    show lenIt _ :: (lineIts i (k + 1) r).map lenIt = _
    rw [lineIts_lens i (k + 1) r]; rfl
theorem chapIts_lens : ∀ (i : Nat) (ys : List AV), (chapIts i ys).map lenIt = lensOf ys
  | _, [] => rfl
  | i, y :: r => by
    show (lineIts i 0 (linesOf y) ++ chapIts (i + 1) r).map lenIt = _
    rw [List.map_append, lineIts_lens, chapIts_lens (i + 1) r]; rfl
def stp58 (s : List Int) (x : List AV) : AExit × List Int := (.normal, s ++ [lenIt x])
/-- an item that is a place and a line -/
def Item58 (x : List AV) : Prop := ∃ p z els, x = [p, z] ∧ SlOf 1 els z
def ok58 (s : List Int) (x : List AV) : Prop := Item58 x ∧ s.length < 2 ^ 32
theorem run58 : ∀ (T : List (List AV)) (s : List Int), (∀ x ∈ T, Item58 x) → s.length + T.length ≤ 2 ^ 32 →
    okRun (fun s x => (isGo (stp58 s x).1, (stp58 s x).2)) ok58 T s ∧ foldE stp58 T s = (.normal, s ++ T.map lenIt)
  | [], s, _, _ => ⟨trivial, by simp [foldE]⟩
  | x :: r, s, h, hl => by
    have ih := run58 r (s ++ [lenIt x]) (fun z hz => h z (List.mem_cons_of_mem _ hz)) (by simp only [List.length_append, List.length_cons, List.length_nil] at hl ⊢; omega)
    refine ⟨⟨⟨h x (List.mem_cons_self ..), by simp only [List.length_cons] at hl; omega⟩, fun _ => ih.1⟩, ?_⟩
    rw [foldE_go rfl]
    show foldE stp58 r (s ++ [lenIt x]) = _
    rw [ih.2, List.map_cons, List.append_assoc]; rfl
/-- where the lengths lie -/
def L58 (s : List Int) (lv : AV) (m2 : Nat) (rows : Fm) : Prop := (s = [] ∧ lv = .v (.slice none 0 0) ∧ rows = []) ∨ ∃ b v, lv = .sl b v 0 s.length none ∧ 5 ≤ b ∧ b < m2 ∧ rows = [(b, .cells v 0 3 1 true (s.map intA))]
def base58 (ch : AV) (id : Int) (x lv : AV) (m2 : Nat) : Fm := [(0, .cells 0 0 140 1 false [ch]), (1, .cells 0 0 66 1 false [intA id, x]), (2, .cells 0 m2 48 1 false [lv])]
def R58 (ch : AV) (id : Int) (x : AV) (s : List Int) (m : Fm) : Prop := ∃ lv m2 rows, L58 s lv m2 rows ∧ m = base58 ch id x lv m2 ++ rows
theorem R58_anch {ch : AV} {id : Int} {x : AV} (s : List Int) (m : Fm) (h : R58 ch id x s m) : Anch 3 m := by
  obtain ⟨lv, m2, rows, hl, rfl⟩ := h
  rintro n hn ⟨p, hp, hnp⟩
  refine ⟨(2, .cells 0 m2 48 1 false [lv]), List.mem_append_left _ (by unfold base58; simp), by show 2 < n; omega, ?_⟩
  show n < m2
  rcases List.mem_append.1 hp with hp | hp
  · unfold base58 at hp
    simp only [List.mem_cons, List.not_mem_nil, or_false] at hp
    rcases hp with rfl | rfl | rfl <;> simp only at hnp <;> omega
  · rcases hl with ⟨-, -, rfl⟩ | ⟨b, v, -, h5, hb, rfl⟩
    · exact nomatch hp
    · rw [List.mem_singleton.1 hp] at hnp
      simp only at hnp; omega
theorem R58_free {ch : AV} {id : Int} {x : AV} (s : List Int) (m : Fm) (h : R58 ch id x s m) : ¬ keyIn 3 m ∧ ¬ keyIn 4 m := by
  obtain ⟨lv, m2, rows, hl, rfl⟩ := h
  have key : ∀ p ∈ base58 ch id x lv m2 ++ rows, p.1 ≠ 3 ∧ p.1 ≠ 4 := by
    intro p hp
    rcases List.mem_append.1 hp with hp | hp
    · unfold base58 at hp
      simp only [List.mem_cons, List.not_mem_nil, or_false] at hp
      rcases hp with rfl | rfl | rfl <;> exact ⟨by simp, by simp⟩
    · rcases hl with ⟨-, -, rfl⟩ | ⟨b, v, -, h5, hb, rfl⟩
      · exact nomatch hp
      · rw [List.mem_singleton.1 hp]
        exact ⟨by show b ≠ 3; omega, by show b ≠ 4; omega⟩
  exact ⟨fun ⟨p, hp, h⟩ => (key p hp).1 h, fun ⟨p, hp, h⟩ => (key p hp).2 h⟩
theorem fin58 {ch : AV} {id : Int} {x : AV} {s : List Int} {lv : AV} {m2 : Nat} {rows : Fm} {X Y W : Heap} {N : Nat} {L' : ALoop} (hXY : ∀ b, b ≠ 4 → Y.get b = X.get b) (hl4 : Y.get 4 = some (.loop L')) (hXN : X.size = N) (hlk : X.lock = 0) (hsz : 5 ≤ N)
    (hH : Has (base58 ch id x lv m2 ++ rows) Y) (n : Int) (b' v' m2' : Nat) (hW2 : W.get 2 = some (.cells 0 m2' 48 1 false [.sl b' v' 0 (s.length + 1) none])) (hWb : W.get b' = some (.cells v' 0 3 1 true ((s ++ [n]).map intA)))
    (hWo : ∀ b, b < N → b ≠ 2 → b ≠ b' → W.get b = Y.get b) (hWl : W.lock = 0) (hWs : N ≤ W.size) (h5 : 5 ≤ b') (hb : N ≤ b' ∨ keyIn b' rows) (hbm : b' < m2') :
    ∃ m', R58 ch id x (s ++ [n]) m' ∧ Has m' W ∧ loopObj W 4 = some L' ∧ Moves ((4, .loop L') :: (base58 ch id x lv m2 ++ rows)) X ((4, .loop L') :: m') W := by
  have hb0 : W.get 0 = some (.cells 0 0 140 1 false [ch]) := (hWo 0 (by omega) (by omega) (by omega)).trans (hH (0, _) (List.mem_append_left _ (by unfold base58; simp)))
  have hb1 : W.get 1 = some (.cells 0 0 66 1 false [intA id, x]) := (hWo 1 (by omega) (by omega) (by omega)).trans (hH (1, _) (List.mem_append_left _ (by unfold base58; simp)))
  have hb4 : W.get 4 = some (.loop L') := (hWo 4 (by omega) (by omega) (by omega)).trans hl4
  refine ⟨base58 ch id x (.sl b' v' 0 (s.length + 1) none) m2' ++ [(b', .cells v' 0 3 1 true ((s ++ [n]).map intA))], ⟨_, m2', _, Or.inr ⟨b', v', by rw [List.length_append]; rfl, h5, hbm, rfl⟩, rfl⟩, ?_, get_loopObj hb4, ⟨hWl.trans hlk.symm, by omega, ?_, ?_⟩⟩
  · intro p hp
    rcases List.mem_append.1 hp with hp | hp
    · unfold base58 at hp
      simp only [List.mem_cons, List.not_mem_nil, or_false] at hp
      rcases hp with rfl | rfl | rfl
      · exact hb0
      · exact hb1
      · exact hW2
    · rw [List.mem_singleton.1 hp]; exact hWb
  · intro b hbn hk
    have h4 : b ≠ 4 := fun h => hk ⟨_, List.mem_cons_self .., h.symm⟩
    have h2 : b ≠ 2 := fun h => hk ⟨(2, .cells 0 m2 48 1 false [lv]), List.mem_cons_of_mem _ (List.mem_append_left _ (by unfold base58; simp)), h.symm⟩
    have hbb : b ≠ b' := fun h => by
      rcases hb with hb | ⟨p, hp, he⟩
      · omega
      · exact hk ⟨p, List.mem_cons_of_mem _ (List.mem_append_right _ hp), by omega⟩
    rw [hWo b (by omega) h2 hbb, hXY b h4]
  · intro p hp
    rcases List.mem_cons.1 hp with rfl | hp
    · exact Or.inl ⟨_, List.mem_cons_self .., rfl⟩
    · rcases List.mem_append.1 hp with hp | hp
      · unfold base58 at hp
        simp only [List.mem_cons, List.not_mem_nil, or_false] at hp
        have hm : ∀ q ∈ base58 ch id x lv m2, keyIn q.1 ((4, AObj.loop L') :: (base58 ch id x lv m2 ++ rows)) := fun q hq => ⟨q, List.mem_cons_of_mem _ (List.mem_append_left _ hq), rfl⟩
        rcases hp with rfl | rfl | rfl
        · exact Or.inl (hm (0, .cells 0 0 140 1 false [ch]) (by unfold base58; simp))
        · exact Or.inl (hm (1, .cells 0 0 66 1 false [intA id, x]) (by unfold base58; simp))
        · exact Or.inl (hm (2, .cells 0 m2 48 1 false [lv]) (by unfold base58; simp))
      · rw [List.mem_singleton.1 hp]
        rcases hb with hb | ⟨q, hq, he⟩
        · exact Or.inr (by rw [hXN]; exact hb)
        · exact Or.inl ⟨q, List.mem_cons_of_mem _ (List.mem_append_right _ hq), he⟩
end Go.Ev
namespace Go.Ev
open Go.Proofs
set_option maxRecDepth 100000
set_option linter.unusedSimpArgs false
attribute [local irreducible] Wp WpS
theorem call80 {e : Exts} (he : Quiet e) (t : Txt) (ht : Fits t) (ch : AV) (xs : List AV) (hch : SlOf 2 xs ch) (hall : All2 ChapA t xs) (l : List Rd) (x : AV) (hx : RdsA l x) (hn : l.length < 2 ^ 63) (hrd : ∀ r ∈ l, RdF r) (me : FuncId) (d : Option Tmp) (H : Heap) : callA (Cx e) (lim (Cx e)) me 137 d [.agg [ch], x] H = some (.v (.bool (l.all (fitOne t))), H) :=
  (ans80 he t ht ch xs hch hall l x hx hn hrd).call (ext_137 he) (pure_137 _ _ _) (by simp only [boundL_cons, bound_agg, hch.bound, SlOf.bound hx, boundL_nil]; rfl) H
theorem fitsA8 : fitsA 8 1 = true := by decide
set_option maxHeartbeats 4000000 in
theorem ans58 {e : Exts} (he : Quiet e) (t : Txt) (ht : Fits t) (ch : AV) (xs : List AV) (hch : SlOf 2 xs ch) (hall : All2 ChapA t xs) (id : Int) (hid : withinB 0 9999 [id] = true) (rs : List Rd) (x : AV) (hx : RdsA rs x) (hrs : ¬ 20 < (rs.length : Int)) (hrd : ∀ r ∈ rs, RdF r) (hfit : rs.all (fitOne t) = true) (hord : ordB rs = true) (ys : List AV) (o : AV) (ho : SlOf 2 ys o) (hys : ∀ y ∈ ys, OkCh y) (hyl : ys.length < 2 ^ 63) (hit : ∀ z ∈ chapIts 0 ys, Item58 z) (hcnt : (chapIts 0 ys).length < 2 ^ 32) (h55 : Ans (Cx e) 96 [.agg [ch], .agg [intA id, x]] (.agg [o])) : Ans (Cx e) 121 [.agg [ch], .agg [intA id, x]] (.v (.bool (withinB 1 10 (lensOf ys)))) := by
  have hxr := hx
  have hx : SlOf 5 (rs.map rdV) x := hx
  have hc55 : ∀ (me : FuncId) (d : Option Tmp) (H : Heap), callA (Cx e) (lim (Cx e)) me 96 d [.agg [ch], .agg [.v (.int .i64 id), x]] H = some (.agg [o], H) := fun me d H =>
    h55.call (ext_96 he) (pure_96 _ _ _) (by simp only [boundL_cons, bound_agg, hch.bound, intA, bound_v, hx.bound, boundL_nil]; rfl) H
  have h51 := call51 he id
  rw [hid] at h51
  have h80 := call80 he t ht ch xs hch hall rs x hxr (by omega) hrd
  rw [hfit] at h80
  have h81 := call81 he rs x hxr (by omega)
  rw [hord] at h81
  unfold Ans
  rw [fn_step (fn_121 e) (show Tryz.f121.body = some _ from rfl)]
  simp -implicitDefEqProofs only [Tryz.f121, go_sem, ↓reduceIte, Int.reduceEq, Int.reduceLT, Int.reduceLE, List.reduceReplicate, intA, setT_nil, setT_cons, ↓boolP_bool, ↓iteB_true, ↓iteB_false, hch.cells, hch.flat, hch.bound, hx.cells, hx.flat, hx.bound, hx.len, List.length_map, h51, h80, h81, hrs, hc55, ho.cells, ho.flat, ho.bound, call64 he o ys ho]
  refine wp_range2 (yields2_88 o ys ho hys hyl) rfl (R58 ch id x) stp58 (fun _ => True) ok58 (n0 := 3) (k := 0) (Nat.le_refl _) (Nat.zero_le _) ?_ (fun s m h => R58_anch s m h) (fun s m h => R58_free s m h) ?_ ?_ [] (base58 ch id x (.v (.slice none 0 0)) 0) ?_ ?_ ?_ ?_ ?_ ?_
  · intro z hz
    obtain ⟨p, z, els, rfl, -⟩ := hit z hz
    rfl
  · intro _ _ _ _ _; trivial
  · intro L L' s m z X hL hs hok hxl hR hH hd0 hl1 hlk hsz
    obtain ⟨⟨p, z, els, rfl, hz⟩, hsl⟩ := hok
    obtain ⟨lv, m2, rows, hl, rfl⟩ := hR
    have hsz : 5 ≤ X.size := hsz
    have hl1 : loopObj X 4 = some L := hl1
    have hd0 : X.get 3 = some .dfr := hd0
    generalize hN : X.size = N at *
    have hlkN : X.lock ≤ N := by rw [hlk]; exact Nat.zero_le _
    rw [← plus_nil X]
    simp -implicitDefEqProofs only [go_sem, ↓reduceIte, Int.reduceEq, Int.reduceLT, Int.reduceLE, List.reduceReplicate, intA, setT_nil, setT_cons, sizeP hN, putP0 hN, putP hN, settleP0 hN, settleP hN, rowP0 hN, rowP hN, storeP0 hN hlkN, storeP hN hlkN]
    refine ⟨rfl, ?_, ?_⟩
    · refine get_loopObj ?_
      rw [plus_get _ (by omega)]; exact loopObj_getI hl1
    · rw [putLo (by omega)]
      have hf := R58_free (ch := ch) (id := id) (x := x) s _ ⟨lv, m2, rows, hl, rfl⟩
      have hH4 := hH.put (.loop L') (b := 4) (by omega) hf.2
      have hN4 : (X.put 4 (.loop L')).size = N := by rw [put_sizeI _ (by omega)]; exact hN
      have hlk4 : (X.put 4 (.loop L')).lock = 0 := hlk
      have hl4 : (X.put 4 (.loop L')).get 4 = some (.loop L') := put_get_eq _ (by omega)
      have hsm4 : ∀ b, b ≠ 4 → (X.put 4 (.loop L')).get b = X.get b := fun b hb => put_get_ne _ (by omega) hb
      generalize X.put 4 (.loop L') = Y at *
      have hlkY : Y.lock ≤ N := by rw [hlk4]; exact Nat.zero_le _
      have h2' : Y.row 2 0 = some (m2, 48, 1, false, [lv]) := get_row (hH4 (2, _) (List.mem_append_left _ (by unfold base58; simp)))
      have hr2 : ∀ E, (Y.plus E).row 2 0 = some (m2, 48, 1, false, [lv]) := fun E => by rw [rowLo (by omega)]; exact h2'
      have hst := fun (w : AV) (hw : w.flat = true) E => storeLoK (X := Y) (b := 2) (v := 0) (k := 0) (x := w) (by omega) (by omega) h2' (Nat.le_refl _) hw E
      have hst := fun b' v' l' c' E => hst (.sl b' v' 0 l' c') rfl E
      have hn : lenIt [p, z] = (els.length : Int) := by show ((slElems z).length : Int) = _; rw [hz.elems]
      rcases hl with ⟨rfl, rfl, rfl⟩ | ⟨b, v, rfl, hb5, hbm, rfl⟩
      · simp -implicitDefEqProofs only [go_sem, ↓reduceIte, Int.reduceEq, Int.reduceLT, Int.reduceLE, List.reduceReplicate, intA, setT_nil, setT_cons, sizeP hN4, putP0 hN4, putP hN4, settleP0 hN4, settleP hN4, rowP0 hN4, rowP hN4, storeP0 hN4 hlkY, storeP hN4 hlkY, hr2, hz.len, fitsA8, hst, List.flatMap_cons, List.flatMap_nil]
        rw [show stp58 [] [p, z] = (.normal, [] ++ [(els.length : Int)]) by unfold stp58; rw [hn]]
        rw [plus_nil]
        refine ⟨rfl, ?_⟩
        have hmm : N < (if m2 ≤ bound (AV.sl N 0 0 1 none) then bound (AV.sl N 0 0 1 none) else m2) := by rw [bound_sl]; split <;> omega
        generalize (if m2 ≤ bound (AV.sl N 0 0 1 none) then bound (AV.sl N 0 0 1 none) else m2) = m2' at *
        have hP : (Y.put 2 (.cells 0 m2' 48 1 false [.sl N 0 0 1 none])).size = N := by rw [put_sizeI _ (by omega)]; exact hN4
        have hH5 : Has (base58 ch id x (.v (.slice none 0 0)) m2 ++ []) Y := hH4
        have hfin := fin58 (W := settleH N ((Y.put 2 (.cells 0 m2' 48 1 false [.sl N 0 0 1 none])).plus [some (.cells 0 0 3 1 true [.v (.int .i64 els.length)])])) (s := []) hsm4 hl4 hN hlk hsz hH5 (els.length : Int) N 0 m2' ?_ ?_ ?_ ?_ ?_ hsz (Or.inl (Nat.le_refl _)) hmm
        · simpa using hfin
        · rw [settle_lo (by omega), plus_get _ (by omega)]; exact put_get_eq _ (by omega)
        · refine settle_some ?_
          rw [plus_get_hi _ (by omega), hP, Nat.sub_self]; rfl
        · intro b hb h2 hbb
          rw [settle_lo (by omega), plus_get _ (by omega), put_get_ne _ (by omega) (by omega)]
        · rw [settle_lock]; exact hlk4
        · exact settle_size' (by rw [plus_size, hP]; omega)
      · have hgb : Y.get b = some (.cells v 0 3 1 true (s.map intA)) := hH4 _ (List.mem_append_right _ (List.mem_singleton.2 rfl))
        have hbN : b < N := by have := get_ltS hgb; omega
        have hrb : ∀ E, (Y.plus E).row b v = some (0, 3, 1, true, s.map intA) := fun E => by rw [rowLo (by omega)]; exact get_row hgb
        have happ := fun E slot => appTo_own (H := Y.plus E) (slot := slot) (e := 3) (sz := 1) (b' := 8) (n := 1) (new := [.v (.int .i64 els.length)]) (hrb E) (by rw [Nat.mul_one, List.length_map]) (by show Y.lock ≤ _; omega) (by unfold fitsA; exact decide_eq_true (by omega)) (by omega) (by omega)
        have hpl := fun E o => putLo (X := Y) (b := b) (by omega) E o
        have hsto := fun o (w : AV) (hw : w.flat = true) E => storeLoK (X := Y.put b o) (b := 2) (v := 0) (k := 0) (x := w) (by rw [put_sizeI _ (by omega)]; omega) (by show Y.lock ≤ 2; omega) (get_row ((put_get_ne o (by omega) (by omega)).trans (row_of_get h2'))) (Nat.le_refl _) hw E
        have hsto := fun o b' v' l' c' E => hsto o (.sl b' v' 0 l' c') rfl E
        simp -implicitDefEqProofs only [go_sem, ↓reduceIte, Int.reduceEq, Int.reduceLT, Int.reduceLE, List.reduceReplicate, intA, setT_nil, setT_cons, sizeP hN4, putP0 hN4, putP hN4, settleP0 hN4, settleP hN4, rowP0 hN4, rowP hN4, storeP0 hN4 hlkY, storeP hN4 hlkY, hr2, hz.len, hst, List.flatMap_cons, List.flatMap_nil, happ, hpl, hsto]
        rw [show stp58 s [p, z] = (.normal, s ++ [(els.length : Int)]) by unfold stp58; rw [hn]]
        rw [plus_nil X]
        refine ⟨rfl, ?_⟩
        have hmm : b < (if m2 ≤ bound (AV.sl b (v + 1) 0 (s.length + 1) none) then bound (AV.sl b (v + 1) 0 (s.length + 1) none) else m2) := by rw [bound_sl]; split <;> omega
        generalize (if m2 ≤ bound (AV.sl b (v + 1) 0 (s.length + 1) none) then bound (AV.sl b (v + 1) 0 (s.length + 1) none) else m2) = m2' at *
        have hP1 : (Y.put b (.cells (v + 1) 0 3 1 true (s.map intA ++ [.v (.int .i64 els.length)]))).size = N := by rw [put_sizeI _ (by omega)]; exact hN4
        have hP : ((Y.put b (.cells (v + 1) 0 3 1 true (s.map intA ++ [.v (.int .i64 els.length)]))).put 2 (.cells 0 m2' 48 1 false [.sl b (v + 1) 0 (s.length + 1) none])).size = N := by rw [put_sizeI _ (by omega)]; exact hP1
        have hfin := fin58 (W := settleH N (((Y.put b (.cells (v + 1) 0 3 1 true (s.map intA ++ [.v (.int .i64 els.length)]))).put 2 (.cells 0 m2' 48 1 false [.sl b (v + 1) 0 (s.length + 1) none])).plus [])) (s := s) hsm4 hl4 hN hlk hsz hH4 (els.length : Int) b (v + 1) m2' ?_ ?_ ?_ ?_ ?_ hb5 (Or.inr ⟨_, List.mem_singleton.2 rfl, rfl⟩) hmm
        · exact hfin
        · rw [settle_lo (by omega), plus_get _ (by omega)]; exact put_get_eq _ (by omega)
        · rw [settle_lo (by omega), plus_get _ (by omega), put_get_ne _ (by omega) (by omega), put_get_eq _ (by omega), List.map_append]; rfl
        · intro b' hb h2 hbb
          rw [settle_lo (by omega), plus_get _ (by omega), put_get_ne _ (by omega) (by omega), put_get_ne _ (by omega) (by omega)]
        · rw [settle_lock]; exact hlk4
        · exact settle_size' (by rw [plus_size, hP]; omega)
  · exact (run58 _ _ hit (by simp only [List.length_nil]; omega)).1
  · trivial
  · exact ⟨_, 0, [], Or.inl ⟨rfl, rfl, rfl⟩, by rw [List.append_nil]⟩
  · intro q hq
    unfold base58 at hq
    simp only [List.mem_cons, List.not_mem_nil, or_false] at hq
    rcases hq with rfl | rfl | rfl <;> rfl
  · rfl
  · intro m' H' hR hH hd hdead hmv hsz
    rw [(run58 _ _ hit (by simp only [List.length_nil]; omega)).2] at hR ⊢
    obtain ⟨lv, m2, rows, hl, rfl⟩ := hR
    have hlk : H'.lock = 0 := hmv.lock
    have hsz : 5 ≤ H'.size := hsz
    have hd : H'.get 3 = some .dfr := hd
    simp only [List.nil_append, chapIts_lens] at hl
    have hr2 : H'.row 2 0 = some (m2, 48, 1, false, [lv]) := get_row (hH (2, _) (List.mem_append_left _ (by unfold base58; simp)))
    have hcl : (lensOf ys).length < 2 ^ 63 := by rw [← chapIts_lens 0 ys, List.length_map]; omega
    have hslh : SlH H' ((lensOf ys).map intA) lv := by
      rcases hl with ⟨h0, rfl, -⟩ | ⟨b, v, rfl, hb5, hbm, rfl⟩
      · exact Or.inl (Or.inl ⟨rfl, by rw [h0]; rfl⟩)
      · have hgb : H'.get b = some (.cells v 0 3 1 true ((lensOf ys).map intA)) := hH _ (List.mem_append_right _ (List.mem_singleton.2 rfl))
        exact Or.inr ⟨b, v, none, 0, 3, true, _, by rw [List.length_map], get_size hgb, get_row hgb, List.take_length, Nat.le_refl _⟩
    have hc82 := callP82 he (lensOf ys) lv hslh hcl
    have hkill : killAll [3] H' = some (H'.put 3 .dead) := by
      unfold killAll
      rw [hd]
      show (if H'.lock ≤ 3 then killAll [] (H'.put 3 .dead) else none) = _
      rw [if_pos (by omega)]; rfl
    clear hmv hdead
    simp -implicitDefEqProofs only [go_sem, ↓reduceIte, Int.reduceEq, Int.reduceLT, Int.reduceLE, List.reduceReplicate, intA, setT_nil, setT_cons, hr2, hc82, hkill]
theorem has58 {e : Exts} (he : Quiet e) (t : Txt) (ht : Fits t) (ch : AV) (xs : List AV) (hch : SlOf 2 xs ch) (hall : All2 ChapA t xs) (id : Int) (hid : withinB 0 9999 [id] = true) (rs : List Rd) (x : AV) (hx : RdsA rs x) (hrs : ¬ 20 < (rs.length : Int)) (hrd : ∀ r ∈ rs, RdF r) (hfit : rs.all (fitOne t) = true) (hord : ordB rs = true) (ys : List AV) (o : AV) (ho : SlOf 2 ys o) (hys : ∀ y ∈ ys, OkCh y) (hyl : ys.length < 2 ^ 63) (hit : ∀ z ∈ chapIts 0 ys, Item58 z) (hcnt : (chapIts 0 ys).length < 2 ^ 32) (h55 : Ans (Cx e) 96 [.agg [ch], .agg [intA id, x]] (.agg [o])) : Has58 e ch id x (withinB 1 10 (lensOf ys)) := fun me d H =>
  (ans58 he t ht ch xs hch hall id hid rs x hx hrs hrd hfit hord ys o ho hys hyl hit hcnt h55).call (ext_121 he) (pure_121 _ _ _) (by simp only [boundL_cons, bound_agg, hch.bound, intA, bound_v, SlOf.bound hx, boundL_nil]; rfl) H
end Go.Ev
namespace Go.Ev
open Go.Proofs
set_option maxRecDepth 100000
set_option linter.unusedSimpArgs false
/-! ### a line of a copy, read in either way -/
/-- how readings of one line stand one behind the other -/
def Bhd (a b : Rd) : Prop := a.wd ≤ b.wd ∧ (a.kind ≠ 2 → a.wd < b.wd)
/-- a way to write a copy's line word by word -/
structure Way (ls : Line) (on : Rd → Prop) (W : List Rd → List ByteArray → Nat → List ByteArray) : Prop where
  none : ∀ ds w s, ls[w]? = some s → W [] ds w = ds ++ [s]
  last : ∀ ds, W [] ds ls.length = ds
  skip : ∀ (r : Rd) (l : List Rd) (ds : List ByteArray) (w : Nat), r.wd ≠ (w : Nat) → W (r :: l) ds w = W l ds w
  put : ∀ (r : Rd) (l : List Rd) (ds : List ByteArray) (w : Nat), on r → r.wd = (w : Nat) → r.kind = 2 → W (r :: l) ds w = W l (ds ++ [r.word]) w
  other : ∀ (r : Rd) (l : List Rd) (ds : List ByteArray) (w : Nat), on r → r.wd = (w : Nat) → r.kind ≠ 2 → w < ls.length → (∀ q ∈ l, q.wd ≠ (w : Nat)) → W (r :: l) ds w = ds ++ if r.word = emp then [] else [r.word]
theorem Way.far {ls : Line} {on : Rd → Prop} {W : List Rd → List ByteArray → Nat → List ByteArray} (hW : Way ls on W) (ds : List ByteArray) (w : Nat) : ∀ l : List Rd, (∀ r ∈ l, r.wd ≠ (w : Nat)) → W l ds w = W [] ds w
  | [], _ => rfl
  | r :: l, h => by rw [hW.skip r l ds w (h r (List.mem_cons_self ..)), hW.far ds w l fun q hq => h q (List.mem_cons_of_mem _ hq)]
theorem drop_take_succ (ls : Line) (p n : Nat) (s : ByteArray) (h : ls[p]? = some s) : (ls.drop p).take (n + 1) = s :: (ls.drop (p + 1)).take n := by
  obtain ⟨hp, rfl⟩ := List.getElem?_eq_some_iff.1 h
  rw [List.drop_eq_getElem_cons hp, List.take_succ_cons]
theorem Way.free {ls : Line} {on : Rd → Prop} {W : List Rd → List ByteArray → Nat → List ByteArray} (hW : Way ls on W) (l : List Rd) : ∀ (n p : Nat) (ds : List ByteArray), p + n ≤ ls.length → (∀ r ∈ l, ((p + n : Nat) : Int) ≤ r.wd) → (List.range' p n).foldl (W l) ds = ds ++ (ls.drop p).take n
  | 0, p, ds, _, _ => by simp
  | n + 1, p, ds, h1, h2 => by
    obtain ⟨s, hs⟩ := at_lt ls p (by omega)
    rw [List.range'_succ, List.foldl_cons, hW.far ds p l (fun r hr => by have := h2 r hr; omega), hW.none ds p s hs, hW.free l n (p + 1) (ds ++ [s]) (by omega) (fun r hr => by have := h2 r hr; omega), drop_take_succ ls p n s hs, List.append_assoc]
    rfl
theorem foldl_eq {α β : Type} {f g : α → β → α} : ∀ (l : List β) (a : α), (∀ b ∈ l, ∀ a, f a b = g a b) → l.foldl f a = l.foldl g a
  | [], _, _ => rfl
  | b :: l, a, h => by rw [List.foldl_cons, List.foldl_cons, h b (List.mem_cons_self ..) a, foldl_eq l _ fun c hc => h c (List.mem_cons_of_mem _ hc)]
theorem range'_split (p q n : Nat) (h1 : p ≤ q) (h2 : q ≤ n) : List.range' p (n - p) = List.range' p (q - p) ++ List.range' q (n - q) := by
  have h := List.range'_append (s := p) (m := q - p) (n := n - q) (step := 1)
  rw [Nat.one_mul, show p + (q - p) = q by omega, show q - p + (n - q) = n - p by omega] at h
  exact h.symm
/-- the word is what the kind says -/
structure RdW (ls : Line) (r : Rd) : Prop where
  kind : r.kind = 1 ∨ r.kind = 2 ∨ r.kind = 3
  word : r.kind = 1 ↔ r.word = emp
  hi : r.wd + (if r.kind = 2 then 0 else 1) ≤ ls.length
theorem way_read {ls : Line} {on : Rd → Prop} {W : List Rd → List ByteArray → Nat → List ByteArray} (hW : Way ls on W) : ∀ (l : List Rd) (p : Nat) (ds : List ByteArray), p ≤ ls.length → (∀ r ∈ l, on r ∧ RdW ls r ∧ (p : Int) ≤ r.wd) → l.Pairwise Bhd →
    (List.range' p (ls.length + 1 - p)).foldl (W l) ds = (l.foldl (rdOne ls) (p, ds)).2 ++ ls.drop (l.foldl (rdOne ls) (p, ds)).1
  | [], p, ds, hp, _, _ => by
    rw [range'_split p ls.length (ls.length + 1) hp (Nat.le_succ _), List.foldl_append, hW.free [] (ls.length - p) p ds (by omega) (fun r hr => nomatch hr), Nat.add_sub_cancel_left]
    show W [] _ ls.length = _
    rw [hW.last]
    show _ = ds ++ ls.drop p
    rw [List.take_of_length_le (by rw [List.length_drop]; exact Nat.le_refl _)]
  | r :: l, p, ds, hp, hr, hs => by
    obtain ⟨hon, hrw, hpw⟩ := hr r (List.mem_cons_self ..)
    obtain ⟨hb, hs'⟩ := List.pairwise_cons.1 hs
    obtain ⟨q, hq⟩ : ∃ q : Nat, r.wd = q := ⟨r.wd.toNat, by omega⟩
    have hhi := hrw.hi
    have hql : q ≤ ls.length := by split at hhi <;> omega
    have hqt : r.wd.toNat = q := by omega
    have hall : ∀ x ∈ r :: l, (q : Int) ≤ x.wd := fun x hx => by
      rcases List.mem_cons.1 hx with rfl | hx
      · omega
      · have := (hb x hx).1; omega
    have hf := hW.free (r :: l) (q - p) p ds (by omega) (fun x hx => by have := hall x hx; omega)
    rw [range'_split p q (ls.length + 1) (by omega) (by omega), List.foldl_append, hf]
    have hrest : ∀ (a : List ByteArray) (n : Nat), (List.range' (q + 1) n).foldl (W (r :: l)) a = (List.range' (q + 1) n).foldl (W l) a := fun a n =>
      foldl_eq _ a fun w hw a => hW.skip r l a w (by have := (List.mem_range'_1.1 hw).1; omega)
    by_cases hk : r.kind = 2
    · have hd : (r :: l).foldl (rdOne ls) (p, ds) = l.foldl (rdOne ls) (q, ds ++ (ls.drop p).take (q - p) ++ [r.word]) := by
        rw [List.foldl_cons]; unfold rdOne
        simp only [hk, hqt, if_true]
        rw [if_neg (by omega)]
      rw [hd, ← way_read hW l q _ hql (fun x hx => ⟨(hr x (List.mem_cons_of_mem _ hx)).1, (hr x (List.mem_cons_of_mem _ hx)).2.1, hall x (List.mem_cons_of_mem _ hx)⟩) hs']
      rw [show ls.length + 1 - q = (ls.length - q) + 1 by omega, List.range'_succ, List.foldl_cons, List.foldl_cons, hW.put r l _ q hon hq hk, hrest]
    · have hlt : q < ls.length := by rw [if_neg hk] at hhi; omega
      have hne : ∀ x ∈ l, x.wd ≠ (q : Nat) := fun x hx => by have := (hb x hx).2 hk; omega
      have hw : (if r.kind = 1 then ([] : List ByteArray) else [r.word]) = if r.word = emp then [] else [r.word] := by
        by_cases h1 : r.kind = 1
        · rw [if_pos h1, if_pos (hrw.word.1 h1)]
        · rw [if_neg h1, if_neg (fun h => h1 (hrw.word.2 h))]
      have hd : (r :: l).foldl (rdOne ls) (p, ds) = l.foldl (rdOne ls) (q + 1, ds ++ (ls.drop p).take (q - p) ++ if r.word = emp then [] else [r.word]) := by
        rw [List.foldl_cons]; unfold rdOne
        simp only [hk, hqt, if_false, hw]
      rw [hd, ← way_read hW l (q + 1) _ hlt (fun x hx => ⟨(hr x (List.mem_cons_of_mem _ hx)).1, (hr x (List.mem_cons_of_mem _ hx)).2.1, by have := (hb x hx).2 hk; omega⟩) hs']
      rw [show ls.length + 1 - q = (ls.length + 1 - (q + 1)) + 1 by omega, List.range'_succ, List.foldl_cons, hW.other r l _ q hon hq hk hlt hne, hrest]
theorem way_line {ls : Line} {on : Rd → Prop} {W : List Rd → List ByteArray → Nat → List ByteArray} (hW : Way ls on W) (l : List Rd) (hr : ∀ r ∈ l, on r ∧ RdW ls r ∧ 0 ≤ r.wd) (hs : l.Pairwise Bhd) : (List.range (ls.length + 1)).foldl (W l) [] = readLineL ls l := by
  rw [List.range_eq_range']
  exact way_read hW l 0 [] (Nat.zero_le _) hr hs
/-- readings of a line, one behind the other, are read -/
theorem rdsOk_of {ls : Line} : ∀ (l : List Rd) (p : Nat), (∀ r ∈ l, RdW ls r ∧ (p : Int) ≤ r.wd) → l.Pairwise Bhd → RdsOk ls p l
  | [], _, _, _ => trivial
  | r :: l, p, hr, hs => by
    obtain ⟨hrw, hpw⟩ := hr r (List.mem_cons_self ..)
    obtain ⟨hb, hs'⟩ := List.pairwise_cons.1 hs
    refine ⟨⟨hpw, hrw.kind, hrw.hi⟩, rdsOk_of l _ (fun x hx => ⟨(hr x (List.mem_cons_of_mem _ hx)).1, ?_⟩) hs'⟩
    have h := hb x hx
    have h0 : 0 ≤ r.wd := by omega
    by_cases hk : r.kind = 2
    · rw [if_pos hk]; have := h.1; omega
    · rw [if_neg hk]; have := h.2 hk; omega
/-! ### the reference's way -/
theorem refI_far (k n : Int) (w : Nat) (l : List Rd) (h : ∀ q ∈ l, q.wd ≠ (w : Nat)) (s : List ByteArray × ByteArray) : l.foldl (refI k n w) s = s := by
  induction l generalizing s with
  | nil => rfl
  | cons r l ih =>
    have : refI k n w s r = s := by unfold refI; rw [if_neg (fun hh => h r (List.mem_cons_self ..) hh.2.2)]
    rw [List.foldl_cons, this, ih fun q hq => h q (List.mem_cons_of_mem _ hq)]
theorem way_ref (ls : Line) (hne : ∀ s ∈ ls, s ≠ emp) (k n : Int) : Way ls (fun r => r.ch = k ∧ r.ln = n) (fun l => refW ls l k n) := by
  refine ⟨fun ds w s hs => ?_, fun ds => ?_, fun r l ds w h => ?_, fun r l ds w ho h hk => ?_, fun r l ds w ho h hk hw hf => ?_⟩
  · unfold refW
    simp only [List.foldl_nil, hs, Option.getD_some]
    rw [if_neg (hne s (List.mem_of_getElem? hs))]
  · unfold refW
    simp only [List.foldl_nil, List.getElem?_eq_none_iff.2 (Nat.le_refl _), Option.getD_none, if_true]
  · unfold refW
    rw [List.foldl_cons, show refI k n w (ds, (ls[w]?).getD emp) r = (ds, (ls[w]?).getD emp) by unfold refI; rw [if_neg (fun hh => h hh.2.2)]]
  · unfold refW
    rw [List.foldl_cons, show refI k n w (ds, (ls[w]?).getD emp) r = (ds ++ [r.word], (ls[w]?).getD emp) by unfold refI; rw [if_pos ⟨ho.1, ho.2, h⟩, if_pos hk]]
  · unfold refW
    rw [List.foldl_cons, show refI k n w (ds, (ls[w]?).getD emp) r = (ds, r.word) by unfold refI; rw [if_pos ⟨ho.1, ho.2, h⟩, if_neg hk], refI_far k n w l hf]
    simp only
    split
    · rw [List.append_nil]
    · rfl
theorem atLine_iff {k n : Int} {r : Rd} : atLine k n 0 r = true ↔ r.ch = k ∧ r.ln = n := by
  unfold atLine eqP; simp
theorem refW_filter (ls : Line) (rs : List Rd) (k n : Int) (ds : List ByteArray) (w : Nat) : refW ls rs k n ds w = refW ls (rs.filter (atLine k n 0)) k n ds w := by
  have h : ∀ (l : List Rd) (s : List ByteArray × ByteArray), l.foldl (refI k n w) s = (l.filter (atLine k n 0)).foldl (refI k n w) s := by
    intro l
    induction l with
    | nil => intro s; rfl
    | cons r l ih =>
      intro s
      cases ha : atLine k n 0 r
      · have : refI k n w s r = s := by unfold refI; rw [if_neg (fun hh => by rw [atLine_iff.2 ⟨hh.1, hh.2.1⟩] at ha; cases ha)]
        rw [List.foldl_cons, this, ih, List.filter_cons_of_neg (by rw [ha]; simp)]
      · rw [List.filter_cons_of_pos ha, List.foldl_cons, List.foldl_cons, ih]
  unfold refW; rw [h rs]
/-! ### the law's way -/
def putAt (k n w : Int) (r : Rd) : Bool := decide (r.kind = 2) && eqP r.ch r.ln r.wd k n w
def lawW (ls : Line) (rs : List Rd) (k n : Int) (ds : List ByteArray) (w : Nat) : List ByteArray :=
  let d := ds ++ (rs.filter (putAt k n w)).map Rd.word
  match ls[w]? with
  | none => d
  | some s => if standL rs k n w s = emp then d else d ++ [standL rs k n w s]
theorem eqP_wd {r : Rd} {k n : Int} {w : Nat} (h : r.wd ≠ (w : Nat)) : eqP r.ch r.ln r.wd k n w = false := by
  unfold eqP; simp; intro _ _ h2; exact h h2
theorem eqP_on {r : Rd} {k n : Int} {w : Nat} (h : r.ch = k ∧ r.ln = n) (hw : r.wd = (w : Nat)) : eqP r.ch r.ln r.wd k n w = true := by
  unfold eqP; simp [h.1, h.2, hw]
theorem stand_cons_no {r : Rd} {l : List Rd} {k n w : Int} {s : ByteArray} (h : takesB k n w r = false) : standL (r :: l) k n w s = standL l k n w s := by unfold standL; rw [List.find?_cons, h]
theorem stand_cons_yes {r : Rd} {l : List Rd} {k n w : Int} {s : ByteArray} (h : takesB k n w r = true) : standL (r :: l) k n w s = r.word := by unfold standL; rw [List.find?_cons, h]
theorem way_law (ls : Line) (hne : ∀ s ∈ ls, s ≠ emp) (k n : Int) : Way ls (fun r => r.ch = k ∧ r.ln = n) (fun l => lawW ls l k n) := by
  refine ⟨fun ds w s hs => ?_, fun ds => ?_, fun r l ds w h => ?_, fun r l ds w ho h hk => ?_, fun r l ds w ho h hk hw hf => ?_⟩
  · unfold lawW
    have h0 : standL [] k n w s = s := rfl
    simp only [hs, List.filter_nil, List.map_nil, List.append_nil, h0]
    rw [if_neg (hne s (List.mem_of_getElem? hs))]
  · unfold lawW
    simp only [List.getElem?_eq_none_iff.2 (Nat.le_refl _), List.filter_nil, List.map_nil, List.append_nil]
  · have h1 : putAt k n w r = false := by unfold putAt; rw [eqP_wd h, Bool.and_false]
    have h2 : takesB k n w r = false := by unfold takesB; rw [eqP_wd h]; rfl
    unfold lawW
    rw [List.filter_cons_of_neg (by rw [h1]; simp)]
    simp only [stand_cons_no h2]
  · have h1 : putAt k n w r = true := by unfold putAt; rw [eqP_on ho h, Bool.and_true]; exact decide_eq_true hk
    have h2 : takesB k n w r = false := by unfold takesB; rw [decide_eq_true hk, Bool.not_true, Bool.and_false]
    unfold lawW
    rw [List.filter_cons_of_pos h1]
    simp only [stand_cons_no h2, List.map_cons, List.append_assoc, List.singleton_append]
  · have h1 : putAt k n w r = false := by unfold putAt; rw [decide_eq_false hk]; rfl
    have h2 : takesB k n w r = true := by unfold takesB; rw [eqP_on ho h, decide_eq_false hk]; rfl
    have h3 : l.filter (putAt k n w) = [] := List.filter_eq_nil_iff.2 fun q hq => by unfold putAt; rw [eqP_wd (hf q hq), Bool.and_false]; simp
    obtain ⟨s, hs⟩ := at_lt ls w hw
    unfold lawW
    rw [List.filter_cons_of_neg (by rw [h1]; simp), h3]
    simp only [hs, stand_cons_yes h2, List.map_nil, List.append_nil]
    split
    · rw [List.append_nil]
    · rfl
theorem lawW_filter (ls : Line) (rs : List Rd) (k n : Int) (ds : List ByteArray) (w : Nat) : lawW ls rs k n ds w = lawW ls (rs.filter (atLine k n 0)) k n ds w := by
  have ha : ∀ r : Rd, eqP r.ch r.ln r.wd k n w = true → atLine k n 0 r = true := fun r h => by
    unfold eqP at h; simp at h; exact atLine_iff.2 ⟨h.1, h.2.1⟩
  have h1 : rs.filter (putAt k n w) = (rs.filter (atLine k n 0)).filter (putAt k n w) := by
    rw [List.filter_filter]
    refine List.filter_congr fun r _ => ?_
    cases hp : putAt k n w r
    · rfl
    · have : eqP r.ch r.ln r.wd k n w = true := by unfold putAt at hp; simp only [Bool.and_eq_true] at hp; exact hp.2
      rw [ha r this]; rfl
  have h2 : ∀ s, standL rs k n w s = standL (rs.filter (atLine k n 0)) k n w s := fun s => by
    induction rs with
    | nil => rfl
    | cons r l ih =>
      cases hl : atLine k n 0 r
      · have ht : takesB k n w r = false := by
          cases ht : takesB k n w r
          · rfl
          · unfold takesB at ht; simp only [Bool.and_eq_true] at ht; rw [ha r ht.1] at hl; cases hl
        rw [stand_cons_no ht, List.filter_cons_of_neg (by rw [hl]; simp)]
        exact ih (by rw [List.filter_filter]; refine List.filter_congr fun r _ => ?_; cases hp : putAt k n w r
                     · rfl
                     · have : eqP r.ch r.ln r.wd k n w = true := by unfold putAt at hp; simp only [Bool.and_eq_true] at hp; exact hp.2
                       rw [ha r this]; rfl)
      · rw [List.filter_cons_of_pos hl]
        unfold standL
        rw [List.find?_cons, List.find?_cons]
        cases ht : takesB k n w r
        · exact ih (by rw [List.filter_filter]; refine List.filter_congr fun r _ => ?_; cases hp : putAt k n w r
                       · rfl
                       · have : eqP r.ch r.ln r.wd k n w = true := by unfold putAt at hp; simp only [Bool.and_eq_true] at hp; exact hp.2
                         rw [ha r this]; rfl)
        · rfl
  unfold lawW; rw [← h1]; simp only [← h2]
end Go.Ev
namespace Go.Ev
open Go.Proofs
set_option maxRecDepth 100000
set_option linter.unusedSimpArgs false
/-! ### readings in order -/
def Ahd (a b : Rd) : Prop := a.ch < b.ch ∨ (a.ch = b.ch ∧ (a.ln < b.ln ∨ (a.ln = b.ln ∧ a.wd ≤ b.wd ∧ (a.kind ≠ 2 → a.wd < b.wd))))
theorem Ahd.trans {a b c : Rd} (h1 : Ahd a b) (h2 : Ahd b c) : Ahd a c := by
  unfold Ahd at *; omega
theorem pairR_ahd {a b : Rd} (h : pairR a b = true) : Ahd a b := by
  unfold pairR beforeB eqP at h
  unfold Ahd
  simp only [Bool.not_eq_true', Bool.or_eq_false_iff, Bool.and_eq_false_iff, Bool.not_eq_false', decide_eq_false_iff_not, decide_eq_true_eq, ne_eq] at h
  obtain ⟨h1, h2⟩ := h
  split at h1
  · simp only [decide_eq_false_iff_not] at h1; omega
  · split at h1
    · simp only [decide_eq_false_iff_not] at h1; omega
    · simp only [decide_eq_false_iff_not] at h1; omega
theorem cmpI_pos (a b : Int) : 0 < cmpI a b ↔ b < a := by unfold cmpI; split <;> (try split) <;> omega
theorem cmpI_zero (a b : Int) : cmpI a b = 0 ↔ a = b := by unfold cmpI; split <;> (try split) <;> omega
theorem cmpP_pos (a b c a' b' c' : Int) : 0 < cmpP a b c a' b' c' ↔ a' < a ∨ (a = a' ∧ (b' < b ∨ (b = b' ∧ c' < c))) := by
  unfold cmpP
  simp only [orI]
  have h1 := cmpI_pos a a'; have h2 := cmpI_pos b b'; have h3 := cmpI_pos c c'
  have e1 := cmpI_zero a a'; have e2 := cmpI_zero b b'; have e3 := cmpI_zero c c'
  split
  · split
    · split <;> omega
    · omega
  · omega
theorem ahd_pairB {a b : Rd} (h : Ahd a b) : pairB a b = true := by
  unfold Ahd at h
  have hc : ¬ 0 < cmpP a.ch a.ln a.wd b.ch b.ln b.wd := by rw [cmpP_pos]; omega
  have he : (eqP a.ch a.ln a.wd b.ch b.ln b.wd && !decide (a.kind = 2)) = false := by
    unfold eqP
    simp only [Bool.and_eq_false_iff, Bool.not_eq_false', decide_eq_false_iff_not, decide_eq_true_eq]
    omega
  unfold pairB
  rw [he, decide_eq_false hc]; rfl
theorem rdsB_all (t : Txt) : ∀ (l : List Rd) (p : Option Rd), rdsB t p l = true → (∀ r ∈ l, readB t r = true) ∧ l.Pairwise Ahd ∧ (∀ q, p = some q → ∀ r ∈ l, Ahd q r)
  | [], _, _ => ⟨(fun r h => nomatch h), List.Pairwise.nil, (fun _ _ r h => nomatch h)⟩
  | r :: l, p, h => by
    unfold rdsB at h
    simp only [Bool.and_eq_true] at h
    obtain ⟨⟨h1, h2⟩, h3⟩ := h
    obtain ⟨i1, i2, i3⟩ := rdsB_all t l (some r) h3
    have i3 := i3 r rfl
    refine ⟨fun x hx => ?_, List.pairwise_cons.2 ⟨i3, i2⟩, fun q hq x hx => ?_⟩
    · rcases List.mem_cons.1 hx with rfl | hx
      · exact h1
      · exact i1 x hx
    · subst hq
      have hr := pairR_ahd h2
      rcases List.mem_cons.1 hx with rfl | hx
      · exact hr
      · exact hr.trans (i3 x hx)
theorem ordB_of : ∀ (l : List Rd), l.Pairwise Ahd → ordB l = true
  | [], _ => rfl
  | [a], _ => rfl
  | a :: b :: r, h => by
    obtain ⟨h1, h2⟩ := List.pairwise_cons.1 h
    show (pairB a b && ordB (b :: r)) = true
    rw [ahd_pairB (h1 b (List.mem_cons_self ..)), ordB_of (b :: r) h2]; rfl
theorem wordB_ne {s : ByteArray} (h : wordB s = true) : s ≠ emp := by
  rintro rfl
  unfold wordB at h
  simp only [Bool.and_eq_true] at h
  have := h.1
  revert this; decide
/-- a copy whose readings fit, in order -/
structure Cpy (t : Txt) (rs : List Rd) : Prop where
  fit : ∀ r ∈ rs, readB t r = true
  ord : rs.Pairwise Ahd
theorem Cpy.of {t : Txt} {rs : List Rd} (h : rdsB t none rs = true) : Cpy t rs := ⟨(rdsB_all t rs none h).1, (rdsB_all t rs none h).2.1⟩
/-- the readings of one line -/
def ofLn (rs : List Rd) (k n : Int) : List Rd := rs.filter (atLine k n 0)
theorem ofLn_mem {rs : List Rd} {k n : Int} {r : Rd} : r ∈ ofLn rs k n ↔ r ∈ rs ∧ r.ch = k ∧ r.ln = n := by
  unfold ofLn; rw [List.mem_filter, atLine_iff]
theorem Cpy.bhd {t : Txt} {rs : List Rd} (h : Cpy t rs) (k n : Int) : (ofLn rs k n).Pairwise Bhd := by
  have h1 : (ofLn rs k n).Pairwise Ahd := h.ord.sublist List.filter_sublist
  refine h1.imp_of_mem fun ha hb hr => ?_
  have h2 := (ofLn_mem.1 ha).2
  have h3 := (ofLn_mem.1 hb).2
  unfold Ahd at hr
  unfold Bhd
  omega
theorem Cpy.rdw {t : Txt} {rs : List Rd} (h : Cpy t rs) {k n : Int} {ls : Line} (hl : lineAt t k n = some ls) {r : Rd} (hr : r ∈ ofLn rs k n) : RdW ls r ∧ 0 ≤ r.wd := by
  obtain ⟨hm, h1, h2⟩ := ofLn_mem.1 hr
  have hf := h.fit r hm
  unfold readB at hf
  rw [h1, h2, hl] at hf
  simp only at hf
  split at hf
  · rename_i hk
    unfold fits1 at hf
    simp only [Bool.and_eq_true, decide_eq_true_eq] at hf
    exact ⟨⟨Or.inl hk, ⟨fun _ => hf.2, fun _ => hk⟩, by rw [if_neg (by omega)]; omega⟩, hf.1.1⟩
  · split at hf
    · rename_i hk1 hk
      unfold fits2 withinB at hf
      simp only [List.all_cons, List.all_nil, Bool.and_true, Bool.and_eq_true, decide_eq_true_eq] at hf
      exact ⟨⟨Or.inr (Or.inl hk), ⟨fun h => absurd h hk1, fun h => absurd h (wordB_ne hf.2)⟩, by rw [if_pos hk]; omega⟩, hf.1.1⟩
    · split at hf
      · rename_i hk1 hk2 hk
        unfold fits3 at hf
        simp only [Bool.and_eq_true, decide_eq_true_eq] at hf
        exact ⟨⟨Or.inr (Or.inr hk), ⟨fun h => absurd h hk1, fun h => absurd h (wordB_ne hf.1.2)⟩, by rw [if_neg hk2]; omega⟩, hf.1.1.1⟩
      · cases hf
theorem Cpy.rdsOk {t : Txt} {rs : List Rd} (h : Cpy t rs) {k n : Int} {ls : Line} (hl : lineAt t k n = some ls) : RdsOk ls 0 (ofLn rs k n) :=
  rdsOk_of _ 0 (fun r hr => ⟨(h.rdw hl hr).1, by have := (h.rdw hl hr).2; omega⟩) (h.bhd k n)
theorem foldl_same {α β : Type} {f g : α → β → α} (h : ∀ a b, f a b = g a b) (l : List β) (a : α) : l.foldl f a = l.foldl g a := foldl_eq l a fun b _ a => h a b
theorem Cpy.line {t : Txt} {rs : List Rd} (h : Cpy t rs) {k n : Int} {ls : Line} (hl : lineAt t k n = some ls) (hne : ∀ s ∈ ls, s ≠ emp) : refLine ls rs k n = readLineL ls (ofLn rs k n) := by
  unfold refLine
  rw [foldl_same (g := refW ls (ofLn rs k n) k n) (fun a b => refW_filter ls rs k n a b)]
  exact way_line (way_ref ls hne k n) (ofLn rs k n) (fun r hr => ⟨(ofLn_mem.1 hr).2, h.rdw hl hr⟩) (h.bhd k n)
theorem Cpy.law {t : Txt} {rs : List Rd} (h : Cpy t rs) {k n : Int} {ls : Line} (hl : lineAt t k n = some ls) (hne : ∀ s ∈ ls, s ≠ emp) : (List.range (ls.length + 1)).foldl (lawW ls rs k n) [] = refLine ls rs k n := by
  rw [h.line hl hne, foldl_same (g := lawW ls (ofLn rs k n) k n) (fun a b => lawW_filter ls rs k n a b)]
  exact way_line (way_law ls hne k n) (ofLn rs k n) (fun r hr => ⟨(ofLn_mem.1 hr).2, h.rdw hl hr⟩) (h.bhd k n)
/-! ### the text of a copy -/
def readT (t : Txt) (rs : List Rd) : Txt := t.mapIdx fun k c => (c.1, c.2.mapIdx fun n l => refLine l rs k n)
theorem readT_get {t : Txt} {rs : List Rd} {k : Nat} {c : Chap} (h : t[k]? = some c) : (readT t rs)[k]? = some (c.1, c.2.mapIdx fun n l => refLine l rs k n) := by
  unfold readT; rw [List.getElem?_mapIdx, h]; rfl
theorem readT_line {t : Txt} {rs : List Rd} {k n : Nat} {c : Chap} {l : Line} (h : t[k]? = some c) (hl : c.2[n]? = some l) : ∃ d, (readT t rs)[k]? = some d ∧ d.2[n]? = some (refLine l rs k n) := by
  refine ⟨_, readT_get h, ?_⟩
  simp only
  rw [List.getElem?_mapIdx, hl]; rfl
theorem lineAt_nat {t : Txt} {k n : Nat} {c : Chap} {l : Line} (h : t[k]? = some c) (hl : c.2[n]? = some l) : lineAt t k n = some l := by
  unfold lineAt
  rw [if_pos (by omega)]
  simp only [Int.toNat_natCast, h, Option.bind_some, hl]
end Go.Ev
namespace Go.Ev
open Go.Proofs
set_option maxRecDepth 100000
set_option linter.unusedSimpArgs false
attribute [local irreducible] Wp WpS
/-! ### the text of a copy, as read answers it -/
theorem ofV_rds (l : List Rd) : RdsA l (ofV l) := by
  cases l with
  | nil => exact Or.inl ⟨rfl, rfl⟩
  | cons r f => exact Or.inr ⟨none, rfl⟩
theorem lnOf_sl (ls : List AV) : SlOf 1 ls (lnOf ls) := by
  unfold lnOf
  split
  · rename_i h; exact Or.inl ⟨rfl, h⟩
  · exact Or.inr ⟨none, rfl⟩
theorem Small.ne {t : Txt} (hs : Small t) {k n : Int} {ls : Line} (h : lineAt t k n = some ls) : ∀ s ∈ ls, s ≠ emp := fun s hm => by
  obtain ⟨c, hc, hl⟩ := lineAt_mem h
  exact wordB_ne (hs.word c hc ls hl s hm)
set_option maxHeartbeats 1000000 in
theorem readW {e : Exts} (he : Quiet e) (t : Txt) (hs : Small t) (ht : Fits t) (ch : AV) (xs : List AV) (hch : SlOf 2 xs ch) (hall : All2 ChapA t xs) (id : Int) (rs : List Rd) (x : AV) (hx : RdsA rs x) (hrs : rs.length < 2 ^ 32) (hc : Cpy t rs) :
    ∃ ys o, SlOf 2 ys o ∧ All2 ChapA (readT t rs) ys ∧ Ans (Cx e) 96 [.agg [ch], .agg [intA id, x]] (.agg [o]) := by
  have hQ : ∀ i k : Nat, ∃ w : AV, (w.flat = true ∧ w.cells = [w] ∧ bound w = 0) ∧ ∀ y z, xs[i]? = some y → (linesOf y)[k]? = some z → ∃ c l, t[i]? = some c ∧ c.2[k]? = some l ∧ LineA (refLine l rs i k) w ∧ Ans (Cx e) 122 [z, ofV (rs.filter (atLine i k 0))] w := by
    intro i k
    cases hy : xs[i]? with
    | none => exact ⟨.v (.slice none 0 0), ⟨rfl, rfl, rfl⟩, fun y z h => nomatch h⟩
    | some y =>
      cases hz : (linesOf y)[k]? with
      | none => exact ⟨.v (.slice none 0 0), ⟨rfl, rfl, rfl⟩, fun y' z h1 h2 => by cases h1; rw [hz] at h2; cases h2⟩
      | some z =>
        obtain ⟨c, hc1⟩ := at_lt t i (by rw [hall.1]; exact (List.getElem?_eq_some_iff.1 hy).1)
        obtain ⟨y', hy', l, rfl, lxs, hl, hls⟩ := hall.get hc1
        rw [hy] at hy'
        cases hy'
        have hlo : linesOf (.agg [intA c.1, l]) = lxs := hl.elems
        have hz' := hz
        rw [hlo] at hz'
        obtain ⟨ln, hln⟩ := at_lt c.2 k (by rw [hls.1]; exact (List.getElem?_eq_some_iff.1 hz').1)
        have hla : LineA ln z := hls.2 k ln z hln hz'
        have hLA := lineAt_nat hc1 hln
        have hlen := (hs.words c (List.mem_of_getElem? hc1) ln (List.mem_of_getElem? hln)).2
        have hfl : (rs.filter (atLine i k 0)).length < 2 ^ 32 := Nat.lt_of_le_of_lt (List.length_filter_le _ _) hrs
        obtain ⟨w, hw1, hw2⟩ := ans76 he ln (by omega) z hla (rs.filter (atLine i k 0)) (ofV (rs.filter (atLine i k 0))) (ofV_rds _) hfl (hc.rdsOk hLA)
        refine ⟨w, ⟨hw1.flat, hw1.cells, hw1.bound⟩, fun y z' h1 h2 => ?_⟩
        cases h1
        rw [hz] at h2
        cases h2
        refine ⟨c, ln, hc1, hln, ?_, hw2⟩
        show SlOf 1 (strs (refLine ln rs i k)) w
        rw [hc.line hLA (hs.ne hLA)]
        exact hw1
  have hwf := fun i k => Classical.choose_spec (hQ i k)
  generalize hW : (fun i k => Classical.choose (hQ i k)) = wf
  have hwf : ∀ i k : Nat, ((wf i k).flat = true ∧ (wf i k).cells = [wf i k] ∧ bound (wf i k) = 0) ∧ ∀ y z, xs[i]? = some y → (linesOf y)[k]? = some z → ∃ c l, t[i]? = some c ∧ c.2[k]? = some l ∧ LineA (refLine l rs i k) (wf i k) ∧ Ans (Cx e) 122 [z, ofV (rs.filter (atLine i k 0))] (wf i k) := by
    intro i k
    rw [← hW]
    exact hwf i k
  clear hW
  have hx6 := hs.chs
  have hxl := hall.1
  have hok := okCh2_of ht hall
  have hlines : ∀ y ∈ xs, ∃ c l lxs, c ∈ t ∧ y = .agg [intA c.1, l] ∧ linesOf y = lxs ∧ All2 LineA c.2 lxs := fun y hy => by
    obtain ⟨i, hi⟩ := List.getElem?_of_mem hy
    obtain ⟨c, hc1⟩ := at_lt t i (by rw [hall.1]; exact (List.getElem?_eq_some_iff.1 hi).1)
    obtain ⟨l, rfl, lxs, hl, hls⟩ := hall.2 i c y hc1 hi
    exact ⟨c, l, lxs, List.mem_of_getElem? hc1, rfl, hl.elems, hls⟩
  refine ⟨(stAt xs wf xs.length 0).map (fun c : AV × List AV => AV.agg [c.1, lnOf c.2]), .vs 2 _ none, Or.inr ⟨none, rfl⟩, ⟨?_, ?_⟩, ans55x he xs ch hch (fun y hy => (hok y hy).ok) (by omega) (by omega) id rs x hx hrs wf (fun i k y z h1 h2 => ?_) (fun i k => (hwf i k).1) (fun y hy => ?_) (fun y hy z hz => ?_) (by omega)⟩
  · unfold readT stAt
    rw [List.length_mapIdx, List.length_map, List.length_mapIdx, hall.1]
  · intro i c y h1 h2
    rw [List.getElem?_map, stAt_get] at h2
    have hil : i < t.length := by
      have := (List.getElem?_eq_some_iff.1 h1).1
      unfold readT at this; rwa [List.length_mapIdx] at this
    obtain ⟨c0, hc0⟩ := at_lt t i hil
    rw [readT_get hc0] at h1
    cases h1
    obtain ⟨y0, hy0, l, rfl, lxs, hl, hls⟩ := hall.get hc0
    have hlo : linesOf (.agg [intA c0.1, l]) = lxs := hl.elems
    rw [hy0, Option.map_some, Option.map_some, if_pos (by omega), hlo] at h2
    cases h2
    refine ⟨_, rfl, _, lnOf_sl _, ?_, ?_⟩
    · simp only [List.length_mapIdx, List.length_map, List.length_range]; exact hls.1
    · intro k a b h3 h4
      simp only at h3
      rw [List.getElem?_mapIdx] at h3
      rw [List.getElem?_map] at h4
      cases hk : c0.2[k]? with
      | none => rw [hk] at h3; cases h3
      | some ln =>
        rw [hk] at h3
        cases h3
        have hkl : k < lxs.length := by rw [← hls.1]; exact (List.getElem?_eq_some_iff.1 hk).1
        obtain ⟨z, hz⟩ := at_lt lxs k hkl
        rw [List.getElem?_range hkl] at h4
        cases h4
        obtain ⟨c', l', h5, h6, h7, -⟩ := (hwf i k).2 _ z hy0 (by rw [hlo]; exact hz)
        rw [hc0] at h5
        cases h5
        rw [hk] at h6
        cases h6
        exact h7
  · obtain ⟨_, _, -, -, -, h⟩ := (hwf i k).2 y z h1 h2
    exact h
  · obtain ⟨c, l, lxs, hm, -, hlo, hls⟩ := hlines y hy
    rw [hlo, ← hls.1]
    have := (hs.lines c hm).2
    omega
  · obtain ⟨c, l, lxs, hm, -, hlo, hls⟩ := hlines y hy
    rw [hlo] at hz
    obtain ⟨k, hk⟩ := List.getElem?_of_mem hz
    obtain ⟨ln, hln⟩ := at_lt c.2 k (by rw [hls.1]; exact (List.getElem?_eq_some_iff.1 hk).1)
    exact (hls.2 k ln z hln hk : SlOf 1 (strs ln) z).bound
/-! ### the lines of a copy are lines -/
theorem linesN_get (rs : List Rd) (k : Nat) : ∀ (ls : List Line) (n j : Nat) (l : Line), linesN rs k n ls = true → ls[j]? = some l → withinB 1 10 [((refLine l rs k ((n + j : Nat) : Int)).length : Int)] = true
  | [], _, _, _, _, h => by simp at h
  | x :: r, n, j, l, h1, h2 => by
    unfold linesN at h1
    simp only [Bool.and_eq_true] at h1
    cases j with
    | zero => simp at h2; subst h2; exact h1.1
    | succ j =>
      have := linesN_get rs k r (n + 1) j l h1.2 (by simpa using h2)
      rwa [show n + 1 + j = n + (j + 1) by omega] at this
theorem chapsN_get (rs : List Rd) : ∀ (t : Txt) (k i : Nat) (c : Chap), chapsN rs k t = true → t[i]? = some c → linesN rs (k + i) 0 c.2 = true
  | [], _, _, _, _, h => by simp at h
  | x :: r, k, i, c, h1, h2 => by
    unfold chapsN at h1
    simp only [Bool.and_eq_true] at h1
    cases i with
    | zero => simp at h2; subst h2; exact h1.1
    | succ i =>
      have := chapsN_get rs r (k + 1) i c h1.2 (by simpa using h2)
      rwa [show k + 1 + i = k + (i + 1) by omega] at this
/-- whatever a copy's line has is a word of the base's, or of a reading -/
theorem refI_mem (k n w : Int) (s : ByteArray) : ∀ (rs : List Rd) (st : List ByteArray × ByteArray), (s ∈ (rs.foldl (refI k n w) st).1 → s ∈ st.1 ∨ ∃ r ∈ rs, s = r.word) ∧ ((rs.foldl (refI k n w) st).2 = st.2 ∨ ∃ r ∈ rs, (rs.foldl (refI k n w) st).2 = r.word)
  | [], st => ⟨fun h => Or.inl h, Or.inl rfl⟩
  | r :: rs, st => by
    obtain ⟨h1, h2⟩ := refI_mem k n w s rs (refI k n w st r)
    rw [List.foldl_cons]
    have hq : refI k n w st r = st ∨ refI k n w st r = (st.1 ++ [r.word], st.2) ∨ refI k n w st r = (st.1, r.word) := by
      unfold refI; split
      · split
        · exact Or.inr (Or.inl rfl)
        · exact Or.inr (Or.inr rfl)
      · exact Or.inl rfl
    refine ⟨fun h => ?_, ?_⟩
    · rcases h1 h with h3 | ⟨q, hq1, hq2⟩
      · rcases hq with hq | hq | hq
        · rw [hq] at h3; exact Or.inl h3
        · rw [hq] at h3
          rcases List.mem_append.1 h3 with h3 | h3
          · exact Or.inl h3
          · exact Or.inr ⟨r, List.mem_cons_self .., List.mem_singleton.1 h3⟩
        · rw [hq] at h3; exact Or.inl h3
      · exact Or.inr ⟨q, List.mem_cons_of_mem _ hq1, hq2⟩
    · rcases h2 with h3 | ⟨q, hq1, hq2⟩
      · rcases hq with hq | hq | hq
        · rw [hq] at h3 ⊢; exact Or.inl h3
        · rw [hq] at h3 ⊢; exact Or.inl h3
        · rw [hq] at h3 ⊢; exact Or.inr ⟨r, List.mem_cons_self .., h3⟩
      · exact Or.inr ⟨q, List.mem_cons_of_mem _ hq1, hq2⟩
theorem refW_mem (l : Line) (rs : List Rd) (k n : Int) (s : ByteArray) (ds : List ByteArray) (w : Nat) (h : s ∈ refW l rs k n ds w) : s ∈ ds ∨ s ∈ l ∨ ∃ r ∈ rs, s = r.word := by
  obtain ⟨h1, h2⟩ := refI_mem k n w s rs (ds, (l[w]?).getD emp)
  unfold refW at h
  simp only at h
  split at h
  · rcases h1 h with h | h
    · exact Or.inl h
    · exact Or.inr (Or.inr h)
  · rename_i hne
    rcases List.mem_append.1 h with h | h
    · rcases h1 h with h | h
      · exact Or.inl h
      · exact Or.inr (Or.inr h)
    · have hs := List.mem_singleton.1 h
      rcases h2 with h3 | ⟨r, hr, h3⟩
      · rw [h3] at hs hne
        simp only at hs hne
        cases hw : l[w]? with
        | none => rw [hw] at hne; exact absurd rfl hne
        | some y => rw [hw] at hs; exact Or.inr (Or.inl (hs ▸ List.mem_of_getElem? hw))
      · exact Or.inr (Or.inr ⟨r, hr, hs.trans h3⟩)
theorem refLine_mem (l : Line) (rs : List Rd) (k n : Int) (s : ByteArray) : ∀ w : Nat, s ∈ (List.range w).foldl (refW l rs k n) [] → s ∈ l ∨ ∃ r ∈ rs, s = r.word
  | 0, h => by simp at h
  | w + 1, h => by
    rw [List.range_succ, List.foldl_append] at h
    rcases refW_mem l rs k n s _ w h with h | h
    · exact refLine_mem l rs k n s w h
    · exact h
theorem readT_mem {t : Txt} {rs : List Rd} {c : Chap} {l : Line} (hc : c ∈ readT t rs) (hl : l ∈ c.2) : ∃ (k n : Nat) (d : Chap) (ln : Line), t[k]? = some d ∧ d.2[n]? = some ln ∧ l = refLine ln rs k n ∧ c.2.length = d.2.length := by
  obtain ⟨k, hk⟩ := List.getElem?_of_mem hc
  have hil : k < t.length := by
    have := (List.getElem?_eq_some_iff.1 hk).1
    unfold readT at this; rwa [List.length_mapIdx] at this
  obtain ⟨d, hd⟩ := at_lt t k hil
  rw [readT_get hd] at hk
  cases hk
  obtain ⟨n, hn⟩ := List.getElem?_of_mem hl
  simp only at hn
  rw [List.getElem?_mapIdx] at hn
  cases hk : d.2[n]? with
  | none => rw [hk] at hn; cases hn
  | some ln => rw [hk] at hn; cases hn; exact ⟨k, n, d, ln, hd, hk, rfl, by simp⟩
theorem readT_chap {t : Txt} {rs : List Rd} {c : Chap} (hc : c ∈ readT t rs) : ∃ d ∈ t, c.1 = d.1 ∧ c.2.length = d.2.length := by
  obtain ⟨k, hk⟩ := List.getElem?_of_mem hc
  have hil : k < t.length := by
    have := (List.getElem?_eq_some_iff.1 hk).1
    unfold readT at this; rwa [List.length_mapIdx] at this
  obtain ⟨d, hd⟩ := at_lt t k hil
  rw [readT_get hd] at hk
  cases hk
  exact ⟨d, List.mem_of_getElem? hd, rfl, by simp⟩
theorem rdOnes_mem {ls : Line} {s : ByteArray} : ∀ (l : List Rd) (st : Nat × List ByteArray), s ∈ (l.foldl (rdOne ls) st).2 → s ∈ st.2 ∨ s ∈ ls ∨ ∃ r ∈ l, r.kind ≠ 1 ∧ s = r.word
  | [], st, h => Or.inl h
  | r :: l, st, h => by
    rw [List.foldl_cons] at h
    rcases rdOnes_mem l _ h with h | h | ⟨q, hq, h⟩
    · unfold rdOne at h
      simp only at h
      rcases List.mem_append.1 h with h | h
      · rcases List.mem_append.1 h with h | h
        · exact Or.inl h
        · exact Or.inr (Or.inl (List.mem_of_mem_drop (List.mem_of_mem_take h)))
      · split at h
        · exact nomatch h
        · rename_i hk
          exact Or.inr (Or.inr ⟨r, List.mem_cons_self .., hk, List.mem_singleton.1 h⟩)
    · exact Or.inr (Or.inl h)
    · exact Or.inr (Or.inr ⟨q, List.mem_cons_of_mem _ hq, h⟩)
theorem readLineL_mem {ls : Line} {l : List Rd} {s : ByteArray} (h : s ∈ readLineL ls l) : s ∈ ls ∨ ∃ r ∈ l, r.kind ≠ 1 ∧ s = r.word := by
  unfold readLineL at h
  rcases List.mem_append.1 h with h | h
  · rcases rdOnes_mem l _ h with h | h | h
    · exact nomatch h
    · exact Or.inl h
    · exact Or.inr h
  · exact Or.inl (List.mem_of_mem_drop h)
theorem Cpy.wordB {t : Txt} {rs : List Rd} (h : Cpy t rs) {r : Rd} (hr : r ∈ rs) (hk : r.kind ≠ 1) : wordB r.word = true := by
  have hf := h.fit r hr
  unfold readB at hf
  split at hf
  · cases hf
  · rw [if_neg hk] at hf
    split at hf
    · unfold fits2 at hf; simp only [Bool.and_eq_true] at hf; exact hf.2
    · split at hf
      · unfold fits3 at hf; simp only [Bool.and_eq_true] at hf; exact hf.1.2
      · cases hf
/-- what the reference's Copy says of a copy -/
structure Right (t : Txt) (id : Int) (rs : List Rd) : Prop where
  id : withinB 0 9999 [id] = true
  len : ¬ 20 < (rs.length : Int)
  cpy : Cpy t rs
  lines : ∀ (k n : Nat) (c : Chap) (l : Line), t[k]? = some c → c.2[n]? = some l → 1 ≤ (refLine l rs k n).length ∧ (refLine l rs k n).length ≤ 10
theorem Right.of {t : Txt} {id : Int} {rs : List Rd} (h : copyB t id rs = true) : Right t id rs := by
  unfold copyB at h
  simp only [Bool.and_eq_true, Bool.not_eq_true', decide_eq_false_iff_not] at h
  obtain ⟨⟨h1, h2⟩, h3, h4⟩ := h
  refine ⟨h1, h2, Cpy.of h3, fun k n c l hc hl => ?_⟩
  have := linesN_get rs (0 + k) c.2 0 n l (chapsN_get rs t 0 k c h4 hc) hl
  rw [Nat.zero_add, Nat.zero_add] at this
  unfold withinB at this
  simp only [List.all_cons, List.all_nil, Bool.and_true, Bool.and_eq_true, decide_eq_true_eq] at this
  omega
theorem Right.small {t : Txt} {id : Int} {rs : List Rd} (h : Right t id rs) (hs : Small t) : Small (readT t rs) := by
  refine ⟨?_, fun c hc => ?_, fun c hc l hl => ?_, fun c hc l hl s hm => ?_⟩
  · unfold readT; rw [List.length_mapIdx]; exact hs.chs
  · obtain ⟨d, hd, -, h2⟩ := readT_chap hc
    rw [h2]; exact hs.lines d hd
  · obtain ⟨k, n, d, ln, h1, h2, rfl, -⟩ := readT_mem hc hl
    exact h.lines k n d ln h1 h2
  · obtain ⟨k, n, d, ln, h1, h2, rfl, -⟩ := readT_mem hc hl
    have hLA := lineAt_nat h1 h2
    rw [h.cpy.line hLA (hs.ne hLA)] at hm
    rcases readLineL_mem hm with hm | ⟨r, hr, hk, rfl⟩
    · exact hs.word d (List.mem_of_getElem? h1) ln (List.mem_of_getElem? h2) s hm
    · exact h.cpy.wordB ((ofLn_mem.1 hr).1) hk
theorem Right.fits {t : Txt} {id : Int} {rs : List Rd} (h : Right t id rs) (ht : Fits t) (hr : ∀ r ∈ rs, RdF r) : Fits (readT t rs) := by
  refine ⟨?_, fun c hc => ?_, fun c hc l hl => ?_, fun c hc l hl s hm => ?_⟩
  · unfold readT; rw [List.length_mapIdx]; exact ht.chs
  · obtain ⟨d, hd, -, h2⟩ := readT_chap hc
    rw [h2]; exact ht.lines d hd
  · obtain ⟨k, n, d, ln, h1, h2, rfl, -⟩ := readT_mem hc hl
    have := (h.lines k n d ln h1 h2).2
    omega
  · obtain ⟨k, n, d, ln, h1, h2, rfl, -⟩ := readT_mem hc hl
    rcases refLine_mem ln rs k n s _ hm with h | ⟨r, h3, rfl⟩
    · exact ht.size d (List.mem_of_getElem? h1) ln (List.mem_of_getElem? h2) s h
    · exact (hr r h3).word
end Go.Ev
namespace Go.Ev
open Go.Proofs
set_option maxRecDepth 100000
set_option linter.unusedSimpArgs false
attribute [local irreducible] Wp WpS
/-! ### a copy that is right, by both -/
theorem lensOf_mem {t : Txt} {ys : List AV} (h : All2 ChapA t ys) {n : Int} (hn : n ∈ lensOf ys) : ∃ c ∈ t, ∃ l ∈ c.2, n = (l.length : Int) := by
  unfold lensOf at hn
  obtain ⟨y, hy, hz⟩ := List.mem_flatMap.1 hn
  obtain ⟨z, hzm, rfl⟩ := List.mem_map.1 hz
  obtain ⟨i, hi⟩ := List.getElem?_of_mem hy
  obtain ⟨c, hc⟩ := at_lt t i (by rw [h.1]; exact (List.getElem?_eq_some_iff.1 hi).1)
  obtain ⟨l, rfl, lxs, hl, hls⟩ := h.2 i c y hc hi
  have hlo : linesOf (.agg [intA c.1, l]) = lxs := hl.elems
  rw [hlo] at hzm
  obtain ⟨k, hk⟩ := List.getElem?_of_mem hzm
  obtain ⟨ln, hln⟩ := at_lt c.2 k (by rw [hls.1]; exact (List.getElem?_eq_some_iff.1 hk).1)
  have hla : SlOf 1 (strs ln) z := hls.2 k ln z hln hk
  exact ⟨c, List.mem_of_getElem? hc, ln, List.mem_of_getElem? hln, by rw [hla.elems, strs_len]⟩
theorem lensOf_len : ∀ (ys : List AV), (∀ y ∈ ys, (linesOf y).length ≤ 10) → (lensOf ys).length ≤ 10 * ys.length
  | [], _ => Nat.le_refl _
  | y :: r, h => by
    have ih := lensOf_len r fun z hz => h z (List.mem_cons_of_mem _ hz)
    have h1 := h y (List.mem_cons_self ..)
    unfold lensOf at ih ⊢
    rw [List.flatMap_cons, List.length_append, List.length_map, List.length_cons]; omega
theorem linesOf_len {t : Txt} {ys : List AV} (h : All2 ChapA t ys) (hs : Small t) : ∀ y ∈ ys, (linesOf y).length ≤ 10 := fun y hy => by
  obtain ⟨i, hi⟩ := List.getElem?_of_mem hy
  obtain ⟨c, hc⟩ := at_lt t i (by rw [h.1]; exact (List.getElem?_eq_some_iff.1 hi).1)
  obtain ⟨l, rfl, lxs, hl, hls⟩ := h.2 i c y hc hi
  have hlo : linesOf (.agg [intA c.1, l]) = lxs := hl.elems
  rw [hlo, ← hls.1]; exact (hs.lines c (List.mem_of_getElem? hc)).2
theorem item58_of {t : Txt} {ys : List AV} (h : All2 ChapA t ys) : ∀ z ∈ chapIts 0 ys, Item58 z := fun z hz => by
  obtain ⟨i, y, j, w, hi, hj, rfl⟩ := chapIts_of ys 0 z hz
  obtain ⟨c, hc⟩ := at_lt t i (by rw [h.1]; exact (List.getElem?_eq_some_iff.1 hi).1)
  obtain ⟨l, rfl, lxs, hl, hls⟩ := h.2 i c y hc hi
  have hlo : linesOf (.agg [intA c.1, l]) = lxs := hl.elems
  rw [hlo] at hj
  obtain ⟨ln, hln⟩ := at_lt c.2 j (by rw [hls.1]; exact (List.getElem?_eq_some_iff.1 hj).1)
  exact ⟨_, w, strs ln, rfl, hls.2 j ln w hln hj⟩
theorem copyW {e : Exts} (he : Quiet e) (t : Txt) (hs : Small t) (ht : Fits t) (htx : textB t = true) (ch : AV) (xs : List AV) (hch : SlOf 2 xs ch) (hall : All2 ChapA t xs) (id : Int) (rs : List Rd) (x : AV) (hx : RdsA rs x) (hrd : ∀ r ∈ rs, RdF r) (hR : Right t id rs) :
    ∃ ys o, SlOf 2 ys o ∧ All2 ChapA (readT t rs) ys ∧ Has58 e ch id x true ∧ Ans (Cx e) 59 [.agg [ch], .agg [intA id, x]] (.tup [.agg [o], intA 0]) := by
  have hlen := hR.len
  obtain ⟨ys, o, ho, hys, h55⟩ := readW he t hs ht ch xs hch hall id rs x hx (by omega) hR.cpy
  have hs2 := hR.small hs
  have ht2 := hR.fits ht hrd
  have hyl : ys.length ≤ 6 := by rw [← hys.1]; exact hs2.chs.2
  have hfit : rs.all (fitOne t) = true := List.all_eq_true.2 fun r hr => by
    rw [fit_read (fun l hl => ?_)]
    · exact hR.cpy.fit r hr
    · obtain ⟨c, hc, hlc⟩ := lineAt_mem hl
      have := (hs.words c hc l hlc).1
      omega
  have hcnt : (chapIts 0 ys).length < 2 ^ 32 := by
    have h1 := lensOf_len ys (linesOf_len hys hs2)
    rw [← chapIts_lens 0 ys, List.length_map] at h1
    omega
  have hw : withinB 1 10 (lensOf ys) = true := List.all_eq_true.2 fun n hn => by
    obtain ⟨c, hc, l, hl, rfl⟩ := lensOf_mem hys hn
    have := hs2.words c hc l hl
    simp only [Bool.and_eq_true, decide_eq_true_eq]; omega
  have h58 := has58 he t ht ch xs hch hall id hR.id rs x hx hlen hrd hfit (ordB_of rs hR.cpy.ord) ys o ho (fun y hy => (okCh2_of ht2 hys y hy).ok) (by omega) (item58_of hys) hcnt h55
  rw [hw] at h58
  exact ⟨ys, o, ho, hys, h58, ans25 he t ht htx ch xs hch hall id rs x hx h58 ys o ho h55⟩
/-! ### memory with a list of words that grows over what stays -/
structure MB (B : Nat) (base : Fm) (H : Heap) (ds : List ByteArray) (out : AV) : Prop where
  lock : H.lock = 0
  size : B ≤ H.size
  base : Has base H
  done : DoneR H ds out
/-- what stays is no list that grows, and lies in front -/
def Stay (B : Nat) (base : Fm) : Prop := ∀ p ∈ base, p.1 < B ∧ ∀ v m e sz cs, p.2 ≠ .cells v m e sz true cs
theorem MB.row {B : Nat} {base : Fm} {H : Heap} {ds : List ByteArray} {out : AV} (h : MB B base H ds out) {b v m e sz : Nat} {g : Bool} {cs : List AV} (hb : (b, AObj.cells v m e sz g cs) ∈ base) (E : List (Option AObj)) : (H.plus E).row b v = some (m, e, sz, g, cs) := by
  have hg := h.base _ hb
  rw [rowLo (get_ltS hg)]; exact get_row hg
theorem MB.plus {B : Nat} {base : Fm} {H : Heap} {ds : List ByteArray} {out : AV} (h : MB B base H ds out) (E : List (Option AObj)) : MB B base (H.plus E) ds out :=
  ⟨h.lock, by have := h.size; rw [plus_size]; omega, h.base.plus E, h.done.plus E⟩
theorem MB.trim {B : Nat} {base : Fm} {H : Heap} {ds : List ByteArray} {out : AV} (h : MB B base H ds out) (hS : Stay B base) {n : Nat} (hn : B ≤ n) (vs : List AV) (ms : List Nat) (hv : bound out ≤ boundL vs) : MB B base (H.trim n vs ms) ds out := by
  by_cases hn2 : n ≤ H.size
  · refine ⟨trim_lock.trans h.lock, Nat.le_trans hn (trim_size' hn2), fun p hp => (trim_lo (by have := (hS p hp).1; omega)).trans (h.base p hp), ?_⟩
    rcases h.done with hd | ⟨b, v, h1, h2, rfl, h4⟩
    · exact Or.inl hd
    · unfold Heap.trim
      split
      · rename_i hq
        rw [Bool.and_eq_true, Bool.and_eq_true, Bool.and_eq_true, Nat.ble_eq] at hq
        have h5 := hq.1.1.1
        have hb : b < n := by simp only [bound] at hv; omega
        have hg := (takeH_get (H := H) hb).trans (row_of_get h4)
        exact Or.inr ⟨b, v, h1, get_size hg, rfl, get_row hg⟩
      · exact Or.inr ⟨b, v, h1, h2, rfl, h4⟩
  · rw [trim_whole (by omega)]; exact h
theorem MB.more {B : Nat} {base : Fm} {H : Heap} {ds : List ByteArray} {b v : Nat} (h : MB B base H ds (.sl b v 0 ds.length none)) (hS : Stay B base) (hb : b < H.size) (hr : H.row b v = some (0, 9, 1, true, strs ds)) (s : List ByteArray) (n : Nat) (hn : n = ds.length + s.length) : MB B base (H.put b (.cells (v + 1) 0 9 1 true (strs (ds ++ s)))) (ds ++ s) (.sl b (v + 1) 0 n none) := by
  refine ⟨h.lock, by rw [put_sizeI _ hb]; exact h.size, fun p hp => ?_, Or.inr ⟨b, v + 1, ?_, by rw [put_sizeI _ hb]; exact hb, by rw [hn, List.length_append], row_put_same hb⟩⟩
  · have hne : p.1 ≠ b := by
      rintro rfl
      have h1 := (row_of_get hr).symm.trans (h.base p hp)
      exact (hS p hp).2 v 0 9 1 (strs ds) (Option.some.inj h1).symm
    exact (put_get_ne _ (by omega) hne).trans (h.base p hp)
  · have := h.lock
    show H.lock ≤ b
    omega
theorem MB.new {B : Nat} {base : Fm} {H : Heap} {ds : List ByteArray} {out : AV} (h : MB B base H ds out) {N : Nat} (hN : H.size = N) (E : List (Option AObj)) (k : Nat) (ds' : List ByteArray) (hE : E[k]? = some (some (.cells 0 0 9 1 true (strs ds')))) : MB B base (H.plus E) ds' (.sl (N + k) 0 0 ds'.length none) := by
  have hk := (List.getElem?_eq_some_iff.1 hE).1
  refine ⟨h.lock, by have := h.size; rw [plus_size]; omega, h.base.plus E, Or.inr ⟨N + k, 0, ?_, by rw [plus_size]; omega, rfl, ?_⟩⟩
  · have := h.lock
    show H.lock ≤ _
    omega
  · rw [rowP hN, hE]; rfl
end Go.Ev
namespace Go.Ev
open Go.Proofs
set_option maxRecDepth 100000
set_option linter.unusedSimpArgs false
/-! ### where a copy has what stands in a place -/
def dlt (r : Rd) : Int := if r.kind = 2 then 1 else if r.kind = 1 then -1 else 0
def mv : List Rd → (Rd → Bool) → Int
  | [], _ => 0
  | r :: l, p => (if p r = true then dlt r else 0) + mv l p
def ltW' (w : Int) (r : Rd) : Bool := decide (r.wd < w)
def atW' (w : Int) (r : Rd) : Bool := decide (r.wd = w)
def leW' (w : Int) (r : Rd) : Bool := decide (r.wd ≤ w)
theorem mv_split {p q s : Rd → Bool} (h : ∀ r, p r = (q r || s r)) (hd : ∀ r, q r = true → s r = false) : ∀ l, mv l p = mv l q + mv l s
  | [] => rfl
  | r :: l => by
    unfold mv
    rw [mv_split h hd l, h r]
    cases hq : q r
    · cases hs : s r <;> simp <;> omega
    · rw [hd r hq]; simp; omega
theorem mv_none {p : Rd → Bool} : ∀ l : List Rd, (∀ r ∈ l, p r = false) → mv l p = 0
  | [], _ => rfl
  | r :: l, h => by
    unfold mv
    rw [h r (List.mem_cons_self ..), mv_none l fun q hq => h q (List.mem_cons_of_mem _ hq)]; rfl
theorem mv_filter (q p : Rd → Bool) : ∀ l : List Rd, mv (l.filter q) p = mv l (fun r => q r && p r)
  | [] => rfl
  | r :: l => by
    cases hq : q r
    · rw [List.filter_cons_of_neg (by rw [hq]; simp), mv_filter q p l]
      conv => rhs; unfold mv
      simp [hq]
    · rw [List.filter_cons_of_pos hq]
      unfold mv
      rw [mv_filter q p l]; simp [hq]
theorem mv_lt (l : List Rd) (w : Int) : mv l (ltW' (w + 1)) = mv l (ltW' w) + mv l (atW' w) := by
  refine mv_split (fun r => ?_) (fun r h => ?_) l
  · unfold ltW' atW'
    rw [Bool.eq_iff_iff]; simp only [Bool.or_eq_true, decide_eq_true_eq]; omega
  · unfold ltW' at h; unfold atW'
    have := of_decide_eq_true h
    exact decide_eq_false (by omega)
theorem mv_le (l : List Rd) (w : Int) : mv l (leW' w) = mv l (ltW' w) + mv l (atW' w) := by
  refine mv_split (fun r => ?_) (fun r h => ?_) l
  · unfold ltW' atW' leW'
    rw [Bool.eq_iff_iff]; simp only [Bool.or_eq_true, decide_eq_true_eq]; omega
  · unfold ltW' at h; unfold atW'
    have := of_decide_eq_true h
    exact decide_eq_false (by omega)
def takenD (l : List Rd) (k n : Int) (w : Nat) : Int := match l.find? (takesB k n w) with | some r => dlt r | none => 0
theorem mv_at {k n : Int} {w : Nat} : ∀ {l : List Rd}, (∀ r ∈ l, r.ch = k ∧ r.ln = n) → l.Pairwise Bhd → mv l (atW' w) = ((l.filter (putAt k n w)).length : Int) + takenD l k n w
  | [], _, _ => rfl
  | r :: l, ho, hp => by
    obtain ⟨hp1, hp2⟩ := List.pairwise_cons.1 hp
    have ih := mv_at (w := w) (fun q hq => ho q (List.mem_cons_of_mem _ hq)) hp2
    have hor := ho r (List.mem_cons_self ..)
    by_cases hw : r.wd = (w : Int)
    · by_cases hk : r.kind = 2
      · have h1 : putAt k n w r = true := by unfold putAt; rw [eqP_on hor hw, Bool.and_true]; exact decide_eq_true hk
        have h2 : takesB k n w r = false := by unfold takesB; rw [decide_eq_true hk, Bool.not_true, Bool.and_false]
        have e : takenD (r :: l) k n w = takenD l k n w := by unfold takenD; rw [List.find?_cons, h2]
        unfold mv
        rw [List.filter_cons_of_pos h1, e, ih]
        rw [if_pos (by unfold atW'; exact decide_eq_true hw)]
        simp only [List.length_cons, dlt, hk, if_true]; omega
      · have h1 : putAt k n w r = false := by unfold putAt; rw [decide_eq_false hk]; rfl
        have h2 : takesB k n w r = true := by unfold takesB; rw [eqP_on hor hw, decide_eq_false hk]; rfl
        have hf : ∀ q ∈ l, q.wd ≠ (w : Int) := fun q hq => by have := (hp1 q hq).2 hk; omega
        have h3 : l.filter (putAt k n w) = [] := List.filter_eq_nil_iff.2 fun q hq => by unfold putAt; rw [eqP_wd (hf q hq), Bool.and_false]; simp
        have h4 : mv l (atW' w) = 0 := mv_none l fun q hq => by unfold atW'; exact decide_eq_false (hf q hq)
        unfold mv takenD
        rw [List.filter_cons_of_neg (by rw [h1]; simp), List.find?_cons, h2, h3, h4]
        rw [if_pos (by unfold atW'; exact decide_eq_true hw)]
        simp
    · have h1 : putAt k n w r = false := by unfold putAt; rw [eqP_wd hw, Bool.and_false]
      have h2 : takesB k n w r = false := by unfold takesB; rw [eqP_wd hw]; rfl
      have e : takenD (r :: l) k n w = takenD l k n w := by unfold takenD; rw [List.find?_cons, h2]
      unfold mv
      rw [List.filter_cons_of_neg (by rw [h1]; simp), e, ih]
      rw [if_neg (by unfold atW'; rw [decide_eq_false hw]; simp)]
      omega
/-- a word that stands, or one that is left out -/
theorem taken_stand {ls : Line} {l : List Rd} {k n : Int} {w : Nat} {s : ByteArray} (hr : ∀ r ∈ l, RdW ls r) (hs : s ≠ emp) : (standL l k n w s ≠ emp → takenD l k n w = 0) ∧ (standL l k n w s = emp → takenD l k n w = -1) := by
  unfold standL takenD
  cases hf : l.find? (takesB k n w) with
  | none => exact ⟨fun _ => rfl, fun h => absurd h hs⟩
  | some r =>
    have hm := hr r (List.mem_of_find?_eq_some hf)
    have ht := List.find?_some hf
    have hk2 : r.kind ≠ 2 := by
      unfold takesB at ht
      simp only [Bool.and_eq_true, Bool.not_eq_true', decide_eq_false_iff_not] at ht
      exact ht.2
    refine ⟨fun h => ?_, fun h => ?_⟩
    · show dlt r = 0
      unfold dlt
      rw [if_neg hk2, if_neg fun hk => h (hm.word.1 hk)]
    · show dlt r = -1
      unfold dlt
      rw [if_neg hk2, if_pos (hm.word.2 h)]
def lawF (ls : Line) (l : List Rd) (k n : Int) (w : Nat) : List ByteArray := (List.range w).foldl (lawW ls l k n) []
theorem lawF_succ (ls : Line) (l : List Rd) (k n : Int) (w : Nat) : lawF ls l k n (w + 1) = lawW ls l k n (lawF ls l k n w) w := by
  unfold lawF; rw [List.range_succ, List.foldl_append]; rfl
theorem lawW_more (ls : Line) (l : List Rd) (k n : Int) (ds : List ByteArray) (w : Nat) : ∃ t, lawW ls l k n ds w = ds ++ t := by
  unfold lawW
  simp only
  split
  · exact ⟨_, rfl⟩
  · split
    · exact ⟨_, rfl⟩
    · exact ⟨_, List.append_assoc ..⟩
theorem lawF_more (ls : Line) (l : List Rd) (k n : Int) (w : Nat) : ∀ m, ∃ t, lawF ls l k n (w + m) = lawF ls l k n w ++ t
  | 0 => ⟨[], (List.append_nil _).symm⟩
  | m + 1 => by
    obtain ⟨t, ht⟩ := lawF_more ls l k n w m
    obtain ⟨t', ht'⟩ := lawW_more ls l k n (lawF ls l k n (w + m)) (w + m)
    exact ⟨t ++ t', by rw [show w + (m + 1) = w + m + 1 by omega, lawF_succ, ht', ht, List.append_assoc]⟩
theorem lawF_mono (ls : Line) (l : List Rd) (k n : Int) {w w' : Nat} (h : w ≤ w') : (lawF ls l k n w).length ≤ (lawF ls l k n w').length := by
  obtain ⟨t, ht⟩ := lawF_more ls l k n w (w' - w)
  rw [show w + (w' - w) = w' by omega] at ht
  rw [ht, List.length_append]; omega
section
variable {ls : Line} {l : List Rd} {k n : Int} (hne : ∀ s ∈ ls, s ≠ emp) (ho : ∀ r ∈ l, r.ch = k ∧ r.ln = n) (hr : ∀ r ∈ l, RdW ls r ∧ 0 ≤ r.wd) (hb : l.Pairwise Bhd)
include hne ho hr hb
theorem lawF_len : ∀ w : Nat, w ≤ ls.length → ((lawF ls l k n w).length : Int) = w + mv l (ltW' w)
  | 0, _ => by
    rw [mv_none l fun r hm => by unfold ltW'; exact decide_eq_false (by have := (hr r hm).2; omega)]; rfl
  | w + 1, hw => by
    have ih := lawF_len w (by omega)
    obtain ⟨s, hs⟩ := at_lt ls w (by omega)
    have hse := hne s (List.mem_of_getElem? hs)
    have h1 := mv_lt l w
    have h2 := mv_at (w := w) ho hb
    have h3 := taken_stand (k := k) (n := n) (w := w) (fun r hm => (hr r hm).1) hse
    rw [lawF_succ]
    rw [show (((w + 1 : Nat) : Int)) = (w : Int) + 1 by omega, h1, h2]
    unfold lawW
    simp only [hs]
    by_cases he : standL l k n w s = emp
    · rw [if_pos he, List.length_append, List.length_map, h3.2 he]; omega
    · rw [if_neg he, List.length_append, List.length_append, List.length_map, h3.1 he]; simp only [List.length_singleton]; omega
theorem lawF_at {w : Nat} {s : ByteArray} (hs : ls[w]? = some s) (he : standL l k n w s ≠ emp) : ∃ pos : Nat, (pos : Int) = w + mv l (leW' w) ∧ (lawF ls l k n (ls.length + 1))[pos]? = some (standL l k n w s) ∧ (lawF ls l k n w).length ≤ pos ∧ pos < (lawF ls l k n (w + 1)).length := by
  have hw := (List.getElem?_eq_some_iff.1 hs).1
  have h0 := lawF_len hne ho hr hb w (by omega)
  have h2 := mv_at (w := w) ho hb
  have h3 := taken_stand (k := k) (n := n) (w := w) (fun r hm => (hr r hm).1) (hne s (List.mem_of_getElem? hs))
  have h4 := mv_le l w
  rw [h2, h3.1 he] at h4
  have h5 : lawF ls l k n (w + 1) = lawF ls l k n w ++ (l.filter (putAt k n w)).map Rd.word ++ [standL l k n w s] := by
    rw [lawF_succ]; unfold lawW; simp only [hs]; rw [if_neg he]
  obtain ⟨t, ht⟩ := lawF_more ls l k n (w + 1) (ls.length - w)
  rw [show w + 1 + (ls.length - w) = ls.length + 1 by omega] at ht
  refine ⟨(lawF ls l k n w).length + (l.filter (putAt k n w)).length, by rw [h4]; omega, ?_, by omega, by rw [h5]; simp⟩
  rw [ht, h5, List.getElem?_append_left (by simp), List.getElem?_append_right (by simp)]
  simp
theorem lawF_lt {w w' : Nat} {s s' : ByteArray} (hs : ls[w]? = some s) (he : standL l k n w s ≠ emp) (hs' : ls[w']? = some s') (he' : standL l k n w' s' ≠ emp) (h : w < w') : (w : Int) + mv l (leW' w) < w' + mv l (leW' w') := by
  obtain ⟨p, hp, -, -, h1⟩ := lawF_at hne ho hr hb hs he
  obtain ⟨q, hq, -, h2, -⟩ := lawF_at hne ho hr hb hs' he'
  have := lawF_mono ls l k n (w := w + 1) (w' := w') h
  omega
end
/-- the word to which one is moved -/
def mvd (rs : List Rd) (k n w : Int) : Int := w + mv rs (fun r => atLine k n 0 r && leW' w r)
theorem stand_filter (rs : List Rd) (k n : Int) (w : Nat) (s : ByteArray) : standL rs k n w s = standL (ofLn rs k n) k n w s := by
  have ha : ∀ r : Rd, takesB k n w r = true → atLine k n 0 r = true := fun r h => by
    unfold takesB eqP at h; simp at h; exact atLine_iff.2 ⟨h.1.1, h.1.2.1⟩
  unfold standL ofLn
  have : rs.find? (takesB k n w) = (rs.filter (atLine k n 0)).find? (takesB k n w) := by
    induction rs with
    | nil => rfl
    | cons r l ih =>
      cases hl : atLine k n 0 r
      · have ht : takesB k n w r = false := by
          cases ht : takesB k n w r
          · rfl
          · rw [ha r ht] at hl; cases hl
        rw [List.filter_cons_of_neg (by rw [hl]; simp), List.find?_cons, ht]; exact ih
      · rw [List.filter_cons_of_pos hl, List.find?_cons, List.find?_cons]
        cases takesB k n w r
        · exact ih
        · rfl
  rw [this]
section
variable {t : Txt} {rs : List Rd} (h : Cpy t rs) {k n : Int} {ls : Line} (hl : lineAt t k n = some ls) (hne : ∀ s ∈ ls, s ≠ emp)
include h hl hne
theorem Cpy.law_ofLn : lawF ls (ofLn rs k n) k n (ls.length + 1) = refLine ls rs k n := by
  rw [← h.law hl hne]
  unfold lawF ofLn
  exact (foldl_same (fun a b => lawW_filter ls rs k n a b) _ _).symm
theorem Cpy.moved_at {w : Nat} {s : ByteArray} (hs : ls[w]? = some s) (he : standL rs k n w s ≠ emp) : ∃ pos : Nat, (pos : Int) = mvd rs k n w ∧ (refLine ls rs k n)[pos]? = some (standL rs k n w s) := by
  rw [stand_filter] at he
  obtain ⟨pos, h1, h2, -⟩ := lawF_at hne (fun r hr => (ofLn_mem.1 hr).2) (fun r hr => h.rdw hl hr) (h.bhd k n) hs he
  rw [h.law_ofLn hl hne, ← stand_filter] at h2
  refine ⟨pos, ?_, h2⟩
  rw [h1]; unfold mvd ofLn; rw [mv_filter]
theorem Cpy.moved_lt {w w' : Nat} {s s' : ByteArray} (hs : ls[w]? = some s) (he : standL rs k n w s ≠ emp) (hs' : ls[w']? = some s') (he' : standL rs k n w' s' ≠ emp) (hw : w < w') : mvd rs k n w < mvd rs k n w' := by
  rw [stand_filter] at he he'
  have := lawF_lt hne (fun r hr => (ofLn_mem.1 hr).2) (fun r hr => h.rdw hl hr) (h.bhd k n) hs he hs' he' hw
  unfold mvd
  unfold ofLn at this
  rwa [mv_filter, mv_filter] at this
end
end Go.Ev
namespace Go.Ev
open Go.Proofs
set_option maxRecDepth 100000
set_option linter.unusedSimpArgs false
attribute [local irreducible] Wp WpS
theorem ansS47 {e : Exts} (he : Quiet e) (t : Txt) (ht : Fits t) (ch : AV) (xs : List AV) (hch : SlOf 2 xs ch) (hall : All2 ChapA t xs) (hT : textB t = true) (n : Nat) (hn : n < 65536) (x : Plc × ByteArray) (hx : (wordsT 0 t)[n % (wordsT 0 t).length]? = some x) : Ans (Cx e) 47 [.agg [ch], .v (.int .u16 n)] (.tup [.agg [intA x.1.1, intA x.1.2.1, intA x.1.2.2], .v (.bool true)]) := by
  have hs := wordsT_small (small_of hT)
  have h14 := call14 he t ht ch xs hch hall hT
  have hxl := (List.getElem?_eq_some_iff.1 hx).1
  generalize hN : (wordsT 0 t).length = N at hs h14 hx hxl
  have hlt : ¬ ((N : Int) < 1) := by omega
  have hw1 := wrap_nat n (by omega)
  have hN0 : (N : Int) ≠ 0 := by omega
  have hr : ∀ (x y : Operand) (m : Int), binA Tryz.prog .rem 3 x y (.v (.int .i64 m)) (.v (.int .i64 N)) = some (.v (.int .i64 (Int.tmod m N))) := fun x y m => bin_rem x y m N hN0
  have hm1 : Int.tmod (n : Int) (N : Int) = ((n % N : Nat) : Int) := rfl
  generalize n % N = i at hm1 hx
  have b1 : boundL [AV.agg [ch], intA (i : Nat)] = 0 := by simp only [boundL_cons, bound_agg, hch.bound, boundL_nil]; rfl
  have c1 := fun me d => (ans15 he t ht ch xs hch hall (i : Nat)).callI (me := me) (d := d) (ext_45 he) (pure_45 _ _ _) b1
  rw [placeOf_in hT hx] at c1
  have b2 : boundL [AV.agg [ch], .agg [intA x.1.1, intA x.1.2.1, intA x.1.2.2]] = 0 := by simp only [boundL_cons, bound_agg, hch.bound, boundL_nil]; rfl
  have c6 := fun me d => (ans17 he t ht ch xs hch hall x.1.1 x.1.2.1 x.1.2.2).callI (me := me) (d := d) (ext_62 he) (pure_62 _ _ _) b2
  rw [place_in hx] at c6
  unfold intA at c1 c6
  unfold Ans
  rw [fn_step (fn_47 e) (show Tryz.f47.body = some _ from rfl)]
  simp -implicitDefEqProofs only [Tryz.f47, go_sem, ↓reduceIte, Int.reduceEq, Int.reduceLT, Int.reduceLE, List.reduceReplicate, intA, setT_nil, setT_cons, hch.cells, hch.flat, hch.bound, h14, hlt, decide_false, ↓boolP_bool, ↓iteB_true, ↓iteB_false]
  refine wp_drawX [([], [], false), ([], [], false), ([], [], false), ([], [], false), ([], [], false), ([], [], false), ([], [], false), ([], [], false), ([], [], false), ([0, 5], [], false), ([], [9], false), ([], [], false)] (by kernel_rfl) (by kernel_rfl) ?_
  simp -implicitDefEqProofs only [go_sem, ↓reduceIte, Int.reduceEq, Int.reduceLT, Int.reduceLE, List.reduceReplicate, intA, setT_nil, setT_cons, hch.cells, hch.flat, hch.bound, conv_u16, hw1, hr, hm1, c1, ↓boolP_bool, ↓iteB_true, ↓iteB_false]
  refine wp_drawX [([], [], false), ([], [], false), ([], [], false), ([], [], false), ([0], [], false), ([0, 4], [], false), ([0], [], false), ([], [], false), ([], [], false), ([], [], false)] (by kernel_rfl) (by kernel_rfl) ?_
  simp -implicitDefEqProofs only [go_sem, ↓reduceIte, Int.reduceEq, Int.reduceLT, Int.reduceLE, List.reduceReplicate, intA, setT_nil, setT_cons, hch.cells, hch.flat, hch.bound, c6, ↓boolP_bool, ↓iteB_true, ↓iteB_false]
  rfl
theorem ansS46 {e : Exts} (he : Quiet e) (t : Txt) (ht : Fits t) (ch : AV) (xs : List AV) (hch : SlOf 2 xs ch) (hall : All2 ChapA t xs) (hT : textB t = true) (a b c : Nat) (ln : Line) (hL : lineAt t a b = some ln) (w : ByteArray) (hw : ln[c]? = some w) : Ans (Cx e) 46 [.agg [ch], .agg [intA a, intA b, intA c]] (.tup [.v (.string w), intA 0]) := by
  have h40 := call40 he t ht ch ⟨xs, hch, hall⟩
  rw [hT] at h40
  have h44 := call44 he t ht ch xs hch hall a b c
  have hcl := (List.getElem?_eq_some_iff.1 hw).1
  have hp : placeB' t a b c = true := by unfold placeB'; rw [hL]; simp; omega
  rw [hp] at h44
  obtain ⟨lx, hlx, h45⟩ := ans45 he t ht ch xs hch hall a b c
  rw [hL] at hlx
  have hlx : SlOf 1 (strs ln) lx := hlx
  have b2 : boundL [AV.agg [ch], .agg [intA a, intA b, intA c]] = 0 := by simp only [boundL_cons, bound_agg, hch.bound, boundL_nil]; rfl
  have c45 := fun me d => h45.callI (me := me) (d := d) (ext_88 he) (pure_88 _ _ _) b2
  have hix := hlx.idx (strs_get hw)
  unfold intA at c45
  unfold Ans
  rw [fn_step (fn_46 e) (show Tryz.f46.body = some _ from rfl)]
  simp -implicitDefEqProofs only [Tryz.f46, go_sem, ↓reduceIte, Int.reduceEq, Int.reduceLT, Int.reduceLE, List.reduceReplicate, intA, setT_nil, setT_cons, hch.cells, hch.flat, hch.bound, h40, h44, if_true, ↓boolP_bool, ↓iteB_true, ↓iteB_false]
  refine wp_drawX [([], [], false), ([0], [], false), ([], [], false), ([], [], false), ([0, 1, 2], [], false), ([], [], false), ([], [], false), ([], [], false), ([], [], false)] (by kernel_rfl) (by kernel_rfl) ?_
  simp -implicitDefEqProofs only [go_sem, ↓reduceIte, Int.reduceEq, Int.reduceLT, Int.reduceLE, List.reduceReplicate, intA, setT_nil, setT_cons, hch.cells, hch.flat, hch.bound, c45, hix, hlx.cells, ↓boolP_bool, ↓iteB_true, ↓iteB_false]
  rfl
def onLe (a b c : Int) (r : Rd) : Bool := atLine a b 0 r && leW' c r
theorem mv_snoc (p : Rd → Bool) (r : Rd) : ∀ l : List Rd, mv (l ++ [r]) p = mv l p + (if p r = true then dlt r else 0)
  | [] => by unfold mv; simp [mv]
  | q :: l => by
    show (if p q = true then dlt q else 0) + mv (l ++ [r]) p = ((if p q = true then dlt q else 0) + mv l p) + _
    rw [mv_snoc p r l]; omega
theorem mv_bd (p : Rd → Bool) : ∀ l : List Rd, -(l.length : Int) ≤ mv l p ∧ mv l p ≤ l.length
  | [] => by unfold mv; simp
  | q :: l => by
    have := mv_bd p l
    unfold mv dlt
    simp only [List.length_cons]
    split <;> (try split) <;> (try split) <;> omega
set_option maxHeartbeats 4000000 in
theorem ansS35 {e : Exts} (he : Quiet e) (t : Txt) (ht : Fits t) (htx : textB t = true) (ch : AV) (xs : List AV) (hch : SlOf 2 xs ch) (hall : All2 ChapA t xs) (id : Int) (rs : List Rd) (x : AV) (hx : RdsA rs x) (hrs : rs.length ≤ 1000) (h58 : Has58 e ch id x true) (a b c : Nat) (ln : Line) (hL : lineAt t a b = some ln) (own : ByteArray) (hc : ln[c]? = some own) (hc1 : c < 1000) :
    Ans (Cx e) 35 [.agg [ch], .agg [intA id, x], .agg [intA a, intA b, intA c]] (if standL rs a b c own = emp then .tup [.agg [intA 0, intA 0, intA 0], intA 6] else .tup [.agg [intA a, intA b, intA (mvd rs a b c)], intA 0]) := by
  have hxb : bound x = 0 := SlOf.bound (show SlOf 5 (rs.map rdV) x from hx)
  have b1 : boundL [.agg [ch], .agg [intA id, x], .agg [intA a, intA b, intA c]] = 0 := by simp only [boundL_cons, bound_agg, hch.bound, hxb, boundL_nil]; rfl
  have h30 := fun me d H => (ans30 he t ht htx ch xs hch hall id rs x hx hrs h58 a b c ln hL own hc).call (ext_60 he) (pure_60 _ me d) b1 H
  have hx : SlOf 5 (rs.map rdV) x := hx
  have hln : (rs.map rdV).length = rs.length := List.length_map ..
  unfold intA at h30
  unfold Ans
  rw [fn_step (fn_35 e) (show Tryz.f35.body = some _ from rfl)]
  by_cases hem : standL rs a b c own = emp
  · rw [if_pos hem]
    rw [hem] at h30
    have hd : decide (emp = (⟨#[]⟩ : ByteArray)) = true := decide_eq_true rfl
    simp -implicitDefEqProofs only [Tryz.f35, go_sem, ↓reduceIte, Int.reduceEq, Int.reduceLT, Int.reduceLE, List.reduceReplicate, intA, setT_nil, setT_cons, hch.cells, hch.flat, hch.bound, hx.cells, hx.flat, hx.bound, h30, hd, ↓boolP_bool, ↓iteB_true, ↓iteB_false]
    rfl
  · rw [if_neg hem]
    have hd : decide (standL rs a b c own = (⟨#[]⟩ : ByteArray)) = false := decide_eq_false hem
    simp -implicitDefEqProofs only [Tryz.f35, go_sem, ↓reduceIte, Int.reduceEq, Int.reduceLT, Int.reduceLE, List.reduceReplicate, intA, setT_nil, setT_cons, hch.cells, hch.flat, hch.bound, hx.cells, hx.flat, hx.bound, hx.len, hln, h30, hd, ↓boolP_bool, ↓iteB_true, ↓iteB_false]
    refine Lp_ruleQ (P := fun μ A X => ∃ j, j + μ = rs.length ∧ A = ⟨73, [(0, .agg [ch]), (1, .agg [intA id, x]), (2, .agg [intA a, intA b, intA c]), (3, .ptr 0 0 0), (4, .ptr 1 0 0), (5, .ptr 2 0 0), (6, .ptr 3 0 0), (7, intA 0), (8, .v (.string (standL rs a b c own))), (9, intA 0), (21, .v (.bool false)), (25, .v (.bool false)), (10, .ptr 4 0 0), (29, x), (30, intA rs.length), (31, intA j)], []⟩ ∧ X = ⟨[some (.cells 0 0 24 1 false [ch]), some (.cells 0 0 66 1 false [intA id, x]), some (.cells 0 0 28 1 false [intA a, intA b, intA c]), some (.cells 0 0 28 1 false [intA 0, intA 0, intA 0]), some (.cells 0 0 28 1 false [intA a, intA b, intA (c + mv (rs.take j) (onLe a b c))])], 0⟩) ?_ rs.length _ _ ⟨0, Nat.zero_add _, rfl, by simp [mv, intA]⟩
    rintro Q KK hQ hKK μ _ _ ⟨j, hj, rfl, rfl⟩
    cases μ with
    | zero =>
      obtain rfl : j = rs.length := by omega
      simp -implicitDefEqProofs only [go_sem, ↓reduceIte, Int.reduceEq, Int.reduceLT, Int.reduceLE, List.reduceReplicate, intA, setT_nil, setT_cons, hx.cells, hx.flat, hx.bound, hx.len, hln, Int.lt_irrefl, hch.bound, hxb, trim_at, ↓boolP_bool, ↓iteB_true, ↓iteB_false]
      refine hKK _ _ _ ?_
      simp -implicitDefEqProofs only [go_sem, ↓reduceIte, Int.reduceEq, Int.reduceLT, Int.reduceLE, List.reduceReplicate, intA, setT_nil, setT_cons, hch.bound, hxb]
      rfl
    | succ μ =>
      obtain ⟨r, hr⟩ : ∃ r, rs[j]? = some r := ⟨rs[j]'(by omega), List.getElem?_eq_getElem (by omega)⟩
      have hix := hx.idx (j := j) (y := rdV r) (by rw [List.getElem?_map, hr]; rfl)
      have hlt : (j : Int) < ((rs.length : Nat) : Int) := by omega
      have hwj := wrap_succ j (by omega)
      have hrc : (rdV r).cells = [.v (.int .i64 r.ch), .v (.int .i64 r.ln), .v (.int .i64 r.wd), .v (.int .u8 r.kind), .v (.string r.word)] := rfl
      have htk : rs.take (j + 1) = rs.take j ++ [r] := by rw [List.take_add_one, hr]; rfl
      have hmv := mv_snoc (onLe a b c) r (rs.take j)
      rw [← htk] at hmv
      have hbd := mv_bd (onLe a b c) (rs.take j)
      have hbl : (rs.take j).length ≤ 1000 := by rw [List.length_take]; omega
      generalize hm : mv (rs.take j) (onLe a b c) = m at *
      have hwp : IntKind.i64.wrap ((c : Int) + m + 1) = (c : Int) + m + 1 := wrap_in _ (by omega) (by omega)
      have hwm : IntKind.i64.wrap ((c : Int) + m - 1) = (c : Int) + m - 1 := wrap_in _ (by omega) (by omega)
      have hfin : ∀ z : Int, z = (c : Int) + mv (rs.take (j + 1)) (onLe a b c) → Again Q (μ + 1) ⟨73, [(0, .agg [ch]), (1, .agg [intA id, x]), (2, .agg [intA a, intA b, intA c]), (3, .ptr 0 0 0), (4, .ptr 1 0 0), (5, .ptr 2 0 0), (6, .ptr 3 0 0), (7, intA 0), (8, .v (.string (standL rs a b c own))), (9, intA 0), (21, .v (.bool false)), (25, .v (.bool false)), (10, .ptr 4 0 0), (29, x), (30, intA rs.length), (31, intA ((j + 1 : Nat) : Int))], []⟩ ⟨[some (.cells 0 0 24 1 false [ch]), some (.cells 0 0 66 1 false [intA id, x]), some (.cells 0 0 28 1 false [intA a, intA b, intA c]), some (.cells 0 0 28 1 false [intA 0, intA 0, intA 0]), some (.cells 0 0 28 1 false [intA a, intA b, intA z])], 0⟩ := by
        rintro z rfl
        exact Again.mk' μ (by omega) (hQ _ _ _ ⟨j + 1, by omega, rfl, rfl⟩)
      unfold intA at hfin ⊢
      cases h1 : decide (r.ch = (a : Int))
      · have h1' := of_decide_eq_false h1
        simp -implicitDefEqProofs only [go_sem, ↓reduceIte, Int.reduceEq, Int.reduceLT, Int.reduceLE, List.reduceReplicate, intA, setT_nil, setT_cons, hx.cells, hx.flat, hx.bound, hx.len, hln, hlt, hix, hrc, hwj, List.take_succ_cons, List.take_zero, hch.bound, hxb, trim_at, h1, ↓boolP_bool, ↓iteB_true, ↓iteB_false]
        refine hfin _ ?_
        rw [hmv, if_neg (by unfold onLe; rw [show atLine a b 0 r = false by cases h : atLine a b 0 r with | false => rfl | true => exact absurd (atLine_iff.1 h).1 h1']; simp)]; omega
      · have h1' := of_decide_eq_true h1
        cases h2 : decide (r.ln = (b : Int))
        · have h2' := of_decide_eq_false h2
          simp -implicitDefEqProofs only [go_sem, ↓reduceIte, Int.reduceEq, Int.reduceLT, Int.reduceLE, List.reduceReplicate, intA, setT_nil, setT_cons, hx.cells, hx.flat, hx.bound, hx.len, hln, hlt, hix, hrc, hwj, List.take_succ_cons, List.take_zero, hch.bound, hxb, trim_at, h1, h2, ↓boolP_bool, ↓iteB_true, ↓iteB_false]
          refine hfin _ ?_
          rw [hmv, if_neg (by unfold onLe; rw [show atLine a b 0 r = false by cases h : atLine a b 0 r with | false => rfl | true => exact absurd (atLine_iff.1 h).2 h2']; simp)]; omega
        · have h2' := of_decide_eq_true h2
          have hat : atLine a b 0 r = true := atLine_iff.2 ⟨h1', h2'⟩
          cases h3 : decide (r.wd > (c : Int))
          · have h3' := of_decide_eq_false h3
            have hon : onLe a b c r = true := by unfold onLe leW'; rw [hat, decide_eq_true (by omega)]; rfl
            rw [if_pos hon] at hmv
            cases h4 : decide (r.kind = 2)
            · have h4' := of_decide_eq_false h4
              cases h5 : decide (r.kind = 1)
              · have h5' := of_decide_eq_false h5
                simp -implicitDefEqProofs only [go_sem, ↓reduceIte, Int.reduceEq, Int.reduceLT, Int.reduceLE, List.reduceReplicate, intA, setT_nil, setT_cons, hx.cells, hx.flat, hx.bound, hx.len, hln, hlt, hix, hrc, hwj, List.take_succ_cons, List.take_zero, hch.bound, hxb, trim_at, h1, h2, h3, h4, h5, ↓boolP_bool, ↓iteB_true, ↓iteB_false]
                refine hfin _ ?_
                rw [hmv]; unfold dlt; rw [if_neg h4', if_neg h5']; omega
              · have h5' := of_decide_eq_true h5
                simp -implicitDefEqProofs only [go_sem, ↓reduceIte, Int.reduceEq, Int.reduceLT, Int.reduceLE, List.reduceReplicate, intA, setT_nil, setT_cons, hx.cells, hx.flat, hx.bound, hx.len, hln, hlt, hix, hrc, hwj, List.take_succ_cons, List.take_zero, hch.bound, hxb, trim_at, h1, h2, h3, h4, h5, hwm, ↓boolP_bool, ↓iteB_true, ↓iteB_false]
                refine hfin _ ?_
                rw [hmv]; unfold dlt; rw [if_neg h4', if_pos h5']; omega
            · have h4' := of_decide_eq_true h4
              simp -implicitDefEqProofs only [go_sem, ↓reduceIte, Int.reduceEq, Int.reduceLT, Int.reduceLE, List.reduceReplicate, intA, setT_nil, setT_cons, hx.cells, hx.flat, hx.bound, hx.len, hln, hlt, hix, hrc, hwj, List.take_succ_cons, List.take_zero, hch.bound, hxb, trim_at, h1, h2, h3, h4, hwp, ↓boolP_bool, ↓iteB_true, ↓iteB_false]
              refine hfin _ ?_
              rw [hmv]; unfold dlt; rw [if_pos h4']; omega
          · have h3' := of_decide_eq_true h3
            simp -implicitDefEqProofs only [go_sem, ↓reduceIte, Int.reduceEq, Int.reduceLT, Int.reduceLE, List.reduceReplicate, intA, setT_nil, setT_cons, hx.cells, hx.flat, hx.bound, hx.len, hln, hlt, hix, hrc, hwj, List.take_succ_cons, List.take_zero, hch.bound, hxb, trim_at, h1, h2, h3, ↓boolP_bool, ↓iteB_true, ↓iteB_false]
            refine hfin _ ?_
            rw [hmv, if_neg (by unfold onLe leW'; rw [hat, decide_eq_false (by omega)]; simp)]; omega
end Go.Ev
namespace Go.Ev
open Go.Proofs
set_option maxRecDepth 1000000
def extWord : List AV → Option AV
  | [.v (.string s)] => if s.size < 1000 then some (.v (.bool (wordB s))) else none
  | _ => none
def eN : Exts := { x := fun _ => none }
def e0 : Exts := eN.more 131 cmpStr
def e1 : Exts := e0.more 90 extWord
theorem quiet0 : Quiet e0 := by
  intro f h1 h2
  unfold e0 Exts.more
  show (if Nat.beq f 131 then some cmpStr else none) = none
  rw [if_neg]
  intro h; exact h2 (Nat.eq_of_beq_eq_true h)
theorem mixed (e : Exts) : (Cx e).P.follows .mixedOrders = true := by show Tryz.prog.follows .mixedOrders = true; kernel_rfl
theorem nogo_all : (Tryz.prog.funcs.toList.all fun fn => !(fn.body.isSome && (fn.name == "runtime.NumGoroutine"))) = true := by kernel_rfl
theorem nogo (e : Exts) : NoGo (Cx e).P := by
  intro f fn hf hb
  have h := List.all_eq_true.1 nogo_all fn (by
    have : Tryz.prog.funcs[f]? = some fn := hf
    exact List.mem_of_getElem? (by simpa using this))
  rw [hb] at h
  simpa using h
theorem extOK_none : ExtOK (Cx eN) := ⟨fun _ _ h => (nomatch h), fun _ _ h => (nomatch h), fun _ _ h => (nomatch h)⟩
theorem extOK0 : ExtOK (Cx e0) := by
  refine extOK_more (C := Cx eN) (f := 131) (g := cmpStr) rfl ?_ extOK_none rfl
  intro args v h Z ρ H w vals hs hl
  exact ext_cmp (fn := Tryz.f131) Tryz.func131 (by kernel_rfl) (by kernel_rfl) (by kernel_rfl) (by kernel_rfl) h Z ρ H w vals hs hl
end Go.Ev
/- Closed evaluations, in pieces that are told once. -/
namespace Go.Ev
/-- a call on closed arguments, and what it answers -/
structure Tell where
  f : Nat
  K : List AV
  R : AV
def tabHas : List Tell → Nat → Bool
  | [], _ => false
  | t :: r, f => Nat.beq t.f f || tabHas r f
def tabFn : List Tell → Nat → List AV → Option AV
  | [], _, _ => none
  | t :: r, f, args => if Nat.beq t.f f && listEq (eqA 30) args t.K then some t.R else tabFn r f args
def tabExt (e : FuncId → Option (List AV → Option AV)) (T : List Tell) : FuncId → Option (List AV → Option AV) := fun f => if tabHas T f then some (tabFn T f) else e f
def Cfg.more (C : Cfg) (e : FuncId → Option (List AV → Option AV)) : Cfg := { C with ext := e }
/-- a call that looks at memory, and what it answers -/
structure TellH where
  f : Nat
  K : List AV
  G : List (Option AObj)
  R : AV
def eqEnt : List (AV × AV × Nat) → List (AV × AV × Nat) → Bool
  | [], [] => true
  | (a, b, n) :: r, (a', b', n') :: s => eqQ 30 a a' && eqQ 30 b b' && Nat.beq n n' && eqEnt r s
  | _, _ => false
def sameX : Option AObj → Option AObj → Bool
  | none, none => true
  | some .dead, some .dead => true
  | some .dfr, some .dfr => true
  | some (.cells v m e sz g cs), some (.cells v' m' e' sz' g' cs') => Nat.beq v v' && Nat.beq m m' && Nat.beq e e' && Nat.beq sz sz' && (g == g') && eqLQ (eqQ 30) cs cs'
  | some (.map m es c), some (.map m' es' c') => Nat.beq m m' && eqEnt es es' && Nat.beq c c'
  | _, _ => false
def sameL : List (Option AObj) → List (Option AObj) → Bool
  | [], [] => true
  | x :: r, y :: s => sameX x y && sameL r s
  | _, _ => false
theorem eqEnt_eq : ∀ {l m : List (AV × AV × Nat)}, eqEnt l m = true → l = m
  | [], [], _ => rfl
  | [], _ :: _, h => by cases h
  | _ :: _, [], h => by cases h
  | (a, b, n) :: r, (a', b', n') :: s, h => by
    simp only [eqEnt, Bool.and_eq_true] at h
    obtain ⟨⟨⟨h1, h2⟩, h3⟩, h4⟩ := h
    rw [eqQ_eq 30 _ _ h1, eqQ_eq 30 _ _ h2, Nat.eq_of_beq_eq_true h3, eqEnt_eq h4]
theorem sameX_eq {x y : Option AObj} (h : sameX x y = true) : x = y := by
  unfold sameX at h
  split at h
  · rfl
  · rfl
  · rfl
  · simp only [Bool.and_eq_true, beq_iff_eq] at h
    obtain ⟨⟨⟨⟨⟨h1, h2⟩, h3⟩, h4⟩, h5⟩, h6⟩ := h
    rw [Nat.eq_of_beq_eq_true h1, Nat.eq_of_beq_eq_true h2, Nat.eq_of_beq_eq_true h3, Nat.eq_of_beq_eq_true h4, h5, eqLQ_eq (eqQ_eq 30) h6]
  · simp only [Bool.and_eq_true] at h
    obtain ⟨⟨h1, h2⟩, h3⟩ := h
    rw [Nat.eq_of_beq_eq_true h1, eqEnt_eq h2, Nat.eq_of_beq_eq_true h3]
  · cases h
theorem sameL_eq : ∀ {l m : List (Option AObj)}, sameL l m = true → l = m
  | [], [], _ => rfl
  | [], _ :: _, h => by cases h
  | _ :: _, [], h => by cases h
  | x :: r, y :: s, h => by
    simp only [sameL, Bool.and_eq_true] at h
    rw [sameX_eq h.1, sameL_eq h.2]
def tabHHas : List TellH → Nat → Bool
  | [], _ => false
  | t :: r, f => Nat.beq t.f f || tabHHas r f
def tabH : List TellH → Nat → List AV → Heap → Option AV
  | [], _, _, _ => none
  | t :: r, f, args, H => if Nat.beq t.f f && (eqLQ (eqQ 30) args t.K && sameL H.objs t.G) then some t.R else tabH r f args H
def atom1 : AV → Bool
  | .v _ => true
  | _ => false
def atom1b : AV → Bool
  | .v _ => true
  | .agg cs => cs.all atom1
  | _ => false
/-- a value that leads to no memory -/
def atomR : AV → Bool
  | .v _ => true
  | .tup cs => cs.all atom1b
  | .agg cs => cs.all atom1b
  | _ => false
/-- a call on arguments that lie in memory: what it answers if nothing of that memory is turned -/
def borH (T : List Tell) (f : Nat) (args : List AV) (H : Heap) : Option AV :=
  match freezeL { H with lock := 0 } 100000 args with
  | some l => match tabFn T f l with | some R => if atomR R then some R else none | none => none
  | none => none
def tabX (T : List Tell) (TH : List TellH) (f : Nat) (args : List AV) (H : Heap) : Option AV := match tabH TH f args H with | some v => some v | none => borH T f args H
def tabExh (e : FuncId → Option (List AV → Heap → Option AV)) (T : List Tell) (TH : List TellH) : FuncId → Option (List AV → Heap → Option AV) := fun f => if tabHHas TH f || tabHas T f then some (tabX T TH f) else e f
def Cfg.more2 (C : Cfg) (e : FuncId → Option (List AV → Option AV)) (x : FuncId → Option (List AV → Heap → Option AV)) : Cfg := { C with ext := e, exh := x }
def ansH (n : Nat) (o : Option Out) : Option AV := match o with | some (.ret v H) => freezeV { H with lock := n } 1000000 v | _ => none
/-- what is told of a call is so -/
def GoodC (C : Cfg) (t : Tell) : Prop := (∃ e x, ExtOK (C.more2 e x) ∧ Ans (C.more2 e x) t.f t.K t.R) ∧ boundL t.K = 0
def GoodH (C : Cfg) (t : TellH) : Prop := (∃ e x, ExtOK (C.more2 e x) ∧ ∃ n, ansH t.G.length (evT (C.more2 e x) n (.call t.f t.K { objs := t.G, lock := t.G.length })) = some t.R) ∧ (Nat.beq (boundL t.K) 0 || t.K.any isYld) = false
def AllG (C : Cfg) : List Tell → Prop
  | [] => True
  | t :: r => GoodC C t ∧ AllG C r
def AllH (C : Cfg) : List TellH → Prop
  | [] => True
  | t :: r => GoodH C t ∧ AllH C r
theorem tabFn_some {C : Cfg} : ∀ {T : List Tell} {f : Nat} {args : List AV} {v : AV}, AllG C T → tabFn T f args = some v → ∃ t, GoodC C t ∧ t.f = f ∧ args = t.K ∧ v = t.R
  | [], _, _, _, _, h => by cases h
  | t :: r, f, args, v, hT, h => by
    unfold tabFn at h
    split at h
    · rename_i hq
      simp only [Bool.and_eq_true] at hq
      exact ⟨t, hT.1, Nat.eq_of_beq_eq_true hq.1, listEq_eq (eqA_eq 30) hq.2, by simpa using h.symm⟩
    · exact tabFn_some hT.2 h
theorem tabH_some {C : Cfg} : ∀ {T : List TellH} {f : Nat} {args : List AV} {H : Heap} {v : AV}, AllH C T → tabH T f args H = some v → ∃ t, GoodH C t ∧ t.f = f ∧ args = t.K ∧ H.objs = t.G ∧ v = t.R
  | [], _, _, _, _, _, h => by cases h
  | t :: r, f, args, H, v, hT, h => by
    unfold tabH at h
    split at h
    · rename_i hq
      simp only [Bool.and_eq_true] at hq
      exact ⟨t, hT.1, Nat.eq_of_beq_eq_true hq.1, eqLQ_eq (eqQ_eq 30) hq.2.1, sameL_eq hq.2.2, by simpa using h.symm⟩
    · exact tabH_some hT.2 h
theorem atom1_rep {Z Z' : Fzn} {ρ ρ' : Pls} {x : AV} {v : Value} (h : Rep Z ρ x v) (ha : atom1 x = true) : Rep Z' ρ' x v := by
  cases h with
  | v h => exact .v h
  | _ => cases ha
theorem atom1b_rep {Z Z' : Fzn} {ρ ρ' : Pls} {x : AV} {v : Value} (h : Rep Z ρ x v) (ha : atom1b x = true) : Rep Z' ρ' x v := by
  cases h with
  | v h => exact .v h
  | agg hl h => exact .agg hl fun i c v hc hv => atom1_rep (h i c v hc hv) (List.all_eq_true.1 (show List.all _ atom1 = true from ha) c (List.mem_of_getElem? hc))
  | _ => cases ha
theorem atomR_rep {Z Z' : Fzn} {ρ ρ' : Pls} {x : AV} {v : Value} (h : Rep Z ρ x v) (ha : atomR x = true) : Rep Z' ρ' x v := by
  cases h with
  | v h => exact .v h
  | agg hl h => exact .agg hl fun i c v hc hv => atom1b_rep (h i c v hc hv) (List.all_eq_true.1 (show List.all _ atom1b = true from ha) c (List.mem_of_getElem? hc))
  | tup hl h => exact .tup hl fun i c v hc hv => atom1b_rep (h i c v hc hv) (List.all_eq_true.1 (show List.all _ atom1b = true from ha) c (List.mem_of_getElem? hc))
  | _ => cases ha
/-- what a run from memory that is all frozen leaves, of a world that stands for more -/
theorem back_frozen {Z : Fzn} {ρ : Pls} {H : Heap} {w : World} (hs : Sim Z ρ H w) {R : AV} (hR : atomR R = true) {x : Value} {w' : World} (h : After (allZ w) noPls { objs := [], lock := 0 } w R { objs := [], lock := 0 } x w') : After Z ρ H w R H x w' := by
  obtain ⟨Z', ρ', h1, h2, h3⟩ := h
  have hsame : ∀ k, k < w.heap.size → w'.heap[k]? = w.heap[k]? := fun k hk => h3.frame k hk (start_own w k)
  refine ⟨Z, ρ, atomR_rep h1 hR, ⟨fun b o hb hl => ?_, hs.inj, fun k o hk => ?_, hs.fresh, hs.lk, hs.lg⟩, ⟨.refl _, .refl _, fun k hk _ => hsame k hk, fun _ _ h => h, h3.size, h3.os, h3.output, h3.tape, h3.drawn, h3.fz, rfl, fun _ _ => rfl, Nat.le_refl _, fun _ _ _ => rfl, fun _ _ _ => rfl, fun _ _ h _ => ⟨h, fun _ => rfl⟩⟩⟩
  · obtain ⟨pl, obj, q1, q2, q3, q4⟩ := hs.objs b o hb hl
    exact ⟨pl, obj, q1, (hsame _ (Array.getElem?_eq_some_iff.1 q2).1).trans q2, q3, q4⟩
  · have := hs.zok k o hk
    exact (hsame _ (Array.getElem?_eq_some_iff.1 this).1).trans this
theorem extOK_tab {C : Cfg} (hgo : NoGo C.P) (hm : C.P.follows .mixedOrders = true) (h0 : ExtOK C) {T : List Tell} (hT : AllG C T) {TH : List TellH} (hH : AllH C TH) : ExtOK (C.more2 (tabExt C.ext T) (tabExh C.exh T TH)) := by
  refine ⟨fun f g hf args v hv Z ρ H w vals hs hl => ?_, h0.lay, fun f g hf args v H hv Z ρ w vals hs hl => ?_⟩
  · have hf' : (if tabHas T f then some (tabFn T f) else C.ext f) = some g := hf
    split at hf'
    · simp only [Option.some.injEq] at hf'
      subst hf'
      obtain ⟨t, ⟨⟨e, x, he, ha⟩, hb⟩, rfl, rfl, rfl⟩ := tabFn_some hT hv
      exact ext_of_ans (C := C.more2 e x) hgo hm he ha hb Z ρ H w vals hs hl
    · exact h0.ext f g hf' args v hv Z ρ H w vals hs hl
  · have hf' : (if tabHHas TH f || tabHas T f then some (tabX T TH f) else C.exh f) = some g := hf
    split at hf'
    · simp only [Option.some.injEq] at hf'
      subst hf'
      unfold tabX at hv
      split at hv
      case h_2 =>
        unfold borH at hv
        split at hv
        · rename_i l hfz
          split at hv
          · rename_i R hR
            split at hv
            · rename_i hat
              simp only [Option.some.injEq] at hv
              subst hv
              have hlz : RepL (allZ w) noPls l vals := (freeze_rep (ρ := noPls) (Z1 := Z) (Z2 := allZ w) (ρ1 := ρ) (H1 := { H with lock := 0 }) (w1 := w) ⟨hs.objs, hs.inj, hs.zok, hs.fresh, Nat.zero_le _, hs.lg⟩ (fun k o hk => hs.zok k o hk) (fun b o pl _ _ _ _ => rfl) (fun b v p hb _ => absurd hb (Nat.not_lt_zero _)) 100000).2 _ _ _ hfz hl
              obtain ⟨t, ⟨⟨e, x, he, ha⟩, hb⟩, rfl, rfl, rfl⟩ := tabFn_some hT hR
              have hm1 := ext_of_ans (C := C.more2 e x) hgo hm he ha hb (allZ w) noPls { objs := [], lock := 0 } w vals (start_sim w (hs.lg.mono fun k o hk => hs.zok k o hk)) hlz
              rcases hm1 with ⟨y, w', h1, h2⟩ | ⟨h1, h2⟩
              · exact Or.inl ⟨y, w', h1, back_frozen hs hat h2⟩
              · exact Or.inr ⟨h1, Calls.mono' h2 fun en w' he => by
                  obtain ⟨y, rfl, h3⟩ := he
                  exact ⟨y, rfl, back_frozen hs hat h3⟩⟩
            · cases hv
          · cases hv
        · cases hv
      rename_i v2 hv2
      simp only [Option.some.injEq] at hv
      subst hv
      obtain ⟨t, ⟨⟨e, x, he, n, ha⟩, hb⟩, rfl, rfl, hG, rfl⟩ := tabH_some hH hv2
      have hrec : RecOK C.P (evT (C.more2 e x) n) := (ev_sound (C := C.more2 e x) hgo he (draw_ok hm he) n).1
      let D : Cfg := { C.more2 e x with pure := fun _ _ _ => true }
      have hk : callKind D t.f t.f none t.K = 2 := by
        simp only [Bool.or_eq_false_iff] at hb
        unfold callKind
        simp only [hb.1, hb.2, Bool.false_eq_true, if_false, if_true, D]
      have hB : callB D (evT (C.more2 e x) n) t.f t.f none t.K H = some (t.R, H) := by
        unfold callB; rw [hk]
        have h1 : ({ H with lock := H.size } : Heap) = { objs := t.G, lock := t.G.length } := by
          obtain ⟨objs, lock⟩ := H
          simp only at hG
          subst hG
          rfl
        have h2 : H.size = t.G.length := by unfold Heap.size; rw [hG]
        simp only
        rw [h1, h2]
        unfold ansH at ha
        split at ha
        · rename_i v1 H1 h3
          rw [h3]
          simp only [ha, Option.map_some]
        · cases ha
      obtain ⟨hbody, hc⟩ := callB_sound (C := D) hrec hs hl hB
      exact Or.inr ⟨hbody.run _ _, hc⟩
    · exact h0.exh f g hf' args v H hv Z ρ w vals hs hl
def ansC (o : Option Out) : Option AV := match o with | some (.ret v H) => freezeV { H with lock := 0 } 1000000 v | _ => none
theorem ans_of_evC {C : Cfg} {n : Nat} {f : FuncId} {args : List AV} {v : AV} (h : ansC (evT C n (.call f args { objs := [], lock := 0 })) = some v) : Ans C f args v := by
  refine Ans.iff.2 ?_
  cases ho : evT C n (.call f args { objs := [], lock := 0 }) with
  | none => rw [ho] at h; cases h
  | some o =>
    rw [ho] at h
    cases o with
    | go => cases h
    | ret x H => exact ⟨x, H, lim_iff.2 ⟨n, ho⟩, h⟩
theorem goodC {C : Cfg} (hgo : NoGo C.P) (hm : C.P.follows .mixedOrders = true) (h0 : ExtOK C) {t : Tell} (T : List Tell) (hT : AllG C T) (TH : List TellH) (hH : AllH C TH) (n : Nat)
    (h : ansC (evT (C.more2 (tabExt C.ext T) (tabExh C.exh T TH)) n (.call t.f t.K { objs := [], lock := 0 })) = some t.R) (hb : boundL t.K = 0) : GoodC C t :=
  ⟨⟨_, _, extOK_tab hgo hm h0 hT hH, ans_of_evC h⟩, hb⟩
end Go.Ev
/- Do two slices lie in one memory: what stands for it. -/
namespace Go.Ev
end Go.Ev
/- A function of Go's library that stands for itself: internal/bytealg.IndexByteString. -/
namespace Go.Ev
/-! ### the first byte of a kind -/
def idxB (c : Nat) : Int → List UInt8 → Int
  | _, [] => -1
  | i, b :: r => if Nat.beq b.toNat c then i else idxB c (i + 1) r
theorem idxB_eq (c : UInt8) : ∀ (l : List UInt8) (i : Int), idxB c.toNat i l = if Lib.indexByte l c = -1 then -1 else Lib.indexByte l c + i
  | [], i => by simp [idxB, Lib.indexByte]
  | b :: l, i => by
    unfold idxB Lib.indexByte
    by_cases h : b = c
    · subst h
      have h1 : Nat.beq b.toNat b.toNat = true := Nat.beq_refl _
      simp
    · have h1 : Nat.beq b.toNat c.toNat = false := by
        cases hb : Nat.beq b.toNat c.toNat
        · rfl
        · exact absurd (UInt8.toNat_inj.1 (Nat.eq_of_beq_eq_true hb)) h
      have hge := Lib.indexByte_ge l c
      rw [h1, idxB_eq c l (i + 1)]
      simp only [Bool.false_eq_true, if_false, beq_iff_eq, h]
      by_cases h2 : Lib.indexByte l c = -1
      · simp [h2]
      · simp only [h2, if_false]
        rw [if_neg (by omega)]; omega
def idxStr : List AV → Option AV
  | [.v (.string s), .v (.int .u8 c)] => if 0 ≤ c ∧ c < 256 then some (.v (.int .i64 (idxB c.toNat 0 s.data.toList))) else none
  | _ => none
theorem ext_idx {P : Program} {f : FuncId} {fn : Func} (hf : P.funcs[f]? = some fn) (hb : fn.body = none) (hn : (fn.name == "runtime.NumGoroutine") = false) (h1 : (Extern.findNext fn).isNone = true) (h2 : Extern.find fn = some Extern.BytealgIndexByte.indexByte)
    {args : List AV} {v : AV} (h : idxStr args = some v) (Z : Fzn) (ρ : Pls) (H : Heap) (w : World) (vals : List Value) (hs : Sim Z ρ H w) (hl : RepL Z ρ args vals) : FnMeets P f vals w (After Z ρ H w v H) := by
  unfold idxStr at h
  split at h
  · rename_i s c
    split at h
    · rename_i hc
      obtain ⟨v1, ws, rfl, hv1, hl⟩ := hl.uncons
      obtain ⟨v2, ws, rfl, hv2, hl⟩ := hl.uncons
      have : ws = [] := List.length_eq_zero_iff.1 hl.1.symm
      subst this
      obtain ⟨rfl, -⟩ := hv1.v_inv
      obtain ⟨rfl, -⟩ := hv2.v_inv
      simp only [Option.some.injEq] at h
      subst h
      refine Or.inl ⟨.int .i64 (Lib.indexByte s.data.toList c.toNat.toUInt8), w, ?_, Z, ρ, ?_, hs, Ext.refl _ _ _ _⟩
      · have hfn : Extern.findNext fn = none := Option.isNone_iff_eq_none.1 h1
        have := Lib.run_indexByteString (P := P) s c w
        have hn' : ¬ fn.name = "runtime.NumGoroutine" := by
          intro e; rw [e] at hn; simp at hn
        simp [callFunc, hf, hn', hb, hfn, h2, this]
      · have hcn : c.toNat.toUInt8.toNat = c.toNat := by
          have : c.toNat < 256 := by omega
          simp [Nat.toUInt8, Nat.mod_eq_of_lt this]
        have := idxB_eq c.toNat.toUInt8 s.data.toList 0
        rw [hcn] at this
        have e : idxB c.toNat 0 s.data.toList = Lib.indexByte s.data.toList c.toNat.toUInt8 := by
          rw [this]; split
          · rename_i h; exact h.symm
          · omega
        rw [e]; exact .v rfl
    · cases h
  · cases h
end Go.Ev
/- A function of Go's library that stands for itself: strings.Join. -/
namespace Go.Ev
open Go.Proofs Go.Shelf Go.RowKit
theorem Sim.below {Z : Fzn} {ρ : Pls} {H : Heap} {w w' : World} (hs : Sim Z ρ H w) (hb : Below w.heap.size w w') : Sim Z ρ H w' :=
  ⟨fun b o h hl => let ⟨pl, obj, h1, h2, h3, h4⟩ := hs.objs b o h hl; ⟨pl, obj, h1, (hb.block _ (Array.getElem?_eq_some_iff.1 h2).1).trans h2, h3, h4⟩, hs.inj,
    fun k o hk => (hb.block k (Array.getElem?_eq_some_iff.1 (hs.zok k o hk)).1).trans (hs.zok k o hk), hs.fresh, hs.lk, hs.lg⟩
theorem Ext.below {Z : Fzn} {ρ : Pls} {H : Heap} {w w' : World} (hb : Below w.heap.size w w') : Ext Z ρ H w Z ρ H w' :=
  ⟨.refl _, .refl _, fun k hk _ => hb.block k hk, fun _ _ h => h, hb.size, hb.os, hb.output, hb.tape, (fun s => nomatch (show true = false from s)), fun _ ha => hb.frozen ha, rfl, fun _ _ => rfl, Nat.le_refl _, fun _ _ _ => rfl, fun _ _ _ => rfl, fun _ _ h _ => ⟨h, fun _ => rfl⟩⟩
/-! ### strings.Join -/
def strsOf : List AV → Option (List ByteArray)
  | [] => some []
  | .v (.string s) :: r => match strsOf r with | some l => some (s :: l) | none => none
  | _ => none
def joinStr : List AV → Option AV
  | [.v (.slice none 0 0), .v (.string _)] => some (.v (.string ⟨#[]⟩))
  | [.vs _ xs _, .v (.string sep)] =>
    match strsOf xs with
    | some l => if l.length ≤ 100000 ∧ (Lib.join (l.map (·.data.toList)) sep.data.toList).length ≤ 100000 then some (.v (.string ⟨(Lib.join (l.map (·.data.toList)) sep.data.toList).toArray⟩)) else none
    | none => none
  | _ => none
theorem strsOf_some : ∀ {xs : List AV} {l : List ByteArray}, strsOf xs = some l → xs = l.map fun s => .v (.string s)
  | [], l, h => by simp [strsOf] at h; subst h; rfl
  | x :: r, l, h => by
    unfold strsOf at h
    split at h
    · rename_i h'; cases h'
    · rename_i s r' h'
      simp only [List.cons.injEq] at h'
      obtain ⟨rfl, rfl⟩ := h'
      split at h
      · rename_i l' hl
        simp only [Option.some.injEq] at h
        subst h
        rw [strsOf_some hl]; rfl
      · cases h
    · cases h
theorem flat_strs : ∀ l : List ByteArray, (l.map fun s => AV.v (.string s)).flatMap AV.cells = l.map fun s => AV.v (.string s)
  | [] => rfl
  | a :: r => by simp only [List.map_cons, List.flatMap_cons, flat_strs r]; rfl
theorem ext_join {P : Program} {ρn : Ren} (L : Lays.n156 P ρn) (X : Builder.Extra P ρn) {f : FuncId} (hf : ρn.f 156 = f) (hbody : HasBody P f)
    {args : List AV} {v : AV} (h : joinStr args = some v) (Z : Fzn) (ρ : Pls) (H : Heap) (w : World) (vals : List Value) (hs : Sim Z ρ H w) (hl : RepL Z ρ args vals) : FnMeets P f vals w (After Z ρ H w v H) := by
  subst hf
  unfold joinStr at h
  split at h
  · rename_i sep
    obtain ⟨v1, ws, rfl, hv1, hl⟩ := hl.uncons
    obtain ⟨v2, ws, rfl, hv2, hl⟩ := hl.uncons
    have : ws = [] := List.length_eq_zero_iff.1 hl.1.symm
    subst this
    obtain ⟨rfl, -⟩ := hv1.v_inv
    obtain ⟨rfl, -⟩ := hv2.v_inv
    simp only [Option.some.injEq] at h
    subst h
    refine Or.inr ⟨hbody.run _ _, Calls.mono' (Any.strings_Join_none L X none 0 sep w) ?_⟩
    rintro e w' ⟨rfl, rfl⟩
    exact ⟨_, rfl, Z, ρ, .v rfl, hs, Ext.refl _ _ _ _⟩
  · rename_i sz xs cap sep
    obtain ⟨v1, ws, rfl, hv1, hl⟩ := hl.uncons
    obtain ⟨v2, ws, rfl, hv2, hl⟩ := hl.uncons
    have : ws = [] := List.length_eq_zero_iff.1 hl.1.symm
    subst this
    obtain ⟨rfl, -⟩ := hv2.v_inv
    split at h
    · rename_i l hstr
      split at h
      · rename_i hc
        simp only [Option.some.injEq] at h
        subst h
        have hxs := strsOf_some hstr
        refine Or.inr ⟨hbody.run _ _, ?_⟩
        cases hv1 with
        | vs hz ha hsz hl' hh hcap hle =>
          rename_i c blk arr e fz pre vs post
          have hblk := (Array.getElem?_eq_some_iff.1 (hs.zok _ _ hz)).1
          have hlen : xs.length = l.length := by rw [hxs, List.length_map]
          have hcells : (xs.flatMap AV.cells) = l.map fun s => AV.v (.string s) := by
            rw [hxs]
            exact flat_strs l
          have hget : ∀ (j : Nat) (x : ByteArray), l[j]? = some x → w.cell? ⟨blk, pre.length + j, none⟩ = some (.string x) := by
            intro j x hj
            have h1 : (xs.flatMap AV.cells)[j]? = some (.v (.string x)) := by rw [hcells, List.getElem?_map, hj]; rfl
            have hlt : j < vs.length := by rw [← hl']; exact (List.getElem?_eq_some_iff.1 h1).1
            have h2 : vs[j]? = some vs[j] := List.getElem?_eq_getElem hlt
            have h3 := (hh j _ _ h1 h2).v_inv.1
            rw [cell_at (hs.zok _ _ hz) ha h2, h3]
          have hcall := Any.strings_Join L X blk pre.length c l sep w hget hblk (by have := hc.1; omega) (by omega) (by have := hc.2; omega)
          rw [← hlen] at hcall
          refine Calls.mono' hcall ?_
          rintro e w' ⟨rfl, hb⟩
          exact ⟨_, rfl, Z, ρ, .v rfl, hs.below hb, Ext.below hb⟩
        | vs0 hcap =>
          have hl0 : l = [] := by
            cases l with
            | nil => rfl
            | cons a r => simp at hxs
          subst hl0
          refine Calls.mono' (Any.strings_Join_none L X _ _ sep w) ?_
          rintro e w' ⟨rfl, rfl⟩
          exact ⟨_, rfl, Z, ρ, .v rfl, hs, Ext.refl _ _ _ _⟩
      · cases h
    · cases h
  · cases h
end Go.Ev
/- A function of Go's library that stands for itself: strings.Fields, on ASCII texts. -/
namespace Go.Ev
open Go.Proofs Go.Shelf Go.RowKit
def asciiB : List UInt8 → Bool
  | [] => true
  | b :: r => Nat.blt b.toNat 128 && asciiB r
theorem asciiB_at : ∀ {l : List UInt8}, asciiB l = true → ∀ (j : Nat) b, l[j]? = some b → b.toNat < 128
  | [], _, j, b, h => by simp at h
  | x :: r, ha, 0, b, h => by
    simp only [asciiB, Bool.and_eq_true] at ha
    simp only [List.getElem?_cons_zero, Option.some.injEq] at h
    subst h
    rw [← Nat.blt_eq]; exact ha.1
  | x :: r, ha, j + 1, b, h => by
    simp only [asciiB, Bool.and_eq_true] at ha
    exact asciiB_at ha.2 j b (by simpa using h)
def strAV (l : List UInt8) : AV := .v (.string ⟨l.toArray⟩)
def fieldsA : List AV → Option AV
  | [.v (.string s)] => if Nat.blt s.data.size 100000 && asciiB s.data.toList then some (.vs 1 ((Lib.fields s.data.toList).map strAV) (some (Lib.fields s.data.toList).length)) else none
  | _ => none
theorem strAV_cells : ∀ l : List (List UInt8), (l.map strAV).flatMap AV.cells = l.map strAV
  | [] => rfl
  | x :: r => by simp only [List.map_cons, List.flatMap_cons, strAV_cells r]; rfl
theorem ext_fields {P : Program} {ρn : Ren} (L : Lays.n157 P ρn) (hi9 : (P.info? (ρn.t 9)).map (fun i => (i.zero, i.size, i.bytes)) = some (some (.string ByteArray.empty), 1, 16)) (hg : P.globalNamed "strings.asciiSpace" = some (ρn.g 0))
    (hl0 : (ρn.g 0, (Lib.asciiSpaceTab.map fun z => Value.int .u8 z).toArray) ∈ laidL) {f : FuncId} (hf : ρn.f 157 = f) (hbody : HasBody P f)
    {args : List AV} {v : AV} (h : fieldsA args = some v) (Z : Fzn) (ρ : Pls) (H : Heap) (w : World) (vals : List Value) (hs : Sim Z ρ H w) (hl : RepL Z ρ args vals) : FnMeets P f vals w (After Z ρ H w v H) := by
  subst hf
  unfold fieldsA at h
  split at h
  · rename_i s
    obtain ⟨v1, ws, rfl, hv1, hl⟩ := hl.uncons
    have : ws = [] := List.length_eq_zero_iff.1 hl.1.symm
    subst this
    obtain ⟨rfl, -⟩ := hv1.v_inv
    split at h
    · rename_i hc
      simp only [Bool.and_eq_true] at hc
      simp only [Option.some.injEq] at h
      subst h
      have hsz : s.size < 100000 := by
        have := hc.1
        rw [Nat.blt_eq] at this
        exact this
      have htab : Lib.TabIs P w "strings.asciiSpace" .u8 Lib.asciiSpaceTab := by
        obtain ⟨e, fz, hz⟩ := hs.lg _ hl0
        have := hs.zok _ _ hz
        unfold Lib.TabIs World.var?
        rw [hg]
        simp only [Option.bind_some]
        simp only at this
        rw [this]
      refine Or.inr ⟨hbody.run _ _, Calls.mono' (Any.strings_Fields L hi9 hg s w (by omega) (asciiB_at hc.2) htab) ?_⟩
      rintro e w' ⟨rfl, rfl⟩
      obtain ⟨q1, q2⟩ := hs.frozen (.cells ((Lib.fields s.data.toList).map fun l => Value.string ⟨l.toArray⟩).toArray (ρn.t 9) (0, 0)) (fun c e fz he => by cases he; rfl)
      refine ⟨_, rfl, _, ρ, ?_, q1, q2⟩
      have hz : freezeZ Z w.heap.size (.cells ((Lib.fields s.data.toList).map fun l => Value.string ⟨l.toArray⟩).toArray (ρn.t 9) (0, 0)) w.heap.size = some (.cells ((Lib.fields s.data.toList).map fun l => Value.string ⟨l.toArray⟩).toArray (ρn.t 9) (0, 0)) := by
        unfold freezeZ; rw [if_pos rfl]
      have hlen : ((Lib.fields s.data.toList).map strAV).length = (Lib.fields s.data.toList).length := List.length_map _
      have hrep : Rep (freezeZ Z w.heap.size (.cells ((Lib.fields s.data.toList).map fun l => Value.string ⟨l.toArray⟩).toArray (ρn.t 9) (0, 0))) ρ (.vs 1 ((Lib.fields s.data.toList).map strAV) (some (Lib.fields s.data.toList).length))
          (.slice (some ⟨w.heap.size, ([] : List Value).length, none⟩) ((Lib.fields s.data.toList).map strAV).length (Lib.fields s.data.toList).length) := by
        refine Rep.vs (vs := (Lib.fields s.data.toList).map fun l => Value.string ⟨l.toArray⟩) (post := []) hz (by simp) (fun x hx => ?_) ?_ (fun i c v hc hv => ?_) (fun k hk => by cases hk; rfl) (by rw [hlen]; exact Nat.le_refl _)
        · obtain ⟨l, -, rfl⟩ := List.mem_map.1 hx
          rfl
        · rw [strAV_cells, List.length_map, List.length_map]
        · rw [strAV_cells] at hc
          rw [List.getElem?_map] at hc hv
          cases hq : (Lib.fields s.data.toList)[i]? with
          | none => rw [hq] at hc; cases hc
          | some l =>
            rw [hq] at hc hv
            simp only [Option.map_some, Option.some.injEq] at hc hv
            subst hc; subst hv
            exact .v rfl
      rw [hlen] at hrep
      exact hrep
    · cases h
  · cases h
end Go.Ev
/-
  DERIVED: THE SHELF's CONTRACTS AT THIS DUMP, IN PLAIN WORDS (tools/lay-plain.mjs out of 'TryzShelf.lean', which tools/lay-shelf.mjs wrote): THE SAME DECLARATIONS UNDER THE SAME NAMES: 'import', 'namespace', 'open', 'def', 'theorem' AND NOTHING ELSE: no command of the shelf's: FOR A HAND-IN. Each laying: the table of numbers ('.._ren') and one theorem, a field a fact of the dump's own or the kernel's comparison; each contract: ONE APPLICATION.
-/
namespace Go.Proofs
open Go.Shelf
def Tryz.lays156_ren : Go.Shelf.Ren := ⟨fun | 156 => 127 | 165 => 155 | 166 => 156 | 169 => 157 | 240 => 180 | 241 => 181 | 276 => 189 | 277 => 190 | n => n, fun | 31 => 87 | 9 => 9 | 3 => 3 | 4 => 4 | 0 => 0 | 20 => 20 | 72 => 227 | 76 => 231 | 70 => 224 | 37 => 225 | 75 => 230 | 127 => 249 | 164 => 262 | 5 => 5 | 80 => 233 | n => n, fun | n => n⟩
theorem Tryz.lays156 : Go.Proofs.Lays.n156 Tryz.prog Tryz.lays156_ren := {
  mixed := by kernel_rfl
  f156 := Tryz.func127.trans (congrArg some (by kernel_rfl))
  f165 := Tryz.func155.trans (congrArg some (by kernel_rfl))
  f166 := Tryz.func156.trans (congrArg some (by kernel_rfl))
  f169 := Tryz.func157.trans (congrArg some (by kernel_rfl))
  f240 := Tryz.func180.trans (congrArg some (by kernel_rfl))
  f241 := Tryz.func181.trans (congrArg some (by kernel_rfl))
  f276 := Tryz.func189.trans (congrArg some (by kernel_rfl))
  f277 := Tryz.func190.trans (congrArg some (by kernel_rfl))
  t0 := Tryz.underlying0
  a0 := Tryz.isAgg0
  z0 := Tryz.sizeOf0
  v0 := Tryz.zeroValue0
  t3 := Tryz.underlying3
  a3 := Tryz.isAgg3
  z3 := Tryz.sizeOf3
  v3 := Tryz.zeroValue3
  t4 := Tryz.underlying4
  a4 := Tryz.isAgg4
  z4 := Tryz.sizeOf4
  v4 := Tryz.zeroValue4
  t9 := Tryz.underlying9
  a9 := Tryz.isAgg9
  z9 := Tryz.sizeOf9
  v9 := Tryz.zeroValue9
  t20 := Tryz.underlying20
  a20 := Tryz.isAgg20
  z20 := Tryz.sizeOf20
  v20 := Tryz.zeroValue20
  t31 := Tryz.underlying87
  a31 := Tryz.isAgg87
  z31 := Tryz.sizeOf87
  v31 := Tryz.zeroValue87
  t37 := Tryz.underlying225
  a37 := Tryz.isAgg225
  z37 := Tryz.sizeOf225
  v37 := Tryz.zeroValue225
  t70 := Tryz.underlying224
  a70 := Tryz.isAgg224
  z70 := Tryz.sizeOf224
  v70 := Tryz.zeroValue224
  t72 := Tryz.underlying227
  a72 := Tryz.isAgg227
  z72 := Tryz.sizeOf227
  v72 := Tryz.zeroValue227
  t75 := Tryz.underlying230
  a75 := Tryz.isAgg230
  z75 := Tryz.sizeOf230
  v75 := Tryz.zeroValue230
  t76 := Tryz.underlying231
  a76 := Tryz.isAgg231
  z76 := Tryz.sizeOf231
  v76 := Tryz.zeroValue231
  t127 := Tryz.underlying249
  a127 := Tryz.isAgg249
  z127 := Tryz.sizeOf249
  v127 := Tryz.zeroValue249
  t164 := Tryz.underlying262
  a164 := Tryz.isAgg262
  z164 := Tryz.sizeOf262
  v164 := Tryz.zeroValue262 }
theorem Tryz.Builder_Extra_156 : Builder.Extra Tryz.prog Tryz.lays156_ren := {
  sizeBuilder := by kernel_rfl
  liesBuilder := by kernel_rfl
  t5 := Tryz.underlying5
  a5 := Tryz.isAgg5
  z5 := Tryz.sizeOf5
  v5 := Tryz.zeroValue5
  infoByte := by kernel_rfl
  cellsByte := by kernel_rfl
  sizeByte := by kernel_rfl
  neB5 := by decide }
open Go.RowKit in
/-- No element: the empty string; the world is as it was. (Whatever the slice's address and capacity: a nil slice too.) (LAID: no walk: one application.) -/
theorem Tryz.strings_Join_none (a : Option Addr) (c : Nat) (sep : ByteArray) (w : World) :
    Calls Tryz.prog 127 #[.slice a 0 c, .string sep] w fun e w' => e = .returned (.string ⟨#[]⟩) ∧ w' = w := Any.strings_Join_none Tryz.lays156 Tryz.Builder_Extra_156 a c sep w
open Go.RowKit in
/-- strings.Join: "Join concatenates the elements of its first argument to create a single string. The separator string sep is placed between elements in the resulting string.": HOWEVER MANY ELEMENTS. Below the heap's end the world is as it was. (LAID: no walk: one application.) -/
theorem Tryz.strings_Join (bk o c : Nat) (xs : List ByteArray) (sep : ByteArray) (w : World) (hcells : ∀ (j : Nat) x, xs[j]? = some x → w.cell? ⟨bk, o + j, none⟩ = some (.string x)) (hbk : bk < w.heap.size) (hN : xs.length ≤ 140737488355328) (hcap : xs.length ≤ c) (hlen : (Lib.join (xs.map (·.data.toList)) sep.data.toList).length ≤ 140737488355328) :
    Calls Tryz.prog 127 #[.slice (some ⟨bk, o, none⟩) xs.length c, .string sep] w fun e w' => e = .returned (.string ⟨(Lib.join (xs.map (·.data.toList)) sep.data.toList).toArray⟩) ∧ Below w.heap.size w w' := Any.strings_Join Tryz.lays156 Tryz.Builder_Extra_156 bk o c xs sep w hcells hbk hN hcap hlen
def Tryz.lays157_ren : Go.Shelf.Ren := ⟨fun | 157 => 107 | 229 => 128 | 199 => 129 | 261 => 158 | 311 => 182 | 312 => 183 | n => n, fun | 9 => 9 | 31 => 87 | 3 => 3 | 5 => 5 | 4 => 4 | 119 => 187 | 0 => 0 | 40 => 189 | 152 => 234 | 21 => 21 | 154 => 236 | 51 => 237 | 141 => 239 | 196 => 253 | 193 => 250 | 198 => 255 | 49 => 76 | 194 => 251 | 201 => 258 | 226 => 265 | 46 => 266 | 227 => 267 | n => n, fun | 0 => 0 | 6 => 2 | n => n⟩
theorem Tryz.lays157 : Go.Proofs.Lays.n157 Tryz.prog Tryz.lays157_ren := {
  mixed := by kernel_rfl
  f157 := Tryz.func107.trans (congrArg some (by kernel_rfl))
  f199 := Tryz.func129.trans (congrArg some (by kernel_rfl))
  f229 := Tryz.func128.trans (congrArg some (by kernel_rfl))
  f261 := Tryz.func158.trans (congrArg some (by kernel_rfl))
  f311 := Tryz.func182.trans (congrArg some (by kernel_rfl))
  f312 := Tryz.func183.trans (congrArg some (by kernel_rfl))
  t0 := Tryz.underlying0
  a0 := Tryz.isAgg0
  z0 := Tryz.sizeOf0
  v0 := Tryz.zeroValue0
  t3 := Tryz.underlying3
  a3 := Tryz.isAgg3
  z3 := Tryz.sizeOf3
  v3 := Tryz.zeroValue3
  t4 := Tryz.underlying4
  a4 := Tryz.isAgg4
  z4 := Tryz.sizeOf4
  v4 := Tryz.zeroValue4
  t5 := Tryz.underlying5
  a5 := Tryz.isAgg5
  z5 := Tryz.sizeOf5
  v5 := Tryz.zeroValue5
  t9 := Tryz.underlying9
  a9 := Tryz.isAgg9
  z9 := Tryz.sizeOf9
  v9 := Tryz.zeroValue9
  t21 := Tryz.underlying21
  a21 := Tryz.isAgg21
  z21 := Tryz.sizeOf21
  v21 := Tryz.zeroValue21
  t31 := Tryz.underlying87
  a31 := Tryz.isAgg87
  z31 := Tryz.sizeOf87
  v31 := Tryz.zeroValue87
  t40 := Tryz.underlying189
  a40 := Tryz.isAgg189
  z40 := Tryz.sizeOf189
  v40 := Tryz.zeroValue189
  t46 := Tryz.underlying266
  a46 := Tryz.isAgg266
  z46 := Tryz.sizeOf266
  v46 := Tryz.zeroValue266
  t49 := Tryz.underlying76
  a49 := Tryz.isAgg76
  z49 := Tryz.sizeOf76
  v49 := Tryz.zeroValue76
  t51 := Tryz.underlying237
  a51 := Tryz.isAgg237
  z51 := Tryz.sizeOf237
  v51 := Tryz.zeroValue237
  t119 := Tryz.underlying187
  a119 := Tryz.isAgg187
  z119 := Tryz.sizeOf187
  t141 := Tryz.underlying239
  a141 := Tryz.isAgg239
  z141 := Tryz.sizeOf239
  v141 := Tryz.zeroValue239
  t152 := Tryz.underlying234
  a152 := Tryz.isAgg234
  z152 := Tryz.sizeOf234
  v152 := Tryz.zeroValue234
  t154 := Tryz.underlying236
  a154 := Tryz.isAgg236
  z154 := Tryz.sizeOf236
  v154 := Tryz.zeroValue236
  t193 := Tryz.underlying250
  a193 := Tryz.isAgg250
  z193 := Tryz.sizeOf250
  v193 := Tryz.zeroValue250
  t194 := Tryz.underlying251
  a194 := Tryz.isAgg251
  z194 := Tryz.sizeOf251
  v194 := Tryz.zeroValue251
  t196 := Tryz.underlying253
  a196 := Tryz.isAgg253
  z196 := Tryz.sizeOf253
  v196 := Tryz.zeroValue253
  t198 := Tryz.underlying255
  a198 := Tryz.isAgg255
  z198 := Tryz.sizeOf255
  v198 := Tryz.zeroValue255
  t201 := Tryz.underlying258
  a201 := Tryz.isAgg258
  z201 := Tryz.sizeOf258
  v201 := Tryz.zeroValue258
  t226 := Tryz.underlying265
  a226 := Tryz.isAgg265
  z226 := Tryz.sizeOf265
  v226 := Tryz.zeroValue265
  t227 := Tryz.underlying267
  a227 := Tryz.isAgg267
  z227 := Tryz.sizeOf267
  v227 := Tryz.zeroValue267
  g0 := by kernel_rfl
  g6 := by kernel_rfl }
open Go.RowKit Go.Lib in
/-- strings.Fields, the table by 'Lib.TabIs' (as strings.TrimSpace's contract). 'hg': the table's number, by its name: at a dump 'by kernel_rfl'. (LAID: no walk: one application.) -/
theorem Tryz.strings_Fields (s : ByteArray) (w : World) (hs : s.size < 4294967281) (hascii : ∀ (j : Nat) b, s.data.toList[j]? = some b → b.toNat < 128) (htab : Lib.TabIs Tryz.prog w "strings.asciiSpace" .u8 Lib.asciiSpaceTab) :
    Calls Tryz.prog 107 #[.string s] w fun e w' =>
      e = .returned (.slice (some ⟨w.heap.size, 0, none⟩) (Lib.fields s.data.toList).length (Lib.fields s.data.toList).length) ∧ w' = w.alloc (.cells ((Lib.fields s.data.toList).map fun l => Value.string ⟨l.toArray⟩).toArray 9) := Any.strings_Fields Tryz.lays157 (by kernel_rfl) (by kernel_rfl) s w hs hascii htab
end Go.Proofs
/- The configuration over this seat's program, for closed evaluations. Made by program. -/
namespace Go.Ev.Cl
open Go.Proofs
set_option maxRecDepth 1000000
def impF : List Nat := [91, 125, 130, 141, 142, 150, 159, 163, 165, 167, 180, 184]
def impC : List (Nat × Nat × Nat) := [(79, 86, 19), (117, 118, 8)]
def altF : List Nat := []
def altC : List (Nat × Nat) := []
def keepF : Nat → List Nat
  | 2 => []
  | 3 => [0, 1, 2, 4, 6, 3, 36, 9, 5, 10, 11, 13, 12, 14, 15, 17, 16, 18, 19, 21, 20, 22, 23, 25, 24, 26, 8]
  | 4 => [42, 1, 3, 5, 7, 9, 11, 13, 15, 17, 19, 21, 23, 22, 0]
  | 5 => [0, 1, 3, 4, 7, 35, 9, 11, 8, 10, 63, 66, 65, 67, 64, 12, 14, 15, 17, 13, 16, 100, 19, 21, 18, 20, 129, 2, 22, 24, 23, 26, 25, 6]
  | 6 => [0, 1, 3, 4, 7, 31, 2, 8, 9, 11, 10, 63, 13, 14, 76, 16, 81, 12, 89, 88, 90, 87, 17, 19, 100, 21, 110, 116, 124, 20, 22, 151, 15, 6]
  | 7 => [0, 1, 4, 5, 9, 31, 2, 3, 12, 10, 11, 14, 16, 13, 15, 90, 18, 19, 103, 20, 21, 22, 17, 125, 8]
  | 8 => [0, 1, 3, 4, 7, 26, 2, 9, 35, 36, 37, 11, 8, 13, 12, 58, 10, 14, 65, 66, 64, 17, 15, 103, 6]
  | 9 => [0, 1, 4, 5, 9, 40, 2, 3, 10, 12, 14, 11, 13, 15, 17, 19, 21, 23, 25, 22, 24, 135, 18, 138, 137, 139, 136, 26, 20, 28, 146, 150, 149, 151, 148, 30, 158, 16, 31, 8]
  | 10 => [0, 1, 5, 6, 11, 44, 13, 12, 56, 2, 3, 4, 16, 17, 18, 19, 20, 21, 22, 26, 24, 15, 23, 25, 27, 29, 31, 14, 28, 166, 169, 32, 33, 35, 191, 30, 34, 10]
  | 11 => [0, 1, 4, 5, 9, 45, 2, 3, 11, 13, 15, 74, 10, 12, 17, 97, 16, 99, 19, 14, 18, 23, 22, 21, 20, 8]
  | 12 => [0, 1, 2, 4, 6, 5, 9, 42, 3, 10, 11, 13, 15, 72, 19, 88, 17, 14, 12, 18, 21, 20, 126, 130, 129, 131, 128, 23, 139, 16, 8]
  | 13 => [0, 1, 2, 3, 4, 5, 24, 23, 25, 22, 9, 34, 7, 11, 13, 15, 17, 10, 12, 96, 14, 16, 6]
  | 14 => [0, 1, 2, 3, 4, 5, 7, 34, 9, 13, 11, 71, 73, 8, 12, 85, 84, 86, 83, 14, 16, 97, 98, 10, 109, 123, 140, 6]
  | 15 => [0, 1, 9, 3, 14, 24, 4, 33, 46, 5, 58, 74, 2]
  | 16 => [0, 1, 2]
  | 17 => [0, 6, 3, 10, 17, 2]
  | 18 => [0, 4, 1, 11, 6, 29, 5, 3, 2]
  | 19 => [0, 1, 2, 3, 4, 8, 17, 5, 9, 23, 11, 33, 12, 39, 45, 51, 6, 7]
  | 20 => [0, 1, 2, 3, 4, 8, 14, 5, 18, 23, 9, 29, 35, 41, 6, 7]
  | 21 => [0, 1, 2, 6, 14, 3, 7, 20, 26, 25, 27, 24, 8, 10, 4, 5]
  | 22 => [0, 1, 2, 6, 20, 3, 24, 11, 7, 9, 13, 52, 16, 14, 67, 78, 12, 15, 4, 5]
  | 23 => [0, 1, 3, 4, 8, 23, 2, 9, 28, 10, 36, 35, 37, 34, 11, 13, 45, 44, 46, 43, 15, 54, 53, 55, 52, 18, 60, 16, 6, 7]
  | 24 => [0, 1, 3, 4, 9, 22, 2, 10, 27, 12, 8, 32, 14, 38, 13, 54, 11, 6, 7]
  | 25 => [0, 4, 10, 14, 13, 15, 6, 24, 5, 2, 3]
  | 26 => [0, 4, 12, 6, 17, 8, 22, 7, 37, 5, 2, 3]
  | 27 => [0, 1, 10, 5, 14, 25, 4]
  | 28 => [0, 1, 10, 5, 14, 25, 4]
  | 29 => [0, 1, 2, 3, 15, 5, 20, 6, 7, 46, 8, 51, 65, 4]
  | 30 => [0, 1, 10, 5, 14, 25, 4]
  | 31 => [3, 2, 1, 4, 6, 5, 8, 7, 10, 9, 12, 11, 14, 13, 16, 15, 0]
  | 32 => [0, 1, 5, 12, 11, 2, 3, 4, 10]
  | 33 => [0, 1, 2, 6]
  | 34 => [0]
  | 35 => [0, 1, 2, 3, 4, 5, 9, 21, 6, 8, 25, 31, 30, 32, 29, 12, 56, 58, 59, 10, 65, 7]
  | 36 => [0]
  | 37 => [0, 1, 2, 3, 4, 8, 15, 6, 5, 10, 25, 7]
  | 38 => [0, 2]
  | 39 => [0, 1, 2, 3, 4, 5, 10, 18, 6, 12, 27, 7, 36, 13, 11, 40, 8, 9]
  | 40 => [0, 1, 2, 3, 6, 12, 4, 5]
  | 41 => [0, 1, 5, 2]
  | 42 => [0, 1, 2, 3, 4]
  | 43 => [0, 1, 2, 3, 6, 11, 4, 5]
  | 44 => [0, 1, 5, 13, 4, 16, 17, 18, 6, 2, 3]
  | 45 => [0, 1, 2, 7, 16, 4, 5, 6, 20, 21, 22, 8, 3, 25, 9]
  | 46 => [0, 1, 2, 7, 14, 6, 3, 19, 4, 5]
  | 47 => [0, 2, 7, 6, 20, 4, 1, 8, 9, 5]
  | 48 => [0, 1, 4, 6, 2]
  | 49 => [0, 1, 15, 14, 16, 13, 5, 20, 3, 2]
  | 50 => [0, 2, 1, 9, 8, 20, 10, 29, 6, 7, 4, 5]
  | 51 => [0, 7, 9, 11, 10, 5, 14, 3, 2]
  | 52 => [0, 7, 9, 8, 5, 4, 17, 3, 2]
  | 53 => [0, 1, 2, 4, 3]
  | 54 => [0, 2, 7, 14, 1, 18, 6, 4, 5]
  | 55 => [1, 0, 9, 8, 10, 7, 6, 3, 15, 4]
  | 56 => [0, 1, 12, 3, 17, 4, 35, 5, 38, 49, 6, 54, 64, 7, 72, 84, 2]
  | 57 => [0, 1, 7, 3, 12, 22, 2]
  | 58 => [0, 1, 3, 18, 5, 23, 2, 6, 34, 70, 7, 75, 8, 86, 96, 4]
  | 59 => [0, 1, 2, 3, 7, 15, 4, 6, 5]
  | 60 => [0, 1, 2, 3, 4, 9, 19, 8, 5, 24, 28, 27, 29, 26, 11, 40, 6, 7]
  | 61 => [0, 1, 2, 3, 9, 19, 4]
  | 62 => [0, 1, 2, 3, 6, 5, 4]
  | 63 => [0, 1, 2, 5, 9, 3, 4]
  | 64 => [0, 7, 6, 8, 5, 4, 26, 2]
  | 65 => [0, 1, 2, 3, 4, 5, 7, 6]
  | 66 => [0, 1, 2, 5, 9, 3, 4]
  | 67 => [0, 1, 2, 3, 5, 8, 9, 7, 13, 38, 14, 45, 15, 4, 12, 62, 10, 11, 18, 105, 107, 114, 17, 16, 121, 6]
  | 68 => [0, 1, 4, 2]
  | 69 => [0, 1, 2, 10, 9, 11, 5, 3, 6, 4]
  | 70 => [0, 1, 3, 5, 2, 6, 28, 27, 29, 8, 40, 7, 4]
  | 71 => [0, 1, 5, 2]
  | 72 => [0, 8, 11, 5, 16, 22, 4, 6, 42, 50, 2, 3]
  | 73 => [0, 1, 10, 5, 14, 25, 4]
  | 74 => [0, 5, 2]
  | 75 => [0, 1, 2, 3, 13, 12, 14, 11, 7, 20, 19, 21, 5, 8, 4]
  | 76 => [0, 1, 2, 3, 6, 14, 9, 8, 21, 7, 4, 5]
  | 77 => [0, 6, 3, 10, 18, 2]
  | 78 => [1, 0, 3, 4]
  | 79 => [0, 1, 2, 7, 16, 4, 5, 6, 19, 20, 21, 9, 3, 24, 8]
  | 80 => [0, 8, 7, 9, 6, 5, 3, 14, 2]
  | 81 => [0, 1, 4]
  | 82 => [0, 1, 2, 3, 4]
  | 83 => [0, 1, 2]
  | 84 => [0, 1, 2]
  | 85 => [0, 1, 6, 2, 3]
  | 86 => [0, 1, 2]
  | 87 => [0, 1, 3, 2, 4]
  | 88 => [0, 1, 3, 2, 13, 5, 27, 4]
  | 89 => [3, 0, 7, 19, 2]
  | 90 => [0, 9, 12, 11, 13, 3, 24, 2]
  | 91 => [0, 1, 8, 9, 10, 3, 5, 4, 2]
  | 92 => [0, 1, 2, 6]
  | 93 => [0, 1, 2, 3, 6, 15, 17, 18, 5, 32, 45, 4]
  | 94 => [0, 1, 4, 2, 3, 11, 10, 27, 33, 13, 5, 42, 14, 68, 71, 9, 12, 80, 8]
  | 95 => [0, 1, 2, 7, 14, 4, 6, 3, 20, 5]
  | 96 => [0, 1, 2, 15, 14, 16, 13, 5, 7, 29, 30, 31, 8, 10, 9, 3, 4]
  | 97 => [0, 1, 3, 2, 28, 4, 5]
  | 98 => [0, 2]
  | 99 => [0, 5, 2, 8, 10, 11, 3, 14]
  | 100 => [0, 1, 4, 3, 2, 21, 20, 22, 19, 9, 28, 27, 29, 26, 7, 11, 8, 10, 6]
  | 101 => [0, 2, 1, 5, 4]
  | 102 => [1, 0, 8, 7, 9, 3, 5, 16, 4]
  | 103 => [0, 1, 5, 2]
  | 104 => [1, 0, 5, 3, 11, 4]
  | 105 => [0, 4, 11, 3, 2]
  | 106 => [4, 0, 8, 12, 3, 2]
  | 107 => [6, 0, 16, 5, 7, 3, 4, 8, 37, 12, 53, 60, 66, 9, 10, 11, 91, 98, 2]
  | 108 => [0, 11, 10, 12, 9, 3, 5, 20, 27, 26, 28, 25, 6, 8, 2]
  | 109 => [0, 1, 10, 13, 12, 14, 5, 24, 4]
  | 110 => [0, 4, 1, 11, 5, 22, 6, 36, 3, 2]
  | 111 => [1, 0, 8, 7, 9, 3, 5, 16, 4]
  | 112 => [0, 1, 4]
  | 113 => [0, 1, 5, 11, 6, 12, 13, 16, 19, 4]
  | 114 => [0, 1, 9, 8, 10, 7, 6, 2, 22, 4]
  | 115 => [0, 1, 2, 6]
  | 116 => [0, 1, 11, 15, 14, 16, 13, 4, 3, 38, 2]
  | 117 => [0, 1, 8, 9, 10, 4, 13, 12, 14, 11, 5, 3, 2, 6, 24]
  | 118 => [0, 1, 2]
  | 119 => [1, 0, 4]
  | 120 => [0, 1, 9, 8, 10, 7, 6, 2, 22, 4]
  | 121 => [0, 1, 3, 2, 30, 35, 36, 37, 5, 7, 4]
  | 122 => [0, 1, 15, 14, 16, 13, 6, 8, 9, 5, 4]
  | 123 => [1, 0, 11, 10, 12, 9, 7, 8, 3, 24, 5, 4]
  | 124 => [0, 1, 12, 21, 6, 34, 5, 4]
  | 125 => [0, 1, 4]
  | 126 => [0, 2, 1, 5, 4]
  | 127 => [0, 12, 13, 15, 1, 22, 29, 5, 41, 40, 42, 39, 7, 49, 8, 65, 64, 66, 63, 10, 4]
  | 128 => [0, 14, 16, 15, 1, 8, 21, 6, 23, 5, 7, 33, 36, 49, 48, 50, 47, 9, 10, 11, 4]
  | 129 => [0, 5, 6, 7, 2]
  | 130 => [1, 6, 0, 16, 4]
  | 132 => [0, 2]
  | 133 => [0, 2]
  | 134 => [1, 0, 3, 4]
  | 135 => [0, 12, 15, 14, 16, 4, 25, 31, 30, 32, 29, 6, 37, 3, 2]
  | 136 => [1, 10, 9, 11, 8, 4, 18, 17, 19, 0, 3, 5, 31]
  | 137 => [0, 1, 12, 11, 13, 10, 2, 7, 8, 5, 42, 4]
  | 138 => [3, 0, 9, 4, 5, 38, 2]
  | 139 => [0, 2]
  | 140 => [0]
  | 141 => [0, 2, 1, 4]
  | 142 => [0, 2, 1, 4]
  | 143 => [0, 1, 13, 4]
  | 144 => [0, 1, 16, 4]
  | 145 => [4, 0, 9, 5, 16, 2, 3]
  | 146 => [0, 7, 1, 12, 4]
  | 147 => [0, 7, 1, 15, 4]
  | 148 => [0, 9, 1, 5, 18, 6, 4]
  | 149 => [0, 9, 5, 17, 1, 26, 6, 4]
  | 150 => [0, 1, 2, 4, 3, 5, 6]
  | 151 => [0]
  | 152 => [1, 0, 8, 9, 6, 3, 7, 5, 17, 4]
  | 153 => [0, 1, 3, 2, 4]
  | 154 => [0, 1, 3, 4, 10, 2, 5]
  | 155 => [0, 1, 7, 21]
  | 156 => [0, 1, 4, 5]
  | 157 => [0, 2]
  | 158 => [0, 5, 6, 1, 32, 7, 54, 4]
  | 159 => [0, 1, 4]
  | 160 => [0, 2, 1, 3]
  | 161 => [0, 1, 2, 3, 4]
  | 162 => [1, 3, 0, 4]
  | 163 => [0, 2, 4]
  | 164 => [1, 0, 3, 4]
  | 165 => [0, 2, 1, 4]
  | 166 => [1, 3, 0, 4]
  | 167 => [0, 2, 1, 4]
  | 168 => [0, 1, 4]
  | 169 => [0, 10, 2, 3]
  | 170 => [0, 1, 4]
  | 171 => [0, 4, 10, 5, 2, 18, 6, 27, 33, 35, 3, 48]
  | 172 => [1, 11, 2, 14, 0, 6, 25, 7, 33, 3, 8, 42]
  | 173 => [0, 1, 4]
  | 174 => [0, 1, 2, 3, 4]
  | 175 => [0, 1, 2, 3, 4]
  | 176 => [0, 1, 2, 3, 9, 4]
  | 177 => [0, 1, 2]
  | 178 => [1, 10, 9, 11, 4, 2, 5, 28, 27, 29, 7, 32, 6, 46, 0, 53]
  | 179 => [0, 6, 1, 4]
  | 180 => [0, 6, 19]
  | 181 => [0, 1, 4]
  | 182 => [0, 1, 17, 20, 19, 21, 5, 6, 31, 37, 7, 8, 62, 9, 10, 85, 110, 4]
  | 183 => [0, 13, 16, 15, 17, 5, 1, 6, 27, 33, 7, 8, 58, 9, 10, 78, 95, 4]
  | 184 => [0, 8, 7, 9, 1, 5, 16, 4]
  | 185 => [0, 4, 16, 5, 6, 23, 7, 8, 45, 10, 9, 57, 59, 11, 75, 77, 12, 98, 2, 3]
  | 186 => [1, 160, 0, 171, 175, 177, 176, 6, 181, 5, 183, 7, 8, 9, 26, 33, 11, 43, 12, 51, 64, 10, 98, 13, 108, 124, 14, 15, 139, 16, 143, 156, 4]
  | 187 => [0, 2]
  | 188 => [1, 5, 0, 16, 24, 31, 36, 8, 9, 59, 6, 64, 11, 73, 7, 93, 10, 107, 12, 114, 132, 13, 139, 4]
  | 191 => [0, 1, 4]
  | 192 => [0, 3, 10, 2]
  | 193 => [0, 2]
  | 195 => [0, 1, 4]
  | 196 => [1, 9, 7, 20, 8, 0, 5, 39, 10, 44, 6, 77, 4]
  | 198 => [5, 0, 12, 4, 8, 25, 30, 6, 7, 2, 3]
  | 226 => []
  | _ => []
def isImp (me f : Nat) (d : Option Nat) : Bool := impF.any (Nat.beq f) || impC.any fun t => Nat.beq t.1 me && Nat.beq t.2.1 f && (match d with | some d => Nat.beq t.2.2 d | none => false)
noncomputable def CC : Cfg := { P := Tryz.prog, pure := fun me f d => !(isImp me f d), alter := fun me d => altF.any (Nat.beq me) || (match d with | some d => altC.any fun t => Nat.beq t.1 me && Nat.beq t.2 d | none => false), keep := keepF, ext := fun f' => if Nat.beq f' 107 then some fieldsA else if Nat.beq f' 127 then some joinStr else if Nat.beq f' 197 then some idxStr else if Nat.beq f' 131 then some cmpStr else none }
theorem mixedC : CC.P.follows .mixedOrders = true := by show Tryz.prog.follows .mixedOrders = true; kernel_rfl
theorem nogo_allC : (Tryz.prog.funcs.toList.all fun fn => !(fn.body.isSome && (fn.name == "runtime.NumGoroutine"))) = true := by kernel_rfl
theorem nogoC : NoGo CC.P := by
  intro f fn hf hb
  have h := List.all_eq_true.1 nogo_allC fn (by
    have : Tryz.prog.funcs[f]? = some fn := hf
    exact List.mem_of_getElem? (by simpa using this))
  rw [hb] at h
  simpa using h
theorem extOKZ : ExtOK { CC with ext := fun _ => none, exh := fun _ => none } := by
  exact ⟨fun _ _ h => (nomatch h), fun _ _ h => (nomatch h), fun _ _ h => (nomatch h)⟩
theorem extOKN : ExtOK (CC.more fun _ => none) := extOKZ
theorem extOKE0 : ExtOK (CC.more (fun f' => if Nat.beq f' 131 then some cmpStr else none)) := by
  refine extOK_more (C := CC.more (fun _ => none)) (f := 131) (g := cmpStr) rfl ?_ extOKN rfl
  intro args v h Z ρ H w vals hs hl
  exact ext_cmp (fn := Tryz.f131) Tryz.func131 (by kernel_rfl) (by kernel_rfl) (by kernel_rfl) (by kernel_rfl) h Z ρ H w vals hs hl
theorem extOKE1 : ExtOK (CC.more (fun f' => if Nat.beq f' 197 then some idxStr else if Nat.beq f' 131 then some cmpStr else none)) := by
  refine extOK_more (C := CC.more (fun f' => if Nat.beq f' 131 then some cmpStr else none)) (f := 197) (g := idxStr) rfl ?_ extOKE0 rfl
  intro args v h Z ρ H w vals hs hl
  exact ext_idx (fn := Tryz.f197) Tryz.func197 (by kernel_rfl) (by kernel_rfl) (by kernel_rfl) (by kernel_rfl) h Z ρ H w vals hs hl
theorem extOKE2 : ExtOK (CC.more (fun f' => if Nat.beq f' 127 then some joinStr else if Nat.beq f' 197 then some idxStr else if Nat.beq f' 131 then some cmpStr else none)) := by
  refine extOK_more (C := CC.more (fun f' => if Nat.beq f' 197 then some idxStr else if Nat.beq f' 131 then some cmpStr else none)) (f := 127) (g := joinStr) rfl ?_ extOKE1 rfl
  intro args v h Z ρ H w vals hs hl
  exact ext_join Go.Proofs.Tryz.lays156 Go.Proofs.Tryz.Builder_Extra_156 (f := 127) rfl ⟨_, Tryz.func127, by kernel_rfl, by kernel_rfl⟩ h Z ρ H w vals hs hl
theorem extOKE3 : ExtOK (CC.more (fun f' => if Nat.beq f' 107 then some fieldsA else if Nat.beq f' 127 then some joinStr else if Nat.beq f' 197 then some idxStr else if Nat.beq f' 131 then some cmpStr else none)) := by
  refine extOK_more (C := CC.more (fun f' => if Nat.beq f' 127 then some joinStr else if Nat.beq f' 197 then some idxStr else if Nat.beq f' 131 then some cmpStr else none)) (f := 107) (g := fieldsA) rfl ?_ extOKE2 rfl
  intro args v h Z ρ H w vals hs hl
  exact ext_fields Go.Proofs.Tryz.lays157 (by kernel_rfl) (by kernel_rfl) (List.mem_singleton.2 rfl) (f := 107) rfl ⟨_, Tryz.func107, by kernel_rfl, by kernel_rfl⟩ h Z ρ H w vals hs hl
theorem extOKC : ExtOK CC := extOKE3
abbrev Good (t : Tell) : Prop := GoodC CC t
theorem good {t : Tell} (T : List Tell) (hT : AllG CC T) (TH : List TellH) (hH : AllH CC TH) (h : ansC (evT (CC.more2 (tabExt CC.ext T) (tabExh CC.exh T TH)) 1000 (.call t.f t.K { objs := [], lock := 0 })) = some t.R) (hb : boundL t.K = 0) : Good t :=
  goodC nogoC mixedC extOKC T hT TH hH 1000 h hb
end Go.Ev.Cl
/- Values that are met. Made by program. -/
namespace Go.Ev.Cl
set_option maxRecDepth 1000000
def q0 : AV := .v (.string ⟨⟨[116,104,101]⟩⟩)
def q1 : AV := .v (.string ⟨⟨[115,101,97]⟩⟩)
def q2 : AV := .v (.string ⟨⟨[105,115]⟩⟩)
def q3 : AV := .v (.string ⟨⟨[111,108,100]⟩⟩)
def q4 : AV := .vs 1 [q0, q1, q2, q3] (some 4)
def q5 : AV := .vs 1 [q3, q0, q1] (some 3)
def q6 : AV := .vs 1 [q4, q5] (some 2)
def q7 : AV := .v (.string ⟨⟨[97,110,100]⟩⟩)
def q8 : AV := .vs 1 [q1, q7, q1] (some 3)
def q9 : AV := .vs 1 [q8] (some 1)
def q10 : AV := .v (.int .i64 7)
def q11 : AV := .v (.int .i64 3)
def q12 : AV := .agg [.vs 2 [.agg [q10, q6], .agg [q11, q9]] (some 2)]
def q13 : AV := .v (.int .i64 0)
def q14 : AV := .tup [q12, q13]
def q15 : AV := .v (.int .i64 14)
def q16 : AV := .v (.int .u8 3)
def q17 : AV := .agg [q15, q16]
def q18 : AV := .vs 1 [q0, q1, q2, q3, q3, q0, q1] none
def q19 : AV := .agg [q13, q13, q13]
def q20 : AV := .v (.int .i64 1)
def q21 : AV := .agg [q13, q13, q20]
def q22 : AV := .v (.int .i64 2)
def q23 : AV := .agg [q13, q13, q22]
def q24 : AV := .agg [q13, q13, q11]
def q25 : AV := .agg [q13, q20, q13]
def q26 : AV := .agg [q13, q20, q20]
def q27 : AV := .agg [q13, q20, q22]
def q28 : AV := .vs 3 [q19, q21, q23, q24, q25, q26, q27] none
def q29 : AV := .agg [q15, q16, q18, q28]
def q30 : AV := .vs 1 [q1, q7, q1] none
def q31 : AV := .agg [q20, q13, q13]
def q32 : AV := .agg [q20, q13, q20]
def q33 : AV := .agg [q20, q13, q22]
def q34 : AV := .vs 3 [q31, q32, q33] none
def q35 : AV := .agg [q15, q16, q30, q34]
def q36 : AV := .agg [q13, q11, q15]
def q37 : AV := .v (.string ⟨⟨[]⟩⟩)
def q38 : AV := .v (.string ⟨⟨[115,101,97,32,105,115,32,111,108,100]⟩⟩)
def q39 : AV := .agg [q13, q13, q13, q0, q37, q38]
def q40 : AV := .agg [q20, q22, q15]
def q41 : AV := .v (.string ⟨⟨[105,115,32,111,108,100]⟩⟩)
def q42 : AV := .agg [q13, q13, q20, q1, q0, q41]
def q43 : AV := .agg [q22, q20, q15]
def q44 : AV := .v (.string ⟨⟨[111,108,100,32,111,108,100]⟩⟩)
def q45 : AV := .agg [q13, q13, q22, q2, q1, q44]
def q46 : AV := .agg [q11, q13, q15]
def q47 : AV := .v (.string ⟨⟨[111,108,100,32,116,104,101]⟩⟩)
def q48 : AV := .agg [q13, q13, q11, q3, q2, q47]
def q49 : AV := .v (.int .i64 11)
def q50 : AV := .agg [q20, q20, q49]
def q51 : AV := .agg [q13, q22, q49]
def q52 : AV := .v (.int .i64 4)
def q53 : AV := .agg [q13, q20, q13, q3, q41, q0]
def q54 : AV := .agg [q22, q13, q49]
def q55 : AV := .v (.int .i64 5)
def q56 : AV := .v (.string ⟨⟨[105,115,32,111,108,100,32,111,108,100]⟩⟩)
def q57 : AV := .agg [q13, q20, q20, q0, q56, q37]
def q58 : AV := .v (.int .i64 6)
def q59 : AV := .agg [q13, q20, q22, q1, q47, q37]
def q60 : AV := .v (.string ⟨⟨[97,110,100,32,115,101,97]⟩⟩)
def q61 : AV := .agg [q20, q13, q13, q1, q37, q60]
def q62 : AV := .agg [q20, q13, q20, q7, q1, q1]
def q63 : AV := .v (.string ⟨⟨[115,101,97,32,97,110,100]⟩⟩)
def q64 : AV := .agg [q20, q13, q22, q1, q63, q37]
def q65 : AV := .vs 6 [q39, q42, q45, q48, q53, q57, q59, q61, q62, q64] none
def q66 : AV := .vs 6 [q59, q61] none
def q67 : AV := .v (.string ⟨⟨[97,98,99,100,101,102,103,104,105,106,107,108,109,110,111,112,113,114,115,116,117,118,119,120,121,122]⟩⟩)
def q68 : AV := .agg [q13, q13, q13, q1, q0, q37]
def q69 : AV := .v (.int .u8 0)
def q70 : AV := .agg [q13, q69]
def q71 : AV := .agg [q13, q69, q18, q28]
def q72 : AV := .agg [q13, q69, q30, q34]
def q73 : AV := .vs 3 [q21, q27] none
def q74 : AV := .v (.string ⟨⟨[99,111,108,100]⟩⟩)
def q75 : AV := .agg [q13, q13, q11, q16, q74]
def q76 : AV := .v (.int .u8 1)
def q77 : AV := .agg [q13, q20, q20, q76, q37]
def q78 : AV := .agg [q20, q13, q11]
def q79 : AV := .v (.string ⟨⟨[115,97,108,116]⟩⟩)
def q80 : AV := .agg [q20, q13, q11, .v (.int .u8 2), q79]
def q81 : AV := .vs 5 [q75, q77, q80] (some 3)
def q82 : AV := .v (.int .i64 (-1))
def q83 : AV := .vs 5 [q75] none
def q84 : AV := .vs 1 [q0, q1, q2, q74] none
def q85 : AV := .vs 5 [q77] none
def q86 : AV := .vs 1 [q3, q1] none
def q87 : AV := .vs 5 [q80] none
def q88 : AV := .vs 1 [q1, q7, q1, q79] none
def q89 : AV := .agg [q52, q81]
def q90 : AV := .v (.string ⟨⟨[97]⟩⟩)
def q91 : AV := .v (.string ⟨⟨[98]⟩⟩)
def q92 : AV := .agg [q13, q13, q13, q90, q37, q37]
def q93 : AV := .agg [q13, q13, q13, q91, q37, q37]
def q94 : AV := .agg [q13, q13, q22, q2, q1, q3]
def q95 : AV := .vs 6 [q92, q92] (some 2)
def q96 : AV := .agg [q15, q76]
def q97 : AV := .agg [q15, q76, q18, q28]
def q98 : AV := .agg [q13, q20, q13, q3, q38, q37]
def t0 : Tell := ⟨90, [q0], (.v (.bool true))⟩
def t1 : Tell := ⟨90, [q1], (.v (.bool true))⟩
def t2 : Tell := ⟨90, [q2], (.v (.bool true))⟩
def t3 : Tell := ⟨90, [q3], (.v (.bool true))⟩
def t4 : Tell := ⟨135, [q6], (.v (.bool true))⟩
def t5 : Tell := ⟨90, [q7], (.v (.bool true))⟩
def t6 : Tell := ⟨135, [q9], (.v (.bool true))⟩
def t7 : Tell := ⟨116, [q12], (.v (.bool true))⟩
def t8 : Tell := ⟨85, [q12], q14⟩
def t9 : Tell := ⟨68, [q12], q13⟩
def t10 : Tell := ⟨83, [q17], (.v (.bool true))⟩
def t11 : Tell := ⟨41, [q17], q13⟩
def t12 : Tell := ⟨63, [q12, q17], q13⟩
def t13 : Tell := ⟨100, [q12, q17, q13], q29⟩
def t14 : Tell := ⟨100, [q12, q17, q20], q35⟩
def t15 : Tell := ⟨69, [q12, q17], (.vs 4 [q29, q35] none)⟩
def t16 : Tell := ⟨126, [q29, q13], q36⟩
def t17 : Tell := ⟨101, [q29, q13], q39⟩
def t18 : Tell := ⟨176, [q40, q36], (.v (.bool true))⟩
def t19 : Tell := ⟨126, [q29, q20], q40⟩
def t20 : Tell := ⟨101, [q29, q20], q42⟩
def t21 : Tell := ⟨176, [q43, q40], (.v (.bool false))⟩
def t22 : Tell := ⟨126, [q29, q22], q40⟩
def t23 : Tell := ⟨101, [q29, q22], q45⟩
def t24 : Tell := ⟨176, [q46, q40], (.v (.bool false))⟩
def t25 : Tell := ⟨126, [q29, q11], q40⟩
def t26 : Tell := ⟨101, [q29, q11], q48⟩
def t27 : Tell := ⟨176, [q50, q51], (.v (.bool true))⟩
def t28 : Tell := ⟨176, [q46, q43], (.v (.bool false))⟩
def t29 : Tell := ⟨126, [q29, q52], q43⟩
def t30 : Tell := ⟨101, [q29, q52], q53⟩
def t31 : Tell := ⟨176, [.agg [q20, q13, q10], .agg [q13, q20, q10]], (.v (.bool false))⟩
def t32 : Tell := ⟨176, [q54, q50], (.v (.bool false))⟩
def t33 : Tell := ⟨126, [q29, q55], q46⟩
def t34 : Tell := ⟨101, [q29, q55], q57⟩
def t35 : Tell := ⟨126, [q29, q58], q54⟩
def t36 : Tell := ⟨101, [q29, q58], q59⟩
def t37 : Tell := ⟨126, [q35, q13], q51⟩
def t38 : Tell := ⟨101, [q35, q13], q61⟩
def t39 : Tell := ⟨126, [q35, q20], q50⟩
def t40 : Tell := ⟨101, [q35, q20], q62⟩
def t41 : Tell := ⟨126, [q35, q22], q54⟩
def t42 : Tell := ⟨101, [q35, q22], q64⟩
def t43 : Tell := ⟨75, [q12, q17], q65⟩
def t44 : Tell := ⟨43, [q12, q17], (.tup [q65, q13])⟩
def t45 : Tell := ⟨79, [q12, q27], (.tup [q58, q13])⟩
def t46 : Tell := ⟨79, [q12, q31], (.tup [q10, q13])⟩
def t47 : Tell := ⟨39, [q12, q17, q27, q31], (.tup [q66, q13])⟩
def t48 : Tell := ⟨145, [q67], (.tup [.agg [.v (.bool false), .v (.bool false), .v (.bool false), .v (.bool false), .v (.bool false), .v (.bool false), .v (.bool false), .v (.bool false), .v (.bool false), .v (.bool false), .v (.bool false), .v (.bool false), .v (.bool false), .v (.bool false), .v (.bool false), .v (.bool false), .v (.bool false), .v (.bool false), .v (.bool false), .v (.bool false), .v (.bool false), .v (.bool false), .v (.bool false), .v (.bool false), .v (.bool false), .v (.bool false), .v (.bool false), .v (.bool false), .v (.bool false), .v (.bool false), .v (.bool false), .v (.bool false), .v (.bool false), .v (.bool false), .v (.bool false), .v (.bool false), .v (.bool false), .v (.bool false), .v (.bool false), .v (.bool false), .v (.bool false), .v (.bool false), .v (.bool false), .v (.bool false), .v (.bool false), .v (.bool false), .v (.bool false), .v (.bool false), .v (.bool false), .v (.bool false), .v (.bool false), .v (.bool false), .v (.bool false), .v (.bool false), .v (.bool false), .v (.bool false), .v (.bool false), .v (.bool false), .v (.bool false), .v (.bool false), .v (.bool false), .v (.bool false), .v (.bool false), .v (.bool false), .v (.bool false), .v (.bool false), .v (.bool false), .v (.bool false), .v (.bool false), .v (.bool false), .v (.bool false), .v (.bool false), .v (.bool false), .v (.bool false), .v (.bool false), .v (.bool false), .v (.bool false), .v (.bool false), .v (.bool false), .v (.bool false), .v (.bool false), .v (.bool false), .v (.bool false), .v (.bool false), .v (.bool false), .v (.bool false), .v (.bool false), .v (.bool false), .v (.bool false), .v (.bool false), .v (.bool false), .v (.bool false), .v (.bool false), .v (.bool false), .v (.bool false), .v (.bool false), .v (.bool false), .v (.bool true), .v (.bool true), .v (.bool true), .v (.bool true), .v (.bool true), .v (.bool true), .v (.bool true), .v (.bool true), .v (.bool true), .v (.bool true), .v (.bool true), .v (.bool true), .v (.bool true), .v (.bool true), .v (.bool true), .v (.bool true), .v (.bool true), .v (.bool true), .v (.bool true), .v (.bool true), .v (.bool true), .v (.bool true), .v (.bool true), .v (.bool true), .v (.bool true), .v (.bool true), .v (.bool false), .v (.bool false), .v (.bool false), .v (.bool false), .v (.bool false), .v (.bool false), .v (.bool false), .v (.bool false), .v (.bool false), .v (.bool false), .v (.bool false), .v (.bool false), .v (.bool false), .v (.bool false), .v (.bool false), .v (.bool false), .v (.bool false), .v (.bool false), .v (.bool false), .v (.bool false), .v (.bool false), .v (.bool false), .v (.bool false), .v (.bool false), .v (.bool false), .v (.bool false), .v (.bool false), .v (.bool false), .v (.bool false), .v (.bool false), .v (.bool false), .v (.bool false), .v (.bool false), .v (.bool false), .v (.bool false), .v (.bool false), .v (.bool false), .v (.bool false), .v (.bool false), .v (.bool false), .v (.bool false), .v (.bool false), .v (.bool false), .v (.bool false), .v (.bool false), .v (.bool false), .v (.bool false), .v (.bool false), .v (.bool false), .v (.bool false), .v (.bool false), .v (.bool false), .v (.bool false), .v (.bool false), .v (.bool false), .v (.bool false), .v (.bool false), .v (.bool false), .v (.bool false), .v (.bool false), .v (.bool false), .v (.bool false), .v (.bool false), .v (.bool false), .v (.bool false), .v (.bool false), .v (.bool false), .v (.bool false), .v (.bool false), .v (.bool false), .v (.bool false), .v (.bool false), .v (.bool false), .v (.bool false), .v (.bool false), .v (.bool false), .v (.bool false), .v (.bool false), .v (.bool false), .v (.bool false), .v (.bool false), .v (.bool false), .v (.bool false), .v (.bool false), .v (.bool false), .v (.bool false), .v (.bool false), .v (.bool false), .v (.bool false), .v (.bool false), .v (.bool false), .v (.bool false), .v (.bool false), .v (.bool false), .v (.bool false), .v (.bool false), .v (.bool false), .v (.bool false), .v (.bool false), .v (.bool false), .v (.bool false), .v (.bool false), .v (.bool false), .v (.bool false), .v (.bool false), .v (.bool false), .v (.bool false), .v (.bool false), .v (.bool false), .v (.bool false), .v (.bool false), .v (.bool false), .v (.bool false), .v (.bool false), .v (.bool false), .v (.bool false), .v (.bool false), .v (.bool false), .v (.bool false), .v (.bool false), .v (.bool false), .v (.bool false), .v (.bool false), .v (.bool false), .v (.bool false), .v (.bool false), .v (.bool false), .v (.bool false), .v (.bool false), .v (.bool false), .v (.bool false), .v (.bool false), .v (.bool false)], .v (.bool true)])⟩
def t49 : Tell := ⟨124, [q1, q67], q37⟩
def t50 : Tell := ⟨98, [q1], (.v (.bool true))⟩
def t51 : Tell := ⟨124, [q0, q67], q37⟩
def t52 : Tell := ⟨98, [q0], (.v (.bool true))⟩
def t53 : Tell := ⟨99, [q0], (.v (.bool true))⟩
def t54 : Tell := ⟨99, [q37], (.v (.bool true))⟩
def t55 : Tell := ⟨64, [.vs 6 [q68] (some 1)], q13⟩
def t56 : Tell := ⟨100, [q12, q70, q13], q71⟩
def t57 : Tell := ⟨100, [q12, q70, q20], q72⟩
def t58 : Tell := ⟨69, [q12, q70], (.vs 4 [q71, q72] none)⟩
def t59 : Tell := ⟨108, [.vs 1 [.vs 1 [q0] (some 1), .vs 1 [q1] (some 1), .vs 1 [] (some 0)] (some 3)], (.vs 1 [q0, q1] none)⟩
def t60 : Tell := ⟨70, [q71, q68], q73⟩
def t61 : Tell := ⟨70, [q72, q68], (.v (.slice none 0 0))⟩
def t62 : Tell := ⟨21, [q12, q68], (.tup [q73, q13])⟩
def t63 : Tell := ⟨88, [q12, q24], q4⟩
def t64 : Tell := ⟨90, [q74], (.v (.bool true))⟩
def t65 : Tell := ⟨166, [q4, q75], (.v (.bool true))⟩
def t66 : Tell := ⟨88, [q12, q26], q5⟩
def t67 : Tell := ⟨162, [q5, q77], (.v (.bool true))⟩
def t68 : Tell := ⟨88, [q12, q78], q8⟩
def t69 : Tell := ⟨90, [q79], (.v (.bool true))⟩
def t70 : Tell := ⟨164, [q8, q80], (.v (.bool true))⟩
def t71 : Tell := ⟨137, [q12, q81], (.v (.bool true))⟩
def t72 : Tell := ⟨161, [q24, q26], q82⟩
def t73 : Tell := ⟨161, [q26, q78], q82⟩
def t74 : Tell := ⟨138, [q81], (.v (.bool true))⟩
def t75 : Tell := ⟨123, [q81, q19], q83⟩
def t76 : Tell := ⟨122, [q4, q83], q84⟩
def t77 : Tell := ⟨123, [q81, q25], q85⟩
def t78 : Tell := ⟨122, [q5, q85], q86⟩
def t79 : Tell := ⟨123, [q81, q31], q87⟩
def t80 : Tell := ⟨122, [q8, q87], q88⟩
def t81 : Tell := ⟨96, [q12, q89], (.agg [.vs 2 [.agg [q10, .vs 1 [q84, q86] none], .agg [q11, .vs 1 [q88] none]] none])⟩
def t82 : Tell := ⟨121, [q12, q89], (.v (.bool true))⟩
def t83 : Tell := ⟨95, [q12, q89], q14⟩
def t84 : Tell := ⟨88, [q12, q27], q5⟩
def t85 : Tell := ⟨87, [q12, q27], (.v (.bool true))⟩
def t86 : Tell := ⟨60, [q12, q89, q27], (.tup [q1, q13])⟩
def t87 : Tell := ⟨35, [q12, q89, q27], (.tup [q26, q13])⟩
def t88 : Tell := ⟨124, [q3, q67], q37⟩
def t89 : Tell := ⟨98, [q3], (.v (.bool true))⟩
def t90 : Tell := ⟨99, [q47], (.v (.bool true))⟩
def t91 : Tell := ⟨124, [q7, q67], q37⟩
def t92 : Tell := ⟨98, [q7], (.v (.bool true))⟩
def t93 : Tell := ⟨99, [q60], (.v (.bool true))⟩
def t94 : Tell := ⟨64, [q66], q13⟩
def t95 : Tell := ⟨74, [q66], q13⟩
def t96 : Tell := ⟨23, [q12, q17, q66], (.tup [.vs 3 [q19, q21, q23, q24, q25, q26, q32, q33] none, q13])⟩
def t97 : Tell := ⟨124, [q90, q67], q37⟩
def t98 : Tell := ⟨98, [q90], (.v (.bool true))⟩
def t99 : Tell := ⟨124, [q91, q67], q37⟩
def t100 : Tell := ⟨98, [q91], (.v (.bool true))⟩
def t101 : Tell := ⟨64, [.vs 6 [q92, q93] (some 2)], q13⟩
def t102 : Tell := ⟨82, [q19, q19], q13⟩
def t103 : Tell := ⟨40, [q92, q93], (.tup [q82, q13])⟩
def t104 : Tell := ⟨124, [q2, q67], q37⟩
def t105 : Tell := ⟨98, [q2], (.v (.bool true))⟩
def t106 : Tell := ⟨99, [q1], (.v (.bool true))⟩
def t107 : Tell := ⟨99, [q3], (.v (.bool true))⟩
def t108 : Tell := ⟨64, [.vs 6 [q94] (some 1)], q13⟩
def t109 : Tell := ⟨88, [q12, q23], q4⟩
def t110 : Tell := ⟨87, [q12, q23], (.v (.bool true))⟩
def t111 : Tell := ⟨46, [q12, q23], (.tup [q2, q13])⟩
def t112 : Tell := ⟨102, [q28, q23], q22⟩
def t113 : Tell := ⟨65, [q12, q17, q23], q45⟩
def t114 : Tell := ⟨19, [q12, q17, q94], (.tup [.v (.int .u8 4), q13])⟩
def t115 : Tell := ⟨64, [q95], q13⟩
def t116 : Tell := ⟨74, [q95], q13⟩
def t117 : Tell := ⟨25, [q95], (.tup [.vs 1 [q20] none, q13])⟩
def t118 : Tell := ⟨37, [q12, q17, q23], (.tup [q45, q13])⟩
def t119 : Tell := ⟨32, [q23, q16, q2, q1, q44], (.v (.bool true))⟩
def t120 : Tell := ⟨83, [q96], (.v (.bool true))⟩
def t121 : Tell := ⟨41, [q96], q13⟩
def t122 : Tell := ⟨63, [q12, q96], q13⟩
def t123 : Tell := ⟨88, [q12, q25], q5⟩
def t124 : Tell := ⟨87, [q12, q25], (.v (.bool true))⟩
def t125 : Tell := ⟨46, [q12, q25], (.tup [q3, q13])⟩
def t126 : Tell := ⟨100, [q12, q96, q13], q97⟩
def t127 : Tell := ⟨102, [q28, q25], q52⟩
def t128 : Tell := ⟨126, [q97, q52], q46⟩
def t129 : Tell := ⟨101, [q97, q52], q98⟩
def t130 : Tell := ⟨65, [q12, q96, q25], q98⟩
def t131 : Tell := ⟨37, [q12, q96, q25], (.tup [q98, q13])⟩
def t132 : Tell := ⟨32, [q25, q76, q3, q38, q37], (.v (.bool true))⟩
def t133 : Tell := ⟨27, [q73, .vs 3 [q21, q27] (some 2)], (.v (.bool true))⟩
end Go.Ev.Cl
/- What calls answer that are met. Made by program. -/
namespace Go.Ev.Cl
set_option maxRecDepth 1000000
/- postil/leaf.isWord -/
theorem g0 : Good t0 := good [] trivial [] trivial (by kernel_rfl) (by kernel_rfl)
/- postil/leaf.isWord -/
theorem g1 : Good t1 := good [] trivial [] trivial (by kernel_rfl) (by kernel_rfl)
/- postil/leaf.isWord -/
theorem g2 : Good t2 := good [] trivial [] trivial (by kernel_rfl) (by kernel_rfl)
/- postil/leaf.isWord -/
theorem g3 : Good t3 := good [] trivial [] trivial (by kernel_rfl) (by kernel_rfl)
/- postil/leaf.isLines -/
theorem g4 : Good t4 := good [t0, t1, t2, t3] ⟨g0, g1, g2, g3, trivial⟩ [] trivial (by kernel_rfl) (by kernel_rfl)
/- postil/leaf.isWord -/
theorem g5 : Good t5 := good [] trivial [] trivial (by kernel_rfl) (by kernel_rfl)
/- postil/leaf.isLines -/
theorem g6 : Good t6 := good [t1, t5] ⟨g1, g5, trivial⟩ [] trivial (by kernel_rfl) (by kernel_rfl)
/- postil/leaf.isText -/
theorem g7 : Good t7 := good [t4, t6] ⟨g4, g6, trivial⟩ [] trivial (by kernel_rfl) (by kernel_rfl)
/- postil/leaf.begin -/
theorem g8 : Good t8 := good [t7] ⟨g7, trivial⟩ [] trivial (by kernel_rfl) (by kernel_rfl)
/- postil/leaf.Check -/
theorem g9 : Good t9 := good [t8] ⟨g8, trivial⟩ [] trivial (by kernel_rfl) (by kernel_rfl)
/- postil/slip.isCut -/
theorem g10 : Good t10 := good [] trivial [] trivial (by kernel_rfl) (by kernel_rfl)
/- postil/slip.Check -/
theorem g11 : Good t11 := good [t10] ⟨g10, trivial⟩ [] trivial (by kernel_rfl) (by kernel_rfl)
/- postil/slip.check -/
theorem g12 : Good t12 := good [t9, t11] ⟨g9, g11, trivial⟩ [] trivial (by kernel_rfl) (by kernel_rfl)
/- postil/slip.runOf -/
theorem g13 : Good t13 := good [] trivial [] trivial (by kernel_rfl) (by kernel_rfl)
/- postil/slip.runOf -/
theorem g14 : Good t14 := good [] trivial [] trivial (by kernel_rfl) (by kernel_rfl)
/- postil/slip.runs -/
theorem g15 : Good t15 := good [t13, t14] ⟨g13, g14, trivial⟩ [] trivial (by kernel_rfl) (by kernel_rfl)
/- (postil/slip.run).context -/
theorem g16 : Good t16 := good [] trivial [] trivial (by kernel_rfl) (by kernel_rfl)
/- (postil/slip.run).slip -/
theorem g17 : Good t17 := good [t16] ⟨g16, trivial⟩ [] trivial (by kernel_rfl) (by kernel_rfl)
/- postil/slip.sides$3 -/
theorem g18 : Good t18 := good [] trivial [] trivial (by kernel_rfl) (by kernel_rfl)
/- (postil/slip.run).context -/
theorem g19 : Good t19 := good [t18] ⟨g18, trivial⟩ [] trivial (by kernel_rfl) (by kernel_rfl)
/- (postil/slip.run).slip -/
theorem g20 : Good t20 := good [t19] ⟨g19, trivial⟩ [] trivial (by kernel_rfl) (by kernel_rfl)
/- postil/slip.sides$3 -/
theorem g21 : Good t21 := good [] trivial [] trivial (by kernel_rfl) (by kernel_rfl)
/- (postil/slip.run).context -/
theorem g22 : Good t22 := good [t18, t21] ⟨g18, g21, trivial⟩ [] trivial (by kernel_rfl) (by kernel_rfl)
/- (postil/slip.run).slip -/
theorem g23 : Good t23 := good [t22] ⟨g22, trivial⟩ [] trivial (by kernel_rfl) (by kernel_rfl)
/- postil/slip.sides$3 -/
theorem g24 : Good t24 := good [] trivial [] trivial (by kernel_rfl) (by kernel_rfl)
/- (postil/slip.run).context -/
theorem g25 : Good t25 := good [t21, t24] ⟨g21, g24, trivial⟩ [] trivial (by kernel_rfl) (by kernel_rfl)
/- (postil/slip.run).slip -/
theorem g26 : Good t26 := good [t25] ⟨g25, trivial⟩ [] trivial (by kernel_rfl) (by kernel_rfl)
/- postil/slip.sides$3 -/
theorem g27 : Good t27 := good [] trivial [] trivial (by kernel_rfl) (by kernel_rfl)
/- postil/slip.sides$3 -/
theorem g28 : Good t28 := good [] trivial [] trivial (by kernel_rfl) (by kernel_rfl)
/- (postil/slip.run).context -/
theorem g29 : Good t29 := good [t27, t28] ⟨g27, g28, trivial⟩ [] trivial (by kernel_rfl) (by kernel_rfl)
/- (postil/slip.run).slip -/
theorem g30 : Good t30 := good [t29] ⟨g29, trivial⟩ [] trivial (by kernel_rfl) (by kernel_rfl)
/- postil/slip.sides$3 -/
theorem g31 : Good t31 := good [] trivial [] trivial (by kernel_rfl) (by kernel_rfl)
/- postil/slip.sides$3 -/
theorem g32 : Good t32 := good [] trivial [] trivial (by kernel_rfl) (by kernel_rfl)
/- (postil/slip.run).context -/
theorem g33 : Good t33 := good [t31, t32] ⟨g31, g32, trivial⟩ [] trivial (by kernel_rfl) (by kernel_rfl)
/- (postil/slip.run).slip -/
theorem g34 : Good t34 := good [t33] ⟨g33, trivial⟩ [] trivial (by kernel_rfl) (by kernel_rfl)
/- (postil/slip.run).context -/
theorem g35 : Good t35 := good [] trivial [] trivial (by kernel_rfl) (by kernel_rfl)
/- (postil/slip.run).slip -/
theorem g36 : Good t36 := good [t35] ⟨g35, trivial⟩ [] trivial (by kernel_rfl) (by kernel_rfl)
/- (postil/slip.run).context -/
theorem g37 : Good t37 := good [] trivial [] trivial (by kernel_rfl) (by kernel_rfl)
/- (postil/slip.run).slip -/
theorem g38 : Good t38 := good [t37] ⟨g37, trivial⟩ [] trivial (by kernel_rfl) (by kernel_rfl)
/- (postil/slip.run).context -/
theorem g39 : Good t39 := good [t31] ⟨g31, trivial⟩ [] trivial (by kernel_rfl) (by kernel_rfl)
/- (postil/slip.run).slip -/
theorem g40 : Good t40 := good [t39] ⟨g39, trivial⟩ [] trivial (by kernel_rfl) (by kernel_rfl)
/- (postil/slip.run).context -/
theorem g41 : Good t41 := good [] trivial [] trivial (by kernel_rfl) (by kernel_rfl)
/- (postil/slip.run).slip -/
theorem g42 : Good t42 := good [t41] ⟨g41, trivial⟩ [] trivial (by kernel_rfl) (by kernel_rfl)
/- postil/slip.slips -/
theorem g43 : Good t43 := good [t15, t17, t20, t23, t26, t30, t34, t36, t38, t40, t42] ⟨g15, g17, g20, g23, g26, g30, g34, g36, g38, g40, g42, trivial⟩ [] trivial (by kernel_rfl) (by kernel_rfl)
/- postil/slip.All -/
theorem g44 : Good t44 := good [t12, t43] ⟨g12, g43, trivial⟩ [] trivial (by kernel_rfl) (by kernel_rfl)
/- postil/leaf.Number -/
theorem g45 : Good t45 := good [t8] ⟨g8, trivial⟩ [] trivial (by kernel_rfl) (by kernel_rfl)
/- postil/leaf.Number -/
theorem g46 : Good t46 := good [t8] ⟨g8, trivial⟩ [] trivial (by kernel_rfl) (by kernel_rfl)
/- postil/slip.Part -/
theorem g47 : Good t47 := good [t12, t43, t45, t46] ⟨g12, g43, g45, g46, trivial⟩ [] trivial (by kernel_rfl) (by kernel_rfl)
/- strings.makeASCIISet -/
theorem g48 : Good t48 := good [] trivial [] trivial (by kernel_rfl) (by kernel_rfl)
/- strings.Trim -/
theorem g49 : Good t49 := good [t48] ⟨g48, trivial⟩ [] trivial (by kernel_rfl) (by kernel_rfl)
/- postil/slip.isWord -/
theorem g50 : Good t50 := good [t49] ⟨g49, trivial⟩ [] trivial (by kernel_rfl) (by kernel_rfl)
/- strings.Trim -/
theorem g51 : Good t51 := good [t48] ⟨g48, trivial⟩ [] trivial (by kernel_rfl) (by kernel_rfl)
/- postil/slip.isWord -/
theorem g52 : Good t52 := good [t51] ⟨g51, trivial⟩ [] trivial (by kernel_rfl) (by kernel_rfl)
/- postil/slip.isSide -/
theorem g53 : Good t53 := good [t52] ⟨g52, trivial⟩ [] trivial (by kernel_rfl) (by kernel_rfl)
/- postil/slip.isSide -/
theorem g54 : Good t54 := good [] trivial [] trivial (by kernel_rfl) (by kernel_rfl)
/- postil/slip.checkSlips -/
theorem g55 : Good t55 := good [t50, t53, t54] ⟨g50, g53, g54, trivial⟩ [] trivial (by kernel_rfl) (by kernel_rfl)
/- postil/slip.runOf -/
theorem g56 : Good t56 := good [] trivial [] trivial (by kernel_rfl) (by kernel_rfl)
/- postil/slip.runOf -/
theorem g57 : Good t57 := good [] trivial [] trivial (by kernel_rfl) (by kernel_rfl)
/- postil/slip.runs -/
theorem g58 : Good t58 := good [t56, t57] ⟨g56, g57, trivial⟩ [] trivial (by kernel_rfl) (by kernel_rfl)
/- slices.Concat[[]string,string] -/
theorem g59 : Good t59 := good [] trivial [] trivial (by kernel_rfl) (by kernel_rfl)
/- (postil/slip.run).from -/
theorem g60 : Good t60 := good [t59] ⟨g59, trivial⟩ [] trivial (by kernel_rfl) (by kernel_rfl)
/- (postil/slip.run).from -/
theorem g61 : Good t61 := good [t59] ⟨g59, trivial⟩ [] trivial (by kernel_rfl) (by kernel_rfl)
/- postil/slip.Where -/
theorem g62 : Good t62 := good [t9, t55, t58, t60, t61] ⟨g9, g55, g58, g60, g61, trivial⟩ [] trivial (by kernel_rfl) (by kernel_rfl)
/- (postil/leaf.text).lineOf -/
theorem g63 : Good t63 := good [] trivial [] trivial (by kernel_rfl) (by kernel_rfl)
/- postil/leaf.isWord -/
theorem g64 : Good t64 := good [] trivial [] trivial (by kernel_rfl) (by kernel_rfl)
/- postil/leaf.kinds$5 -/
theorem g65 : Good t65 := good [t64] ⟨g64, trivial⟩ [] trivial (by kernel_rfl) (by kernel_rfl)
/- (postil/leaf.text).lineOf -/
theorem g66 : Good t66 := good [] trivial [] trivial (by kernel_rfl) (by kernel_rfl)
/- postil/leaf.kinds$1 -/
theorem g67 : Good t67 := good [] trivial [] trivial (by kernel_rfl) (by kernel_rfl)
/- (postil/leaf.text).lineOf -/
theorem g68 : Good t68 := good [] trivial [] trivial (by kernel_rfl) (by kernel_rfl)
/- postil/leaf.isWord -/
theorem g69 : Good t69 := good [] trivial [] trivial (by kernel_rfl) (by kernel_rfl)
/- postil/leaf.kinds$3 -/
theorem g70 : Good t70 := good [t69] ⟨g69, trivial⟩ [] trivial (by kernel_rfl) (by kernel_rfl)
/- (postil/leaf.text).fit -/
theorem g71 : Good t71 := good [t63, t65, t66, t67, t68, t70] ⟨g63, g65, g66, g67, g68, g70, trivial⟩ [] trivial (by kernel_rfl) (by kernel_rfl)
/- postil/leaf.comparePlaces -/
theorem g72 : Good t72 := good [] trivial [] trivial (by kernel_rfl) (by kernel_rfl)
/- postil/leaf.comparePlaces -/
theorem g73 : Good t73 := good [] trivial [] trivial (by kernel_rfl) (by kernel_rfl)
/- postil/leaf.areInOrder -/
theorem g74 : Good t74 := good [t72, t73] ⟨g72, g73, trivial⟩ [] trivial (by kernel_rfl) (by kernel_rfl)
/- postil/leaf.ofLine -/
theorem g75 : Good t75 := good [] trivial [] trivial (by kernel_rfl) (by kernel_rfl)
/- postil/leaf.readLine -/
theorem g76 : Good t76 := good [] trivial [] trivial (by kernel_rfl) (by kernel_rfl)
/- postil/leaf.ofLine -/
theorem g77 : Good t77 := good [] trivial [] trivial (by kernel_rfl) (by kernel_rfl)
/- postil/leaf.readLine -/
theorem g78 : Good t78 := good [] trivial [] trivial (by kernel_rfl) (by kernel_rfl)
/- postil/leaf.ofLine -/
theorem g79 : Good t79 := good [] trivial [] trivial (by kernel_rfl) (by kernel_rfl)
/- postil/leaf.readLine -/
theorem g80 : Good t80 := good [] trivial [] trivial (by kernel_rfl) (by kernel_rfl)
/- (postil/leaf.text).read -/
theorem g81 : Good t81 := good [t75, t76, t77, t78, t79, t80] ⟨g75, g76, g77, g78, g79, g80, trivial⟩ [] trivial (by kernel_rfl) (by kernel_rfl)
/- (postil/leaf.text).hasCopy -/
theorem g82 : Good t82 := good [t71, t74, t81] ⟨g71, g74, g81, trivial⟩ [] trivial (by kernel_rfl) (by kernel_rfl)
/- postil/leaf.beginCopy -/
theorem g83 : Good t83 := good [t8, t82] ⟨g8, g82, trivial⟩ [] trivial (by kernel_rfl) (by kernel_rfl)
/- (postil/leaf.text).lineOf -/
theorem g84 : Good t84 := good [] trivial [] trivial (by kernel_rfl) (by kernel_rfl)
/- (postil/leaf.text).hasPlace -/
theorem g85 : Good t85 := good [t84] ⟨g84, trivial⟩ [] trivial (by kernel_rfl) (by kernel_rfl)
/- postil/leaf.Stands -/
theorem g86 : Good t86 := good [t83, t84, t85] ⟨g83, g84, g85, trivial⟩ [] trivial (by kernel_rfl) (by kernel_rfl)
/- postil/slip.Moved -/
theorem g87 : Good t87 := good [t86] ⟨g86, trivial⟩ [] trivial (by kernel_rfl) (by kernel_rfl)
/- strings.Trim -/
theorem g88 : Good t88 := good [t48] ⟨g48, trivial⟩ [] trivial (by kernel_rfl) (by kernel_rfl)
/- postil/slip.isWord -/
theorem g89 : Good t89 := good [t88] ⟨g88, trivial⟩ [] trivial (by kernel_rfl) (by kernel_rfl)
/- postil/slip.isSide -/
theorem g90 : Good t90 := good [t52, t89] ⟨g52, g89, trivial⟩ [] trivial (by kernel_rfl) (by kernel_rfl)
/- strings.Trim -/
theorem g91 : Good t91 := good [t48] ⟨g48, trivial⟩ [] trivial (by kernel_rfl) (by kernel_rfl)
/- postil/slip.isWord -/
theorem g92 : Good t92 := good [t91] ⟨g91, trivial⟩ [] trivial (by kernel_rfl) (by kernel_rfl)
/- postil/slip.isSide -/
theorem g93 : Good t93 := good [t50, t92] ⟨g50, g92, trivial⟩ [] trivial (by kernel_rfl) (by kernel_rfl)
/- postil/slip.checkSlips -/
theorem g94 : Good t94 := good [t50, t54, t90, t93] ⟨g50, g54, g90, g93, trivial⟩ [] trivial (by kernel_rfl) (by kernel_rfl)
/- postil/slip.checkList -/
theorem g95 : Good t95 := good [t94] ⟨g94, trivial⟩ [] trivial (by kernel_rfl) (by kernel_rfl)
/- postil/slip.Missing -/
theorem g96 : Good t96 := good [t12, t43, t95] ⟨g12, g43, g95, trivial⟩ [] trivial (by kernel_rfl) (by kernel_rfl)
/- strings.Trim -/
theorem g97 : Good t97 := good [t48] ⟨g48, trivial⟩ [] trivial (by kernel_rfl) (by kernel_rfl)
/- postil/slip.isWord -/
theorem g98 : Good t98 := good [t97] ⟨g97, trivial⟩ [] trivial (by kernel_rfl) (by kernel_rfl)
/- strings.Trim -/
theorem g99 : Good t99 := good [t48] ⟨g48, trivial⟩ [] trivial (by kernel_rfl) (by kernel_rfl)
/- postil/slip.isWord -/
theorem g100 : Good t100 := good [t99] ⟨g99, trivial⟩ [] trivial (by kernel_rfl) (by kernel_rfl)
/- postil/slip.checkSlips -/
theorem g101 : Good t101 := good [t54, t98, t100] ⟨g54, g98, g100, trivial⟩ [] trivial (by kernel_rfl) (by kernel_rfl)
/- postil/slip.comparePlaces -/
theorem g102 : Good t102 := good [] trivial [] trivial (by kernel_rfl) (by kernel_rfl)
/- postil/slip.Order -/
theorem g103 : Good t103 := good [t101, t102] ⟨g101, g102, trivial⟩ [] trivial (by kernel_rfl) (by kernel_rfl)
/- strings.Trim -/
theorem g104 : Good t104 := good [t48] ⟨g48, trivial⟩ [] trivial (by kernel_rfl) (by kernel_rfl)
/- postil/slip.isWord -/
theorem g105 : Good t105 := good [t104] ⟨g104, trivial⟩ [] trivial (by kernel_rfl) (by kernel_rfl)
/- postil/slip.isSide -/
theorem g106 : Good t106 := good [t50] ⟨g50, trivial⟩ [] trivial (by kernel_rfl) (by kernel_rfl)
/- postil/slip.isSide -/
theorem g107 : Good t107 := good [t89] ⟨g89, trivial⟩ [] trivial (by kernel_rfl) (by kernel_rfl)
/- postil/slip.checkSlips -/
theorem g108 : Good t108 := good [t105, t106, t107] ⟨g105, g106, g107, trivial⟩ [] trivial (by kernel_rfl) (by kernel_rfl)
/- (postil/leaf.text).lineOf -/
theorem g109 : Good t109 := good [] trivial [] trivial (by kernel_rfl) (by kernel_rfl)
/- (postil/leaf.text).hasPlace -/
theorem g110 : Good t110 := good [t109] ⟨g109, trivial⟩ [] trivial (by kernel_rfl) (by kernel_rfl)
/- postil/leaf.At -/
theorem g111 : Good t111 := good [t8, t109, t110] ⟨g8, g109, g110, trivial⟩ [] trivial (by kernel_rfl) (by kernel_rfl)
/- slices.Index[[]postil/api.Place,postil/api.Place] -/
theorem g112 : Good t112 := good [] trivial [] trivial (by kernel_rfl) (by kernel_rfl)
/- postil/slip.slipOf -/
theorem g113 : Good t113 := good [t13, t23, t112] ⟨g13, g23, g112, trivial⟩ [] trivial (by kernel_rfl) (by kernel_rfl)
/- postil/slip.Wrong -/
theorem g114 : Good t114 := good [t12, t108, t111, t113] ⟨g12, g108, g111, g113, trivial⟩ [] trivial (by kernel_rfl) (by kernel_rfl)
/- postil/slip.checkSlips -/
theorem g115 : Good t115 := good [t54, t98] ⟨g54, g98, trivial⟩ [] trivial (by kernel_rfl) (by kernel_rfl)
/- postil/slip.checkList -/
theorem g116 : Good t116 := good [t115] ⟨g115, trivial⟩ [] trivial (by kernel_rfl) (by kernel_rfl)
/- postil/slip.Twice -/
theorem g117 : Good t117 := good [t116] ⟨g116, trivial⟩ [] trivial (by kernel_rfl) (by kernel_rfl)
/- postil/slip.Make -/
theorem g118 : Good t118 := good [t12, t111, t113] ⟨g12, g111, g113, trivial⟩ [] trivial (by kernel_rfl) (by kernel_rfl)
/- postil/postillaw03.made -/
theorem g119 : Good t119 := good [t118] ⟨g118, trivial⟩ [] trivial (by kernel_rfl) (by kernel_rfl)
/- postil/slip.isCut -/
theorem g120 : Good t120 := good [] trivial [] trivial (by kernel_rfl) (by kernel_rfl)
/- postil/slip.Check -/
theorem g121 : Good t121 := good [t120] ⟨g120, trivial⟩ [] trivial (by kernel_rfl) (by kernel_rfl)
/- postil/slip.check -/
theorem g122 : Good t122 := good [t9, t121] ⟨g9, g121, trivial⟩ [] trivial (by kernel_rfl) (by kernel_rfl)
/- (postil/leaf.text).lineOf -/
theorem g123 : Good t123 := good [] trivial [] trivial (by kernel_rfl) (by kernel_rfl)
/- (postil/leaf.text).hasPlace -/
theorem g124 : Good t124 := good [t123] ⟨g123, trivial⟩ [] trivial (by kernel_rfl) (by kernel_rfl)
/- postil/leaf.At -/
theorem g125 : Good t125 := good [t8, t123, t124] ⟨g8, g123, g124, trivial⟩ [] trivial (by kernel_rfl) (by kernel_rfl)
/- postil/slip.runOf -/
theorem g126 : Good t126 := good [] trivial [] trivial (by kernel_rfl) (by kernel_rfl)
/- slices.Index[[]postil/api.Place,postil/api.Place] -/
theorem g127 : Good t127 := good [] trivial [] trivial (by kernel_rfl) (by kernel_rfl)
/- (postil/slip.run).context -/
theorem g128 : Good t128 := good [] trivial [] trivial (by kernel_rfl) (by kernel_rfl)
/- (postil/slip.run).slip -/
theorem g129 : Good t129 := good [t128] ⟨g128, trivial⟩ [] trivial (by kernel_rfl) (by kernel_rfl)
/- postil/slip.slipOf -/
theorem g130 : Good t130 := good [t126, t127, t129] ⟨g126, g127, g129, trivial⟩ [] trivial (by kernel_rfl) (by kernel_rfl)
/- postil/slip.Make -/
theorem g131 : Good t131 := good [t122, t125, t130] ⟨g122, g125, g130, trivial⟩ [] trivial (by kernel_rfl) (by kernel_rfl)
/- postil/postillaw03.made -/
theorem g132 : Good t132 := good [t131] ⟨g131, trivial⟩ [] trivial (by kernel_rfl) (by kernel_rfl)
/- postil/postilref01.SamePlaces -/
theorem g133 : Good t133 := good [] trivial [] trivial (by kernel_rfl) (by kernel_rfl)
end Go.Ev.Cl
/- The whole, of its parts. Made by program. -/
namespace Go.Ev.Cl
set_option maxRecDepth 1000000
theorem gAll : Good ⟨31, [], .v (.bool true)⟩ := good [t44, t47, t62, t87, t96, t103, t114, t117, t119, t132, t133] ⟨g44, g47, g62, g87, g96, g103, g114, g117, g119, g132, g133, trivial⟩ [] trivial (by kernel_rfl) (by kernel_rfl)
end Go.Ev.Cl
namespace Go.Ev
open Go.Proofs
set_option maxRecDepth 100000
/-! ### the configuration of a law -/
noncomputable def eA : Exts := e0.more 31 (atArgs [] (.v (.bool true)))
theorem extOKA : ExtOK (Cx eA) := by
  refine extOK_more (C := Cx e0) (f := 31) (g := atArgs [] (.v (.bool true))) rfl ?_ extOK0 rfl
  intro args v h Z ρ H w vals hs hl
  obtain ⟨⟨e, x, he, ha⟩, -⟩ := Cl.gAll
  obtain ⟨rfl, rfl⟩ := atArgs_some h
  exact ext_of_ans (C := Cl.CC.more2 e x) Cl.nogoC Cl.mixedC he ha rfl Z ρ H w vals hs hl
theorem quietA : Quiet eA := by
  intro f h1 h2
  show (if Nat.beq f 31 then _ else e0.x f) = none
  rw [if_neg (fun h => h1 (Nat.eq_of_beq_eq_true h))]
  exact quiet0 f h1 h2
theorem eA31 : eA.x 31 = some (atArgs [] (.v (.bool true))) := rfl
end Go.Ev
namespace Go.Ev
open Go.Proofs
set_option maxRecDepth 100000
set_option linter.unusedSimpArgs false
attribute [local irreducible] Wp WpS
end Go.Ev
namespace Go.Ev
open Go.Proofs
set_option maxRecDepth 100000
set_option linter.unusedSimpArgs false
attribute [local irreducible] Wp WpS
end Go.Ev
namespace Go.Ev
open Go.Proofs
set_option maxRecDepth 100000
set_option linter.unusedSimpArgs false
theorem okFrom_iff (t : Txt) : ∀ (l : Txt) (j : Nat), okFrom t j l = true ↔ ∀ (i : Nat) (c : Chap), l[i]? = some c → condC t (j + i) c = true
  | [], j => by simp [okFrom]
  | x :: l, j => by
    unfold okFrom
    rw [Bool.and_eq_true, okFrom_iff t l (j + 1)]
    constructor
    · rintro ⟨h1, h2⟩ i c hc
      cases i with
      | zero => simp at hc; subst hc; exact h1
      | succ i => rw [show j + (i + 1) = j + 1 + i by omega]; exact h2 i c (by simpa using hc)
    · intro h
      exact ⟨h 0 x rfl, fun i c hc => by rw [show j + 1 + i = j + (i + 1) by omega]; exact h (i + 1) c (by simpa using hc)⟩
theorem idB_map (t : Txt) (id : Int) (n : Nat) : idB t id 0 n = ((t.map (·.1)).take n).any fun x => decide (x = id) := by
  unfold idB
  rw [List.drop_zero, ← List.map_take, List.any_map]; rfl
theorem readT_ids (t : Txt) (rs : List Rd) : (readT t rs).map (·.1) = t.map (·.1) := by
  apply List.ext_getElem?
  intro i
  unfold readT
  rw [List.getElem?_map, List.getElem?_map, List.getElem?_mapIdx]
  cases t[i]? <;> simp
theorem Right.text {t : Txt} {id : Int} {rs : List Rd} (h : Right t id rs) (ht : textB t = true) : textB (readT t rs) = true := by
  have hs := small_of ht
  have hs2 := h.small hs
  unfold textB at ht ⊢
  rw [Bool.and_eq_true] at ht ⊢
  have hl : (readT t rs).length = t.length := by unfold readT; rw [List.length_mapIdx]
  refine ⟨by rw [hl]; exact ht.1, (okFrom_iff _ _ _).2 fun i c hc => ?_⟩
  have hil : i < t.length := by rw [← hl]; exact (List.getElem?_eq_some_iff.1 hc).1
  obtain ⟨c0, hc0⟩ := at_lt t i hil
  have h0 := (okFrom_iff t t 0).1 ht.2 i c0 hc0
  have hcm := List.mem_of_getElem? hc
  rw [readT_get hc0] at hc
  have hid : c.1 = c0.1 := by cases hc; rfl
  have hlen : c.2.length = c0.2.length := by cases hc; simp
  unfold condC at h0 ⊢
  simp only [Bool.and_eq_true] at h0 ⊢
  obtain ⟨⟨⟨e1, e2⟩, e3⟩, e4⟩ := h0
  rw [Nat.zero_add] at e3 ⊢
  refine ⟨⟨⟨by rw [hid]; exact e1, by rw [hlen]; exact e2⟩, by rw [hid, idB_map, readT_ids, ← idB_map]; exact e3⟩, List.all_eq_true.2 fun l hl => ?_⟩
  unfold lineB
  have hw := hs2.words c hcm l hl
  rw [Bool.and_eq_true]
  refine ⟨?_, List.all_eq_true.2 fun s hm => hs2.word c hcm l hl s hm⟩
  unfold withinB
  simp only [List.all_cons, List.all_nil, Bool.and_true, Bool.and_eq_true, decide_eq_true_eq]; omega
end Go.Ev
