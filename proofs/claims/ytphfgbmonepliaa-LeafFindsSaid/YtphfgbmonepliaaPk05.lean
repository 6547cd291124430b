/- What the proof of this claim stands on, part 6: an evaluator of the model, proved right, and what it answers for functions of the program. -/
import Derived.Test.YtphfgbmonepliaaPk04
set_option linter.unusedSimpArgs false
namespace Go.Ev
open Go.Proofs
set_option maxRecDepth 100000
set_option linter.unusedSimpArgs false
attribute [local irreducible] Wp WpS
theorem callI31 {e : Exts} (he : Quiet e) (a b : AV) (xs ys : List ByteArray) (ha : SlOf 1 (strs xs) a) (hb : SlOf 1 (strs ys) b) (hn : xs.length < 2 ^ 63) (me : FuncId) (d : Option Tmp) : callI (Cx e) me 23 d [a, b] = some (.v (.bool (decide (xs = ys)))) := by
  have hbd : boundL [a, b] = 0 := by simp only [boundL_cons, ha.bound, hb.bound, boundL_nil]; rfl
  refine callI_of (fun H => callP31 he a b xs ys (Or.inl ha) hb hn me d) (Or.inr ?_)
  unfold callKind; rw [pure_23, hbd]; rfl
def base27 (ch ch' : AV) : Fm := [(0, .cells 0 0 24 1 false [ch]), (1, .cells 0 0 24 1 false [ch'])]
theorem stay27 (ch ch' : AV) : Stay 2 (base27 ch ch') := by
  intro p hp
  unfold base27 at hp
  simp only [List.mem_cons, List.not_mem_nil, or_false] at hp
  rcases hp with rfl | rfl <;> exact ⟨by simp, by simp⟩
theorem base27_of (ch ch' : AV) : Has (base27 ch ch') ⟨[some (.cells 0 0 24 1 false [ch]), some (.cells 0 0 24 1 false [ch'])], 0⟩ := by
  intro p hp
  unfold base27 at hp
  simp only [List.mem_cons, List.not_mem_nil, or_false] at hp
  rcases hp with rfl | rfl <;> rfl
set_option maxHeartbeats 8000000 in
theorem ans27 {e : Exts} (he : Quiet e) (t u : Txt) (ht : Fits t) (hu : Fits u) (ch ch' : AV) (xs xs' : List AV) (hch : SlOf 2 xs ch) (hall : All2 ChapA t xs) (hch' : SlOf 2 xs' ch') (hall' : All2 ChapA u xs') :
    Ans (Cx e) 24 [.agg [ch], .agg [ch']] (.v (.bool (decide (t = u)))) := by
  have hfit := ht.chs
  have hfit' := hu.chs
  unfold Ans
  rw [fn_step (fn_24 e) (show Try.f24.body = some _ from rfl)]
  by_cases hl : t.length = u.length
  · have hli : ((t.length : Int) = (u.length : Int)) := by omega
    simp -implicitDefEqProofs only [Try.f24, go_sem, ↓reduceIte, Int.reduceEq, Int.reduceLT, Int.reduceLE, List.reduceReplicate, intA, setT_nil, setT_cons, ↓boolP_bool, ↓iteB_true, ↓iteB_false, hch.len, hch.cells, hch.flat, hch.bound, hch'.len, hch'.cells, hch'.flat, hch'.bound, ← hall.1, ← hall'.1, hli]
    refine Lp_rule (P := fun μ a' H => ∃ k, k + μ = t.length ∧ a' = ⟨66, [(0, .agg [ch]), (1, .agg [ch']), (2, .ptr 0 0 0), (3, .ptr 1 0 0), (4, .v (.bool false)), (15, .v (.bool false)), (5, intA k)], []⟩ ∧ MB 2 (base27 ch ch') H [] (.v (.slice none 0 0)) ∧ decide (t = u) = decide (t.drop k = u.drop k)) ?_ t.length _ _ ⟨0, by omega, rfl, ⟨rfl, Nat.le_refl _, base27_of ch ch', Or.inl ⟨rfl, rfl⟩⟩, rfl⟩
    rintro μ _ X ⟨k, hk, rfl, hM, ho⟩
    obtain ⟨N, hN⟩ : ∃ N, X.size = N := ⟨_, rfl⟩
    have hlk : X.lock ≤ N := by rw [hM.lock]; omega
    have hN2 : 2 ≤ N := by have := hM.size; omega
    have hr0 := hM.row (b := 0) (v := 0) (m := 0) (e := 24) (sz := 1) (g := false) (cs := [ch]) (by simp [base27])
    have hr1 := hM.row (b := 1) (v := 0) (m := 0) (e := 24) (sz := 1) (g := false) (cs := [ch']) (by simp [base27])
    rw [← plus_nil X]
    by_cases hlt : (k : Int) < (t.length : Int)
    · obtain ⟨c, hs⟩ := at_lt t k (by omega)
      obtain ⟨c', hs'⟩ := at_lt u k (by omega)
      obtain ⟨z, hz, l, rfl, lxs, hll, hls⟩ := hall.get hs
      obtain ⟨z', hz', l', rfl, lxs', hll', hls'⟩ := hall'.get hs'
      have hw := wrap_succ k (by omega)
      rw [drop_eq_cons hs, drop_eq_cons hs'] at ho
      have hi := hch.idx hz
      have hi' := hch'.idx hz'
      unfold intA at hi hi'
      have g0 : ltB 0 N = true := by unfold ltB; simp; omega
      have g1 : ltB 1 N = true := by unfold ltB; simp; omega
      simp -implicitDefEqProofs only [go_sem, ↓reduceIte, Int.reduceEq, Int.reduceLT, Int.reduceLE, List.reduceReplicate, intA, setT_nil, setT_cons, ↓boolP_bool, ↓iteB_true, ↓iteB_false, hr0, hr1, hch.len, hch.cells, ← hall.1, hlt, sizeP hN, putP0 hN, putP hN, settleP0 hN, settleP hN, rowP0 hN, rowP hN, storeP0 hN hlk, storeP hN hlk, List.length_nil, Nat.add_zero]
      refine wp_drawX [([], [], false), ([], [], false), ([], [], false), ([], [], false), ([], [], false), ([], [], false), ([1, 4], [], false), ([], [], false), ([], [], false), ([1, 4], [], false), ([1, 4, 6, 9], [], false), ([1, 4, 6, 9, 10], [], false), ([6, 9], [10, 11], false), ([], [10, 11], false)] (by kernel_rfl) (by kernel_rfl) ?_
      have b1 : ((1 : Nat) == N + 10) = false := by simp
      have b2 : ((0 : Nat) == N + 10) = false := by simp
      have b3 : ((1 : Nat) == N + 11) = false := by simp
      have b4 : ((0 : Nat) == N + 11) = false := by simp
      have hne : ¬ (c.1 = c'.1 ∧ c.2.length = c'.2.length) → false = decide (t = u) := fun hh => by
        rw [ho]
        exact (decide_eq_false (fun h => hh (by rw [(List.cons.inj h).1]; exact ⟨rfl, rfl⟩))).symm
      cases k1 : decide (c.1 = c'.1)
      · simp -implicitDefEqProofs only [go_sem, ↓reduceIte, Int.reduceEq, Int.reduceLT, Int.reduceLE, List.reduceReplicate, intA, setT_nil, setT_cons, ↓boolP_bool, ↓iteB_true, ↓iteB_false, k1, hr0, hr1, g0, g1, b1, b2, b3, b4, hch.len, hch'.len, hch.cells, hch'.cells, hi, hi', hch.objs, hch'.objs, hll.cells, hll'.cells, hll.flat, hll'.flat, hll.bound, hll'.bound, hll.len, hll'.len, ← hls.1, ← hls'.1, sizeP hN, putP0 hN, putP hN, settleP0 hN, settleP hN, rowP0 hN, rowP hN, storeP0 hN hlk, storeP hN hlk, List.length_nil, Nat.add_zero]
        rw [← hne (fun hh => of_decide_eq_false k1 hh.1)]
      cases k2 : decide ((c.2.length : Int) = (c'.2.length : Int))
      · simp -implicitDefEqProofs only [go_sem, ↓reduceIte, Int.reduceEq, Int.reduceLT, Int.reduceLE, List.reduceReplicate, intA, setT_nil, setT_cons, ↓boolP_bool, ↓iteB_true, ↓iteB_false, k1, k2, hr0, hr1, g0, g1, b1, b2, b3, b4, hch.len, hch'.len, hch.cells, hch'.cells, hi, hi', hch.objs, hch'.objs, hll.cells, hll'.cells, hll.flat, hll'.flat, hll.bound, hll'.bound, hll.len, hll'.len, ← hls.1, ← hls'.1, sizeP hN, putP0 hN, putP hN, settleP0 hN, settleP hN, rowP0 hN, rowP hN, storeP0 hN hlk, storeP hN hlk, List.length_nil, Nat.add_zero]
        rw [← hne (fun hh => of_decide_eq_false k2 (by rw [hh.2]))]
      have hid := of_decide_eq_true k1
      have hln : c.2.length = c'.2.length := by have := of_decide_eq_true k2; omega
      simp -implicitDefEqProofs only [go_sem, ↓reduceIte, Int.reduceEq, Int.reduceLT, Int.reduceLE, List.reduceReplicate, intA, setT_nil, setT_cons, ↓boolP_bool, ↓iteB_true, ↓iteB_false, k1, k2, hr0, hr1, g0, g1, b1, b2, b3, b4, hch.len, hch'.len, hch.cells, hch'.cells, hi, hi', hch.objs, hch'.objs, hll.cells, hll'.cells, hll.flat, hll'.flat, hll.bound, hll'.bound, hll.len, hll'.len, ← hls.1, ← hls'.1, sizeP hN, putP0 hN, putP hN, settleP0 hN, settleP hN, rowP0 hN, rowP hN, storeP0 hN hlk, storeP hN hlk, List.length_nil, Nat.add_zero]
      have hcm := List.mem_of_getElem? hs
      have hll63 := ht.lines c hcm
      have hcut : decide (t = u) = decide (c.2 = c'.2 ∧ t.drop (k + 1) = u.drop (k + 1)) := by
        rw [ho, decide_eq_decide]
        constructor
        · intro h; exact ⟨by rw [(List.cons.inj h).1], (List.cons.inj h).2⟩
        · intro h
          rw [h.2]
          have : c = c' := by
            obtain ⟨ci, cl⟩ := c
            obtain ⟨ci', cl'⟩ := c'
            have h1 : ci = ci' := hid
            have h2 : cl = cl' := h.1
            rw [h1, h2]
          rw [this]
      have hS4 : Stay (N + 12) (base27 ch ch' ++ [(N + 10, .cells 0 0 78 1 false [.v (.int .i64 c.1), l]), (N + 11, .cells 0 0 78 1 false [.v (.int .i64 c'.1), l'])]) := by
        intro p hp
        rcases List.mem_append.1 hp with hp | hp
        · exact ⟨by have := (stay27 ch ch' p hp).1; omega, (stay27 ch ch' p hp).2⟩
        · simp only [List.mem_cons, List.not_mem_nil, or_false] at hp
          rcases hp with rfl | rfl <;> exact ⟨by simp, by simp⟩
      refine Lp_rule (P := fun μ a' H => ∃ n, n + μ = c.2.length ∧ a' = ⟨66, [(0, .agg [ch]), (1, .agg [ch']), (2, .ptr 0 0 0), (3, .ptr 1 0 0), (4, .v (.bool false)), (15, .v (.bool false)), (5, intA k), (20, .v (.bool true)), (6, .ptr (N + 10) 0 0), (7, .ptr (N + 11) 0 0), (46, .v (.bool false)), (8, intA n)], []⟩ ∧ MB (N + 12) (base27 ch ch' ++ [(N + 10, .cells 0 0 78 1 false [.v (.int .i64 c.1), l]), (N + 11, .cells 0 0 78 1 false [.v (.int .i64 c'.1), l'])]) H [] (.v (.slice none 0 0)) ∧ decide (t = u) = decide (c.2.drop n = c'.2.drop n ∧ t.drop (k + 1) = u.drop (k + 1))) ?_ c.2.length _ _ ⟨0, by omega, rfl, ⟨hM.lock, by rw [plus_size, hN]; simp, fun p hp => ?_, Or.inl ⟨rfl, rfl⟩⟩, hcut⟩
      · rintro μ2 _ Y ⟨n, hn, rfl, hM2, ho2⟩
        obtain ⟨N4, hN4⟩ : ∃ N, Y.size = N := ⟨_, rfl⟩
        have hlk4 : Y.lock ≤ N4 := by rw [hM2.lock]; omega
        have hB4 : N + 12 ≤ N4 := by have := hM2.size; omega
        have ra := hM2.row (b := N + 10) (v := 0) (m := 0) (e := 78) (sz := 1) (g := false) (cs := [.v (.int .i64 c.1), l]) (by simp)
        have rb := hM2.row (b := N + 11) (v := 0) (m := 0) (e := 78) (sz := 1) (g := false) (cs := [.v (.int .i64 c'.1), l']) (by simp)
        have ga : ltB (N + 10) N4 = true := by unfold ltB; simp; omega
        have gb : ltB (N + 11) N4 = true := by unfold ltB; simp; omega
        rw [← plus_nil Y]
        by_cases hltn : (n : Int) < (c.2.length : Int)
        · obtain ⟨a, ha⟩ := at_lt c.2 n (by omega)
          obtain ⟨b, hb⟩ := at_lt c'.2 n (by omega)
          obtain ⟨ax, hax, hA⟩ := hls.get ha
          obtain ⟨bx, hbx, hB⟩ := hls'.get hb
          have hA : SlOf 1 (strs a) ax := hA
          have hB : SlOf 1 (strs b) bx := hB
          have hia := hll.idx hax
          have hib := hll'.idx hbx
          have hwn := wrap_succ n (by omega)
          have hc31 := callI31 he ax bx a b hA hB (ht.words c hcm a (List.mem_of_getElem? ha))
          rw [drop_eq_cons ha, drop_eq_cons hb] at ho2
          simp -implicitDefEqProofs only [go_sem, ↓reduceIte, Int.reduceEq, Int.reduceLT, Int.reduceLE, List.reduceReplicate, intA, setT_nil, setT_cons, ↓boolP_bool, ↓iteB_true, ↓iteB_false, ra, hll.len, hll.cells, ← hls.1, hltn, sizeP hN4, putP0 hN4, putP hN4, settleP0 hN4, settleP hN4, rowP0 hN4, rowP hN4, storeP0 hN4 hlk4, storeP hN4 hlk4, List.length_nil, Nat.add_zero]
          refine wp_drawX [([], [], false), ([], [], false), ([], [], false), ([], [], false), ([], [], false), ([], [], false), ([1, 4], [], false), ([], [], false), ([], [], false), ([1, 4], [], false), ([], [], false), ([], [], false)] (by kernel_rfl) (by kernel_rfl) ?_
          cases kk : decide (a = b)
          · rw [kk] at hc31
            have h0 : decide (t = u) = false := by
              rw [ho2]
              exact decide_eq_false fun h => of_decide_eq_false kk (List.cons.inj h.1).1
            simp -implicitDefEqProofs only [go_sem, ↓reduceIte, Int.reduceEq, Int.reduceLT, Int.reduceLE, List.reduceReplicate, intA, setT_nil, setT_cons, ↓boolP_bool, ↓iteB_true, ↓iteB_false, ra, rb, ga, gb, hia, hib, hA.cells, hB.cells, hA.flat, hB.flat, hll.objs, hll'.objs, hll.cells, hll'.cells, hc31, hwn, sizeP hN4, putP0 hN4, putP hN4, settleP0 hN4, settleP hN4, rowP0 hN4, rowP hN4, storeP0 hN4 hlk4, storeP hN4 hlk4, List.length_nil, Nat.add_zero]
            rw [h0]
          · rw [kk] at hc31
            have hab := of_decide_eq_true kk
            simp -implicitDefEqProofs only [go_sem, ↓reduceIte, Int.reduceEq, Int.reduceLT, Int.reduceLE, List.reduceReplicate, intA, setT_nil, setT_cons, ↓boolP_bool, ↓iteB_true, ↓iteB_false, ra, rb, ga, gb, hia, hib, hA.cells, hB.cells, hA.flat, hB.flat, hll.objs, hll'.objs, hll.cells, hll'.cells, hc31, hwn, sizeP hN4, putP0 hN4, putP hN4, settleP0 hN4, settleP hN4, rowP0 hN4, rowP hN4, storeP0 hN4 hlk4, storeP hN4 hlk4, List.length_nil, Nat.add_zero]
            exact ⟨μ2 - 1, by omega, n + 1, by omega, rfl, (hM2.plus _).trim hS4 hB4 _ _ (Nat.zero_le _), by rw [ho2, hab, decide_eq_decide]; simp⟩
        · have hfin : decide (t = u) = decide (t.drop (k + 1) = u.drop (k + 1)) := by
            rw [ho2, show c.2.drop n = [] from List.drop_eq_nil_of_le (by omega), show c'.2.drop n = [] from List.drop_eq_nil_of_le (by omega), decide_eq_decide]; simp
          simp -implicitDefEqProofs only [go_sem, ↓reduceIte, Int.reduceEq, Int.reduceLT, Int.reduceLE, List.reduceReplicate, intA, setT_nil, setT_cons, ↓boolP_bool, ↓iteB_true, ↓iteB_false, ra, hll.len, hll.cells, ← hls.1, hltn, hw, sizeP hN4, putP0 hN4, putP hN4, settleP0 hN4, settleP hN4, rowP0 hN4, rowP hN4, storeP0 hN4 hlk4, storeP hN4 hlk4, List.length_nil, Nat.add_zero]
          exact ⟨μ - 1, by omega, k + 1, by omega, rfl, (((hM2.plus []).trim hS4 hB4 _ _ (Nat.zero_le _)).sub (by omega) (fun p hp => List.mem_append_left _ hp)).trim (stay27 ch ch') hN2 _ _ (Nat.zero_le _), hfin⟩
      · rcases List.mem_append.1 hp with hp | hp
        · exact hM.base.plus _ p hp
        · simp only [List.mem_cons, List.not_mem_nil, or_false] at hp
          rcases hp with rfl | rfl
          · rw [plus_get_hi _ (by omega), hN, show N + 10 - N = 10 by omega]; rfl
          · rw [plus_get_hi _ (by omega), hN, show N + 11 - N = 11 by omega]; rfl
    · have hd : decide (t = u) = true := by rw [ho, show t.drop k = [] from List.drop_eq_nil_of_le (by omega), show u.drop k = [] from List.drop_eq_nil_of_le (by omega)]; rfl
      simp -implicitDefEqProofs only [go_sem, ↓reduceIte, Int.reduceEq, Int.reduceLT, Int.reduceLE, List.reduceReplicate, intA, setT_nil, setT_cons, ↓boolP_bool, ↓iteB_true, ↓iteB_false, hr0, hr1, hch.len, hch.cells, ← hall.1, hlt, sizeP hN, settleP0 hN, settleP hN, List.length_nil, Nat.add_zero]
      rw [hd]
  · have hli : ¬ ((t.length : Int) = (u.length : Int)) := by omega
    have hne : decide (t = u) = false := decide_eq_false (fun h => hl (by rw [h]))
    simp -implicitDefEqProofs only [Try.f24, go_sem, ↓reduceIte, Int.reduceEq, Int.reduceLT, Int.reduceLE, List.reduceReplicate, intA, setT_nil, setT_cons, ↓boolP_bool, ↓iteB_true, ↓iteB_false, hch.len, hch.cells, hch.flat, hch.bound, hch'.len, hch'.cells, hch'.flat, hch'.bound, ← hall.1, ← hall'.1, hli]
    rw [hne]
end Go.Ev
namespace Go.Ev
open Go.Proofs
set_option maxRecDepth 100000
set_option linter.unusedSimpArgs false
attribute [local irreducible] Wp WpS
/-! ### the law of words and places, by what Twin answers -/
end Go.Ev
namespace Go.Ev
open Go.Proofs
set_option maxRecDepth 100000
set_option linter.unusedSimpArgs false
attribute [local irreducible] Wp WpS
end Go.Ev
namespace Go.Ev
open Go.Proofs
set_option maxRecDepth 100000
set_option linter.unusedSimpArgs false
/-! ### a law's arguments -/
theorem int_of {N : Nat} {x : AV} (h : Arg Try.prog (N + 1) 3 x) : ∃ n, x = intA n := by
  unfold Arg at h
  have hu : Try.prog.underlying 3 = some (.int .i64) := by kernel_rfl
  rw [hu] at h
  obtain ⟨m, hm, -⟩ := plain_int hu h
  simp only [List.cons.injEq, and_true] at hm
  exact ⟨m, hm⟩
/-- what Twin answers: the same text, in memory of its own -/
theorem twin7 (t : Txt) (_ht : Fits t) (hg : greatT t = false) (ch : AV) (xs : List AV) (hch : SlOf 2 xs ch) (hall : All2 ChapA t xs) : ∃ ch' xs', SlOf 2 xs' ch' ∧ All2 ChapA t xs' ∧ Ans (Cx eA) 7 [.agg [ch]] (.agg [ch']) := by
  unfold greatT at hg
  rw [Bool.or_eq_false_iff] at hg
  have h1 := of_decide_eq_false hg.1
  have h2 : ∀ c ∈ t, greatC c = false := fun c hc => by
    have := List.any_eq_false.1 hg.2 c hc
    simpa using this
  have h3 : ∀ c ∈ t, c.2.length < 1000 := fun c hc => by
    have := h2 c hc
    unfold greatC at this
    rw [Bool.or_eq_false_iff] at this
    have := of_decide_eq_false this.1
    omega
  have h4 : ∀ c ∈ t, ∀ w ∈ c.2, w.length < 50 := fun c hc w hw => by
    have := h2 c hc
    unfold greatC at this
    rw [Bool.or_eq_false_iff] at this
    have h5 := List.any_eq_false.1 this.2 w hw
    have h6 : greatL w = false := by simpa using h5
    unfold greatL at h6
    rw [Bool.or_eq_false_iff] at h6
    have := of_decide_eq_false h6.1
    omega
  obtain ⟨v, ⟨ch', xs', rfl, ha, hb⟩, hc⟩ := twinR (e := eA) quietA t (by omega) h3 h4 ch xs hch hall
  exact ⟨ch', xs', ha, hb, hc⟩
end Go.Ev
namespace Go.Ev
open Go.Proofs
set_option maxRecDepth 100000
set_option linter.unusedSimpArgs false
attribute [local irreducible] Wp WpS
section
variable {e : Exts} (he : Quiet e) (t u : Txt) (ht : Fits t) (hu : Fits u) (ch ch' : AV) (xs xs' : List AV) (hch : SlOf 2 xs ch) (hall : All2 ChapA t xs) (hch' : SlOf 2 xs' ch') (hall' : All2 ChapA u xs')
include he ht hu hch hall hch' hall'
/-- two texts at work, where something is wrong -/
theorem ansF62e (h : twoR t u ≠ 0) : Ans (Cx e) 62 [.agg [ch], .agg [ch']] (.tup [.agg [.v (.slice none 0 0)], intA (twoR t u)]) := by
  have h62 := call62 he t ht _ ⟨ch, rfl, xs, hch, hall⟩
  have h62' := call62 he u hu _ ⟨ch', rfl, xs', hch', hall'⟩
  unfold twoR at h ⊢
  unfold Ans
  rw [fn_step (fn_62 e) (show Try.f62.body = some _ from rfl)]
  cases h1 : textB t
  · rw [h1] at h62
    simp -implicitDefEqProofs only [Try.f62, go_sem, ↓reduceIte, Int.reduceEq, Int.reduceLT, Int.reduceLE, List.reduceReplicate, intA, setT_nil, setT_cons, ↓boolP_bool, ↓iteB_true, ↓iteB_false, hch.cells, hch.flat, hch.bound, hch'.cells, hch'.flat, hch'.bound, h62, Bool.not_false, Bool.not_true]
    rfl
  · rw [h1] at h62
    cases h2 : textB u
    · rw [h2] at h62'
      simp -implicitDefEqProofs only [Try.f62, go_sem, ↓reduceIte, Int.reduceEq, Int.reduceLT, Int.reduceLE, List.reduceReplicate, intA, setT_nil, setT_cons, ↓boolP_bool, ↓iteB_true, ↓iteB_false, hch.cells, hch.flat, hch.bound, hch'.cells, hch'.flat, hch'.bound, h62, h62', Bool.not_false, Bool.not_true]
      rfl
    · rw [h2] at h62'
      cases h3 : alikeB t u
      · obtain ⟨F, h70⟩ := call70 he ⟨[some (.cells 0 0 24 1 false [ch]), some (.cells 0 0 24 1 false [ch']), some (.cells 0 0 89 1 false [.v (.slice none 0 0)])], 0⟩ (Nat.zero_le _) t u ht ch ch' xs xs' hch hall hch' hall' 62 (some 20)
        rw [h3] at h70
        cases hF : F.all Option.isNone
        · simp -implicitDefEqProofs only [Try.f62, go_sem, ↓reduceIte, Int.reduceEq, Int.reduceLT, Int.reduceLE, List.reduceReplicate, intA, setT_nil, setT_cons, ↓boolP_bool, ↓iteB_true, ↓iteB_false, hch.cells, hch.flat, hch.bound, hch'.cells, hch'.flat, hch'.bound, h62, h62', h70, Heap.plus, hF, Bool.not_false, Bool.not_true]
          rfl
        · simp -implicitDefEqProofs only [Try.f62, go_sem, ↓reduceIte, Int.reduceEq, Int.reduceLT, Int.reduceLE, List.reduceReplicate, intA, setT_nil, setT_cons, ↓boolP_bool, ↓iteB_true, ↓iteB_false, hch.cells, hch.flat, hch.bound, hch'.cells, hch'.flat, hch'.bound, h62, h62', h70, Heap.plus, hF, Bool.not_false, Bool.not_true]
          rfl
      · rw [h1, h2, h3] at h; simp at h
theorem ansF38 : Ans (Cx e) 38 [.agg [ch], .agg [ch']] (apartR t u) := by
  unfold apartR
  by_cases h0 : twoR t u = 0
  · obtain ⟨h1, h2, h3⟩ := twoR_shape h0
    rw [if_pos h0]
    exact ans23 he t u ht hu ch ch' xs xs' hch hall hch' hall' h1 h2 h3
  · rw [if_neg h0]
    have h50 := fun me d H => (ansF62e he t u ht hu ch ch' xs xs' hch hall hch' hall' h0).call (ext_62 he) (pure_62 e me d) (by simp only [boundL_cons, bound_agg, hch.bound, hch'.bound, boundL_nil]; rfl) H
    have hd : decide (twoR t u = 0) = false := decide_eq_false h0
    unfold intA at h50
    unfold Ans
    rw [fn_step (fn_38 e) (show Try.f38.body = some _ from rfl)]
    simp -implicitDefEqProofs only [Try.f38, go_sem, ↓reduceIte, Int.reduceEq, Int.reduceLT, Int.reduceLE, List.reduceReplicate, intA, setT_nil, setT_cons, ↓boolP_bool, ↓iteB_true, ↓iteB_false, hch.cells, hch.flat, hch.bound, hch'.cells, hch'.flat, hch'.bound, h50, hd, Bool.not_false, Bool.not_true]
    rfl
theorem ansF36 (id : Int) : Ans (Cx e) 36 [.agg [ch], .agg [ch'], intA id] (findR t u id) := by
  unfold findR
  by_cases h0 : twoR t u = 0
  · obtain ⟨h1, h2, h3⟩ := twoR_shape h0
    rw [if_pos h0]
    cases hid : withinB 0 9999 [id]
    · rw [if_neg (by simp)]
      have h50 := fun me d H => (ans50 he t u ht hu ch ch' xs xs' hch hall hch' hall' h1 h2 h3).call (ext_62 he) (pure_62 e me d) (by simp only [boundL_cons, bound_agg, hch.bound, hch'.bound, boundL_nil]; rfl) H
      have h51 := fun me d H => call51 he id me d H
      rw [hid] at h51
      unfold intA at h50
      unfold Ans
      rw [fn_step (fn_36 e) (show Try.f36.body = some _ from rfl)]
      simp -implicitDefEqProofs only [Try.f36, go_sem, ↓reduceIte, Int.reduceEq, Int.reduceLT, Int.reduceLE, List.reduceReplicate, intA, setT_nil, setT_cons, ↓boolP_bool, ↓iteB_true, ↓iteB_false, hch.cells, hch.flat, hch.bound, hch'.cells, hch'.flat, hch'.bound, h50, h51, Bool.not_false, Bool.not_true]
      rfl
    · rw [if_pos rfl]
      have h := find22 he t u ht hu ch ch' xs xs' hch hall hch' hall' h1 h2 h3 id hid
      unfold res22 at h
      by_cases hl : (foundT 0 t u).length ≤ 20
      · rw [if_neg (by omega)] at h; rw [if_pos hl]; exact h
      · rw [if_pos (by omega)] at h; rw [if_neg hl]; exact h
  · rw [if_neg h0]
    have h50 := fun me d H => (ansF62e he t u ht hu ch ch' xs xs' hch hall hch' hall' h0).call (ext_62 he) (pure_62 e me d) (by simp only [boundL_cons, bound_agg, hch.bound, hch'.bound, boundL_nil]; rfl) H
    have hd : decide (twoR t u = 0) = false := decide_eq_false h0
    unfold intA at h50
    unfold Ans
    rw [fn_step (fn_36 e) (show Try.f36.body = some _ from rfl)]
    simp -implicitDefEqProofs only [Try.f36, go_sem, ↓reduceIte, Int.reduceEq, Int.reduceLT, Int.reduceLE, List.reduceReplicate, intA, setT_nil, setT_cons, ↓boolP_bool, ↓iteB_true, ↓iteB_false, hch.cells, hch.flat, hch.bound, hch'.cells, hch'.flat, hch'.bound, h50, hd, Bool.not_false, Bool.not_true]
    rfl
end
theorem findR_tup (t u : Txt) (id : Int) : ∃ (a : Int) (l : List Rd) (c : Int), l.length ≤ 20 ∧ findR t u id = .tup [.agg [.v (.int .i64 a), ofV l], .v (.int .i64 c)] := by
  unfold findR intA
  split
  · split
    · split
      · rename_i h; exact ⟨_, _, _, h, rfl⟩
      · exact ⟨_, [], _, Nat.zero_le _, rfl⟩
    · exact ⟨_, [], _, Nat.zero_le _, rfl⟩
  · exact ⟨_, [], _, Nat.zero_le _, rfl⟩
theorem apartR_tup (t u : Txt) : ∃ n c : Int, apartR t u = .tup [.v (.int .i64 n), .v (.int .i64 c)] := by
  unfold apartR intA
  split <;> exact ⟨_, _, rfl⟩
set_option maxHeartbeats 4000000 in
theorem ansF5 (t u : Txt) (ht : Fits t) (hu : Fits u) (ch cu : AV) (xs us : List AV) (hch : SlOf 2 xs ch) (hall : All2 ChapA t xs) (hcu : SlOf 2 us cu) (halu : All2 ChapA u us) (id : Int) : Ans (Cx eA) 5 [.agg [ch], .agg [cu], intA id] (.v (.bool true)) := by
  have he := quietA
  have h6 := fun me d H => call38 he t ht _ ⟨ch, rfl, xs, hch, hall⟩ me d H
  have h6u := fun me d H => call38 he u hu _ ⟨cu, rfl, us, hcu, halu⟩ me d H
  unfold Ans
  rw [fn_step (fn_5 eA) (show Try.f5.body = some _ from rfl)]
  cases hgt : greatT t
  · rw [hgt] at h6
    cases hgu : greatT u
    · rw [hgu] at h6u
      obtain ⟨ch', xs', hch', hall', h7⟩ := twin7 t ht hgt ch xs hch hall
      obtain ⟨cu', us', hcu', halu', h7u⟩ := twin7 u hu hgu cu us hcu halu
      have b0 : ∀ {l : List AV}, (∀ x ∈ l, bound x = 0) → boundL l = 0 := fun h => Nat.le_zero.1 (boundL_le.2 fun x hx => by rw [h x hx]; exact Nat.le_refl _)
      have b1 : bound (AV.agg [ch]) = 0 := by simp only [bound_agg, boundL_cons, hch.bound, boundL_nil]; rfl
      have b2 : bound (AV.agg [ch']) = 0 := by simp only [bound_agg, boundL_cons, hch'.bound, boundL_nil]; rfl
      have b3 : bound (AV.agg [cu]) = 0 := by simp only [bound_agg, boundL_cons, hcu.bound, boundL_nil]; rfl
      have b4 : bound (AV.agg [cu']) = 0 := by simp only [bound_agg, boundL_cons, hcu'.bound, boundL_nil]; rfl
      have c7 := fun me d => h7.callI (ext_7 he) (pure_7 eA me d) (b0 (by simp [b1]))
      have c7u := fun me d => h7u.callI (ext_7 he) (pure_7 eA me d) (b0 (by simp [b3]))
      have c36 := fun me d H => (ansF36 he t u ht hu ch' cu' xs' us' hch' hall' hcu' halu' id).call (ext_36 he) (pure_36 eA me d) (b0 (by simp [b2, b4]; rfl)) H
      have c37 := fun me d H => (ansF37 he t u ht hu hgt hgu ch cu xs us hch hall hcu halu id).call (ext_37 he) (pure_37 eA me d) (b0 (by simp [b1, b3]; rfl)) H
      have c38 := fun me d H => (ansF38 he t u ht hu ch' cu' xs' us' hch' hall' hcu' halu').call (ext_38 he) (pure_38 eA me d) (b0 (by simp [b2, b4])) H
      have c39 := fun me d H => (ansF39 he t u ht hu hgt hgu ch cu xs us hch hall hcu halu).call (ext_39 he) (pure_39 eA me d) (b0 (by simp [b1, b3])) H
      obtain ⟨fa, fl, fc, hfl, ef⟩ := findR_tup t u id
      obtain ⟨an, ac, ea⟩ := apartR_tup t u
      rw [ef] at c36 c37
      rw [ea] at c38 c39
      have c35 := fun me d H => (ansF35 (e := eA) fa fl (by omega)).call (ext_35 he) (pure_35 eA me d) (b0 (by simp [bound_agg, boundL_cons, ofV_bound]; exact ⟨rfl, rfl⟩)) H
      have c24 := fun me d H => (ans27 he t t ht ht ch' ch xs' xs hch' hall' hch hall).call (ext_24 he) (pure_24 eA me d) (b0 (by simp [b1, b2])) H
      have c24u := fun me d H => (ans27 he u u hu hu cu' cu us' us hcu' halu' hcu halu).call (ext_24 he) (pure_24 eA me d) (b0 (by simp [b3, b4])) H
      unfold intA at c36 c37 c35
      have hoc := (ofV_one fl).1
      have hof := (ofV_one fl).2.1
      simp only [decide_true] at c24 c24u
      simp -implicitDefEqProofs only [Try.f5, go_sem, ↓reduceIte, Int.reduceEq, Int.reduceLT, Int.reduceLE, List.reduceReplicate, intA, setT_nil, setT_cons, hch.cells, hch.flat, hch.bound, hcu.cells, hcu.flat, hcu.bound, h6, h6u, ↓boolP_bool, ↓iteB_true, ↓iteB_false]
      refine wp_drawX [([], [], false), ([], [], false), ([0, 1], [], false), ([], [], false), ([0, 1, 2, 3], [], false), ([0, 1, 2, 3, 4], [], false), ([], [4, 5], false), ([], [4, 5], false)] (by kernel_rfl) (by kernel_rfl) ?_
      simp -implicitDefEqProofs only [go_sem, ↓reduceIte, Int.reduceEq, Int.reduceLT, Int.reduceLE, List.reduceReplicate, intA, setT_nil, setT_cons, hch.cells, hch.flat, hch.bound, hch'.cells, hch'.flat, hch'.bound, hcu.cells, hcu.flat, hcu.bound, hcu'.cells, hcu'.flat, hcu'.bound, c7, c7u, c36, c37, c38, c39, c35, c24, c24u, hoc, hof, ofV_bound, decide_true, ↓boolP_bool, ↓iteB_true, ↓iteB_false]
    · rw [hgu] at h6u
      simp -implicitDefEqProofs only [Try.f5, go_sem, ↓reduceIte, Int.reduceEq, Int.reduceLT, Int.reduceLE, List.reduceReplicate, intA, setT_nil, setT_cons, hch.cells, hch.flat, hch.bound, hcu.cells, hcu.flat, hcu.bound, h6, h6u, ↓boolP_bool, ↓iteB_true, ↓iteB_false]
  · rw [hgt] at h6
    simp -implicitDefEqProofs only [Try.f5, go_sem, ↓reduceIte, Int.reduceEq, Int.reduceLT, Int.reduceLE, List.reduceReplicate, intA, setT_nil, setT_cons, hch.cells, hch.flat, hch.bound, hcu.cells, hcu.flat, hcu.bound, h6, ↓boolP_bool, ↓iteB_true, ↓iteB_false]
end Go.Ev
