/- What the proof of this claim stands on, part 6: an evaluator of the model, proved right, and what it answers for functions of the program. -/
import Derived.Test.YtjcgoiajjgeedaaGreatPk04
set_option linter.unusedSimpArgs false
namespace Go.Ev
open Go.Proofs
set_option maxRecDepth 100000
set_option linter.unusedSimpArgs false
attribute [local irreducible] Wp WpS
theorem callI31 {e : Exts} (he : Quiet e) (a b : AV) (xs ys : List ByteArray) (ha : SlOf 1 (strs xs) a) (hb : SlOf 1 (strs ys) b) (hn : xs.length < 2 ^ 63) (me : FuncId) (d : Option Tmp) : callI (Cx e) me 31 d [a, b] = some (.v (.bool (decide (xs = ys)))) := by
  have hbd : boundL [a, b] = 0 := by simp only [boundL_cons, ha.bound, hb.bound, boundL_nil]; rfl
  refine callI_of (fun H => callP31 he a b xs ys (Or.inl ha) hb hn me d) (Or.inr ?_)
  unfold callKind; rw [pure_31, hbd]; rfl
def base27 (ch ch' : AV) : Fm := [(0, .cells 0 0 24 1 false [ch]), (1, .cells 0 0 24 1 false [ch'])]
theorem stay27 (ch ch' : AV) : Stay 2 (base27 ch ch') := by
  intro p hp
  unfold base27 at hp
  simp only [List.mem_cons, List.not_mem_nil, or_false] at hp
  rcases hp with rfl | rfl <;> exact ⟨by simp, by simp⟩
theorem base27_of (ch ch' : AV) : Has (base27 ch ch') ⟨[some (.cells 0 0 24 1 false [ch]), some (.cells 0 0 24 1 false [ch'])], 0⟩ := by
  intro p hp
  unfold base27 at hp
  simp only [List.mem_cons, List.not_mem_nil, or_false] at hp
  rcases hp with rfl | rfl <;> rfl
set_option maxHeartbeats 8000000 in
theorem ans27 {e : Exts} (he : Quiet e) (t u : Txt) (ht : Fits t) (hu : Fits u) (ch ch' : AV) (xs xs' : List AV) (hch : SlOf 2 xs ch) (hall : All2 ChapA t xs) (hch' : SlOf 2 xs' ch') (hall' : All2 ChapA u xs') :
    Ans (Cx e) 27 [.agg [ch], .agg [ch']] (.v (.bool (decide (t = u)))) := by
  have hfit := ht.chs
  have hfit' := hu.chs
  unfold Ans
  rw [fn_step (fn_27 e) (show Tryz.f27.body = some _ from rfl)]
  by_cases hl : t.length = u.length
  · have hli : ((t.length : Int) = (u.length : Int)) := by omega
    simp -implicitDefEqProofs only [Tryz.f27, go_sem, ↓reduceIte, Int.reduceEq, Int.reduceLT, Int.reduceLE, List.reduceReplicate, intA, setT_nil, setT_cons, ↓boolP_bool, ↓iteB_true, ↓iteB_false, hch.len, hch.cells, hch.flat, hch.bound, hch'.len, hch'.cells, hch'.flat, hch'.bound, ← hall.1, ← hall'.1, hli]
    refine Lp_rule (P := fun μ a' H => ∃ k, k + μ = t.length ∧ a' = ⟨66, [(0, .agg [ch]), (1, .agg [ch']), (2, .ptr 0 0 0), (3, .ptr 1 0 0), (4, .v (.bool false)), (15, .v (.bool false)), (5, intA k)], []⟩ ∧ MB 2 (base27 ch ch') H [] (.v (.slice none 0 0)) ∧ decide (t = u) = decide (t.drop k = u.drop k)) ?_ t.length _ _ ⟨0, by omega, rfl, ⟨rfl, Nat.le_refl _, base27_of ch ch', Or.inl ⟨rfl, rfl⟩⟩, rfl⟩
    rintro μ _ X ⟨k, hk, rfl, hM, ho⟩
    obtain ⟨N, hN⟩ : ∃ N, X.size = N := ⟨_, rfl⟩
    have hlk : X.lock ≤ N := by rw [hM.lock]; omega
    have hN2 : 2 ≤ N := by have := hM.size; omega
    have hr0 := hM.row (b := 0) (v := 0) (m := 0) (e := 24) (sz := 1) (g := false) (cs := [ch]) (by simp [base27])
    have hr1 := hM.row (b := 1) (v := 0) (m := 0) (e := 24) (sz := 1) (g := false) (cs := [ch']) (by simp [base27])
    rw [← plus_nil X]
    by_cases hlt : (k : Int) < (t.length : Int)
    · obtain ⟨c, hs⟩ := at_lt t k (by omega)
      obtain ⟨c', hs'⟩ := at_lt u k (by omega)
      obtain ⟨z, hz, l, rfl, lxs, hll, hls⟩ := hall.get hs
      obtain ⟨z', hz', l', rfl, lxs', hll', hls'⟩ := hall'.get hs'
      have hw := wrap_succ k (by omega)
      rw [drop_eq_cons hs, drop_eq_cons hs'] at ho
      have hi := hch.idx hz
      have hi' := hch'.idx hz'
      unfold intA at hi hi'
      have g0 : ltB 0 N = true := by unfold ltB; simp; omega
      have g1 : ltB 1 N = true := by unfold ltB; simp; omega
      simp -implicitDefEqProofs only [go_sem, ↓reduceIte, Int.reduceEq, Int.reduceLT, Int.reduceLE, List.reduceReplicate, intA, setT_nil, setT_cons, ↓boolP_bool, ↓iteB_true, ↓iteB_false, hr0, hr1, hch.len, hch.cells, ← hall.1, hlt, sizeP hN, putP0 hN, putP hN, settleP0 hN, settleP hN, rowP0 hN, rowP hN, storeP0 hN hlk, storeP hN hlk, List.length_nil, Nat.add_zero]
      refine wp_drawX [([], [], false), ([], [], false), ([], [], false), ([], [], false), ([], [], false), ([], [], false), ([1, 4], [], false), ([], [], false), ([], [], false), ([1, 4], [], false), ([1, 4, 6, 9], [], false), ([1, 4, 6, 9, 10], [], false), ([6, 9], [10, 11], false), ([], [10, 11], false)] (by kernel_rfl) (by kernel_rfl) ?_
      have b1 : ((1 : Nat) == N + 10) = false := by simp
      have b2 : ((0 : Nat) == N + 10) = false := by simp
      have b3 : ((1 : Nat) == N + 11) = false := by simp
      have b4 : ((0 : Nat) == N + 11) = false := by simp
      have hne : ¬ (c.1 = c'.1 ∧ c.2.length = c'.2.length) → false = decide (t = u) := fun hh => by
        rw [ho]
        exact (decide_eq_false (fun h => hh (by rw [(List.cons.inj h).1]; exact ⟨rfl, rfl⟩))).symm
      cases k1 : decide (c.1 = c'.1)
      · simp -implicitDefEqProofs only [go_sem, ↓reduceIte, Int.reduceEq, Int.reduceLT, Int.reduceLE, List.reduceReplicate, intA, setT_nil, setT_cons, ↓boolP_bool, ↓iteB_true, ↓iteB_false, k1, hr0, hr1, g0, g1, b1, b2, b3, b4, hch.len, hch'.len, hch.cells, hch'.cells, hi, hi', hch.objs, hch'.objs, hll.cells, hll'.cells, hll.flat, hll'.flat, hll.bound, hll'.bound, hll.len, hll'.len, ← hls.1, ← hls'.1, sizeP hN, putP0 hN, putP hN, settleP0 hN, settleP hN, rowP0 hN, rowP hN, storeP0 hN hlk, storeP hN hlk, List.length_nil, Nat.add_zero]
        rw [← hne (fun hh => of_decide_eq_false k1 hh.1)]
      cases k2 : decide ((c.2.length : Int) = (c'.2.length : Int))
      · simp -implicitDefEqProofs only [go_sem, ↓reduceIte, Int.reduceEq, Int.reduceLT, Int.reduceLE, List.reduceReplicate, intA, setT_nil, setT_cons, ↓boolP_bool, ↓iteB_true, ↓iteB_false, k1, k2, hr0, hr1, g0, g1, b1, b2, b3, b4, hch.len, hch'.len, hch.cells, hch'.cells, hi, hi', hch.objs, hch'.objs, hll.cells, hll'.cells, hll.flat, hll'.flat, hll.bound, hll'.bound, hll.len, hll'.len, ← hls.1, ← hls'.1, sizeP hN, putP0 hN, putP hN, settleP0 hN, settleP hN, rowP0 hN, rowP hN, storeP0 hN hlk, storeP hN hlk, List.length_nil, Nat.add_zero]
        rw [← hne (fun hh => of_decide_eq_false k2 (by rw [hh.2]))]
      have hid := of_decide_eq_true k1
      have hln : c.2.length = c'.2.length := by have := of_decide_eq_true k2; omega
      simp -implicitDefEqProofs only [go_sem, ↓reduceIte, Int.reduceEq, Int.reduceLT, Int.reduceLE, List.reduceReplicate, intA, setT_nil, setT_cons, ↓boolP_bool, ↓iteB_true, ↓iteB_false, k1, k2, hr0, hr1, g0, g1, b1, b2, b3, b4, hch.len, hch'.len, hch.cells, hch'.cells, hi, hi', hch.objs, hch'.objs, hll.cells, hll'.cells, hll.flat, hll'.flat, hll.bound, hll'.bound, hll.len, hll'.len, ← hls.1, ← hls'.1, sizeP hN, putP0 hN, putP hN, settleP0 hN, settleP hN, rowP0 hN, rowP hN, storeP0 hN hlk, storeP hN hlk, List.length_nil, Nat.add_zero]
      have hcm := List.mem_of_getElem? hs
      have hll63 := ht.lines c hcm
      have hcut : decide (t = u) = decide (c.2 = c'.2 ∧ t.drop (k + 1) = u.drop (k + 1)) := by
        rw [ho, decide_eq_decide]
        constructor
        · intro h; exact ⟨by rw [(List.cons.inj h).1], (List.cons.inj h).2⟩
        · intro h
          rw [h.2]
          have : c = c' := by
            obtain ⟨ci, cl⟩ := c
            obtain ⟨ci', cl'⟩ := c'
            have h1 : ci = ci' := hid
            have h2 : cl = cl' := h.1
            rw [h1, h2]
          rw [this]
      have hS4 : Stay (N + 12) (base27 ch ch' ++ [(N + 10, .cells 0 0 46 1 false [.v (.int .i64 c.1), l]), (N + 11, .cells 0 0 46 1 false [.v (.int .i64 c'.1), l'])]) := by
        intro p hp
        rcases List.mem_append.1 hp with hp | hp
        · exact ⟨by have := (stay27 ch ch' p hp).1; omega, (stay27 ch ch' p hp).2⟩
        · simp only [List.mem_cons, List.not_mem_nil, or_false] at hp
          rcases hp with rfl | rfl <;> exact ⟨by simp, by simp⟩
      refine Lp_rule (P := fun μ a' H => ∃ n, n + μ = c.2.length ∧ a' = ⟨66, [(0, .agg [ch]), (1, .agg [ch']), (2, .ptr 0 0 0), (3, .ptr 1 0 0), (4, .v (.bool false)), (15, .v (.bool false)), (5, intA k), (20, .v (.bool true)), (6, .ptr (N + 10) 0 0), (7, .ptr (N + 11) 0 0), (46, .v (.bool false)), (8, intA n)], []⟩ ∧ MB (N + 12) (base27 ch ch' ++ [(N + 10, .cells 0 0 46 1 false [.v (.int .i64 c.1), l]), (N + 11, .cells 0 0 46 1 false [.v (.int .i64 c'.1), l'])]) H [] (.v (.slice none 0 0)) ∧ decide (t = u) = decide (c.2.drop n = c'.2.drop n ∧ t.drop (k + 1) = u.drop (k + 1))) ?_ c.2.length _ _ ⟨0, by omega, rfl, ⟨hM.lock, by rw [plus_size, hN]; simp, fun p hp => ?_, Or.inl ⟨rfl, rfl⟩⟩, hcut⟩
      · rintro μ2 _ Y ⟨n, hn, rfl, hM2, ho2⟩
        obtain ⟨N4, hN4⟩ : ∃ N, Y.size = N := ⟨_, rfl⟩
        have hlk4 : Y.lock ≤ N4 := by rw [hM2.lock]; omega
        have hB4 : N + 12 ≤ N4 := by have := hM2.size; omega
        have ra := hM2.row (b := N + 10) (v := 0) (m := 0) (e := 46) (sz := 1) (g := false) (cs := [.v (.int .i64 c.1), l]) (by simp)
        have rb := hM2.row (b := N + 11) (v := 0) (m := 0) (e := 46) (sz := 1) (g := false) (cs := [.v (.int .i64 c'.1), l']) (by simp)
        have ga : ltB (N + 10) N4 = true := by unfold ltB; simp; omega
        have gb : ltB (N + 11) N4 = true := by unfold ltB; simp; omega
        rw [← plus_nil Y]
        by_cases hltn : (n : Int) < (c.2.length : Int)
        · obtain ⟨a, ha⟩ := at_lt c.2 n (by omega)
          obtain ⟨b, hb⟩ := at_lt c'.2 n (by omega)
          obtain ⟨ax, hax, hA⟩ := hls.get ha
          obtain ⟨bx, hbx, hB⟩ := hls'.get hb
          have hA : SlOf 1 (strs a) ax := hA
          have hB : SlOf 1 (strs b) bx := hB
          have hia := hll.idx hax
          have hib := hll'.idx hbx
          have hwn := wrap_succ n (by omega)
          have hc31 := callI31 he ax bx a b hA hB (ht.words c hcm a (List.mem_of_getElem? ha))
          rw [drop_eq_cons ha, drop_eq_cons hb] at ho2
          simp -implicitDefEqProofs only [go_sem, ↓reduceIte, Int.reduceEq, Int.reduceLT, Int.reduceLE, List.reduceReplicate, intA, setT_nil, setT_cons, ↓boolP_bool, ↓iteB_true, ↓iteB_false, ra, hll.len, hll.cells, ← hls.1, hltn, sizeP hN4, putP0 hN4, putP hN4, settleP0 hN4, settleP hN4, rowP0 hN4, rowP hN4, storeP0 hN4 hlk4, storeP hN4 hlk4, List.length_nil, Nat.add_zero]
          refine wp_drawX [([], [], false), ([], [], false), ([], [], false), ([], [], false), ([], [], false), ([], [], false), ([1, 4], [], false), ([], [], false), ([], [], false), ([1, 4], [], false), ([], [], false), ([], [], false)] (by kernel_rfl) (by kernel_rfl) ?_
          cases kk : decide (a = b)
          · rw [kk] at hc31
            have h0 : decide (t = u) = false := by
              rw [ho2]
              exact decide_eq_false fun h => of_decide_eq_false kk (List.cons.inj h.1).1
            simp -implicitDefEqProofs only [go_sem, ↓reduceIte, Int.reduceEq, Int.reduceLT, Int.reduceLE, List.reduceReplicate, intA, setT_nil, setT_cons, ↓boolP_bool, ↓iteB_true, ↓iteB_false, ra, rb, ga, gb, hia, hib, hA.cells, hB.cells, hA.flat, hB.flat, hll.objs, hll'.objs, hll.cells, hll'.cells, hc31, hwn, sizeP hN4, putP0 hN4, putP hN4, settleP0 hN4, settleP hN4, rowP0 hN4, rowP hN4, storeP0 hN4 hlk4, storeP hN4 hlk4, List.length_nil, Nat.add_zero]
            rw [h0]
          · rw [kk] at hc31
            have hab := of_decide_eq_true kk
            simp -implicitDefEqProofs only [go_sem, ↓reduceIte, Int.reduceEq, Int.reduceLT, Int.reduceLE, List.reduceReplicate, intA, setT_nil, setT_cons, ↓boolP_bool, ↓iteB_true, ↓iteB_false, ra, rb, ga, gb, hia, hib, hA.cells, hB.cells, hA.flat, hB.flat, hll.objs, hll'.objs, hll.cells, hll'.cells, hc31, hwn, sizeP hN4, putP0 hN4, putP hN4, settleP0 hN4, settleP hN4, rowP0 hN4, rowP hN4, storeP0 hN4 hlk4, storeP hN4 hlk4, List.length_nil, Nat.add_zero]
            exact ⟨μ2 - 1, by omega, n + 1, by omega, rfl, (hM2.plus _).trim hS4 hB4 _ _ (Nat.zero_le _), by rw [ho2, hab, decide_eq_decide]; simp⟩
        · have hfin : decide (t = u) = decide (t.drop (k + 1) = u.drop (k + 1)) := by
            rw [ho2, show c.2.drop n = [] from List.drop_eq_nil_of_le (by omega), show c'.2.drop n = [] from List.drop_eq_nil_of_le (by omega), decide_eq_decide]; simp
          simp -implicitDefEqProofs only [go_sem, ↓reduceIte, Int.reduceEq, Int.reduceLT, Int.reduceLE, List.reduceReplicate, intA, setT_nil, setT_cons, ↓boolP_bool, ↓iteB_true, ↓iteB_false, ra, hll.len, hll.cells, ← hls.1, hltn, hw, sizeP hN4, putP0 hN4, putP hN4, settleP0 hN4, settleP hN4, rowP0 hN4, rowP hN4, storeP0 hN4 hlk4, storeP hN4 hlk4, List.length_nil, Nat.add_zero]
          exact ⟨μ - 1, by omega, k + 1, by omega, rfl, (((hM2.plus []).trim hS4 hB4 _ _ (Nat.zero_le _)).sub (by omega) (fun p hp => List.mem_append_left _ hp)).trim (stay27 ch ch') hN2 _ _ (Nat.zero_le _), hfin⟩
      · rcases List.mem_append.1 hp with hp | hp
        · exact hM.base.plus _ p hp
        · simp only [List.mem_cons, List.not_mem_nil, or_false] at hp
          rcases hp with rfl | rfl
          · rw [plus_get_hi _ (by omega), hN, show N + 10 - N = 10 by omega]; rfl
          · rw [plus_get_hi _ (by omega), hN, show N + 11 - N = 11 by omega]; rfl
    · have hd : decide (t = u) = true := by rw [ho, show t.drop k = [] from List.drop_eq_nil_of_le (by omega), show u.drop k = [] from List.drop_eq_nil_of_le (by omega)]; rfl
      simp -implicitDefEqProofs only [go_sem, ↓reduceIte, Int.reduceEq, Int.reduceLT, Int.reduceLE, List.reduceReplicate, intA, setT_nil, setT_cons, ↓boolP_bool, ↓iteB_true, ↓iteB_false, hr0, hr1, hch.len, hch.cells, ← hall.1, hlt, sizeP hN, settleP0 hN, settleP hN, List.length_nil, Nat.add_zero]
      rw [hd]
  · have hli : ¬ ((t.length : Int) = (u.length : Int)) := by omega
    have hne : decide (t = u) = false := decide_eq_false (fun h => hl (by rw [h]))
    simp -implicitDefEqProofs only [Tryz.f27, go_sem, ↓reduceIte, Int.reduceEq, Int.reduceLT, Int.reduceLE, List.reduceReplicate, intA, setT_nil, setT_cons, ↓boolP_bool, ↓iteB_true, ↓iteB_false, hch.len, hch.cells, hch.flat, hch.bound, hch'.len, hch'.cells, hch'.flat, hch'.bound, ← hall.1, ← hall'.1, hli]
    rw [hne]
end Go.Ev
namespace Go.Ev
open Go.Proofs
set_option maxRecDepth 100000
set_option linter.unusedSimpArgs false
/-! ### how far texts are apart: the laws -/
theorem filter_two {α : Type} (p q r : α → Bool) (hpq : ∀ x, p x = true → q x = true → False) (hp : ∀ x, p x = true → r x = true) (hq : ∀ x, q x = true → r x = true) : ∀ l : List α, (l.filter p).length + (l.filter q).length ≤ (l.filter r).length
  | [] => Nat.le_refl _
  | x :: l => by
    have ih := filter_two p q r hpq hp hq l
    rw [List.filter_cons, List.filter_cons, List.filter_cons]
    cases h1 : p x
    · cases h2 : q x
      · cases h3 : r x <;> simp <;> omega
      · rw [hq x h2]; simp; omega
    · cases h2 : q x
      · rw [hp x h1]; simp; omega
      · exact (hpq x h1 h2).elim
theorem readC_near {t : Txt} {rs : List Rd} (k : Nat) : ∀ (ls : List Line) (n : Nat), (∀ j l, ls[j]? = some l → distL l (refLine l rs k ((n + j : Nat) : Int)) ≤ (ofLn rs k ((n + j : Nat) : Int)).length) →
    apartC ls (ls.mapIdx fun j l => refLine l rs k ((n + j : Nat) : Int)) ≤ (rs.filter fun r : Rd => decide (r.ch = (k : Int) ∧ (n : Int) ≤ r.ln)).length
  | [], _, _ => by rw [apartC]; exact Nat.zero_le _; all_goals (intros; simp at *)
  | l :: ls, n, h => by
    have ih := readC_near (t := t) k ls (n + 1) fun j l' hl => by
      have := h (j + 1) l' (by simpa using hl)
      rwa [show n + (j + 1) = n + 1 + j by omega] at this
    have h0 := h 0 l rfl
    rw [List.mapIdx_cons, apartC]
    have e : (fun (i : Nat) (l : Line) => refLine l rs k ((n + (i + 1) : Nat) : Int)) = fun i l => refLine l rs k ((n + 1 + i : Nat) : Int) := by
      funext i l; rw [show n + (i + 1) = n + 1 + i by omega]
    rw [e]
    have h2 := filter_two (atLine k n 0) (fun r : Rd => decide (r.ch = (k : Int) ∧ ((n + 1 : Nat) : Int) ≤ r.ln)) (fun r : Rd => decide (r.ch = (k : Int) ∧ (n : Int) ≤ r.ln)) (fun x h1 h2 => by rw [atLine_iff] at h1; have := of_decide_eq_true h2; omega) (fun x h1 => by rw [atLine_iff] at h1; exact decide_eq_true (by omega)) (fun x h1 => by have := of_decide_eq_true h1; exact decide_eq_true (by omega)) rs
    unfold ofLn at h0
    rw [Nat.add_zero] at h0 ⊢
    omega
theorem readT_near0 {rs : List Rd} (t0 : Txt) : ∀ (t : Txt) (k : Nat), (∀ (i j : Nat) (c : Chap) (l : Line), t[i]? = some c → c.2[j]? = some l → distL l (refLine l rs ((k + i : Nat) : Int) j) ≤ (ofLn rs ((k + i : Nat) : Int) j).length) →
    apartT t (t.mapIdx fun i c => (c.1, c.2.mapIdx fun j l => refLine l rs ((k + i : Nat) : Int) j)) ≤ (rs.filter fun r : Rd => decide ((k : Int) ≤ r.ch)).length
  | [], _, _ => by rw [apartT]; exact Nat.zero_le _; all_goals (intros; simp at *)
  | c :: t, k, h => by
    have ih := readT_near0 t0 t (k + 1) fun i j c' l' hc hl => by
      have := h (i + 1) j c' l' (by simpa using hc) hl
      rwa [show k + (i + 1) = k + 1 + i by omega] at this
    have h1 := readC_near (t := t0) (rs := rs) k c.2 0 fun j l hl => by
      have := h 0 j c l rfl hl
      rwa [Nat.add_zero, ← Nat.zero_add j] at this
    rw [List.mapIdx_cons, apartT]
    have e : (fun (i : Nat) (c : Chap) => (c.1, c.2.mapIdx fun j l => refLine l rs ((k + (i + 1) : Nat) : Int) j)) = fun i c => (c.1, c.2.mapIdx fun j l => refLine l rs ((k + 1 + i : Nat) : Int) j) := by
      funext i c; rw [show k + (i + 1) = k + 1 + i by omega]
    have e2 : (fun (j : Nat) (l : Line) => refLine l rs k ((0 + j : Nat) : Int)) = fun (j : Nat) l => refLine l rs k (j : Int) := by
      funext j l; rw [Nat.zero_add]
    rw [e2] at h1
    rw [e, Nat.add_zero]
    have h2 := filter_two (fun r : Rd => decide (r.ch = (k : Int) ∧ ((0 : Nat) : Int) ≤ r.ln)) (fun r : Rd => decide (((k + 1 : Nat) : Int) ≤ r.ch)) (fun r : Rd => decide ((k : Int) ≤ r.ch)) (fun x h1 h2 => by have := of_decide_eq_true h1; have := of_decide_eq_true h2; omega) (fun x h1 => by have := of_decide_eq_true h1; exact decide_eq_true (by omega)) (fun x h1 => by have := of_decide_eq_true h1; exact decide_eq_true (by omega)) rs
    simp only at h2 ⊢
    omega
theorem readT_near {t : Txt} (hs : Small t) {rs : List Rd} (hc : Cpy t rs) : apartT t (readT t rs) ≤ rs.length := by
  have h := readT_near0 (rs := rs) t t 0 fun i j c l h1 h2 => by
    have hLA := lineAt_nat h1 h2
    rw [Nat.zero_add, hc.line hLA (hs.ne hLA)]
    exact dist_read (hc.rdsOk hLA)
  have e : (fun (i : Nat) (c : Chap) => (c.1, c.2.mapIdx fun j l => refLine l rs ((0 + i : Nat) : Int) j)) = fun i c => (c.1, c.2.mapIdx fun j l => refLine l rs (i : Int) j) := by
    funext i c; rw [Nat.zero_add]
  rw [e] at h
  exact Nat.le_trans h (List.length_filter_le _ _)
theorem readT_shape (t : Txt) (rs : List Rd) : shapeT (readT t rs) = shapeT t := by
  apply List.ext_getElem?
  intro i
  unfold shapeT readT
  rw [List.getElem?_map, List.getElem?_map, List.getElem?_mapIdx]
  cases t[i]? <;> simp
end Go.Ev
namespace Go.Ev
open Go.Proofs
set_option maxRecDepth 1000000
def extWord : List AV → Option AV
  | [.v (.string s)] => if s.size < 1000 then some (.v (.bool (wordB s))) else none
  | _ => none
def e0 : Exts := moreExt (fun _ => none) 91 cmpStr
def e1 : Exts := moreExt e0 49 extWord
theorem quiet0 : Quiet e0 := by
  intro f h1 h2
  unfold e0 moreExt
  rw [if_neg]
  intro h; exact h2 (Nat.eq_of_beq_eq_true h)
theorem mixed (e : Exts) : (Cx e).P.follows .mixedOrders = true := by show Tryz.prog.follows .mixedOrders = true; kernel_rfl
theorem nogo_all : (Tryz.prog.funcs.toList.all fun fn => !(fn.body.isSome && (fn.name == "runtime.NumGoroutine"))) = true := by kernel_rfl
theorem nogo (e : Exts) : NoGo (Cx e).P := by
  intro f fn hf hb
  have h := List.all_eq_true.1 nogo_all fn (by
    have : Tryz.prog.funcs[f]? = some fn := hf
    exact List.mem_of_getElem? (by simpa using this))
  rw [hb] at h
  simpa using h
theorem extOK_none : ExtOK (Cx fun _ => none) := by
  intro f g h; cases h
theorem extOK0 : ExtOK (Cx e0) := by
  refine extOK_more (C := Cx fun _ => none) (f := 91) (g := cmpStr) rfl ?_ extOK_none rfl
  intro args v h Z ρ H w vals hs hl
  exact ext_cmp (fn := Tryz.f91) Tryz.func91 (by kernel_rfl) (by kernel_rfl) (by kernel_rfl) (by kernel_rfl) h Z ρ H w vals hs hl
theorem extOK1 : ExtOK (Cx e1) := by
  refine extOK_more (C := Cx e0) (f := 49) (g := extWord) rfl ?_ extOK0 rfl
  intro args v h Z ρ H w vals hs hl
  unfold extWord at h
  split at h
  · rename_i s
    split at h
    · rename_i hsz
      simp only [Option.some.injEq] at h
      subst h
      exact ext_of_ans (nogo e0) (mixed e0) extOK0 (ans49 quiet0 s (by omega)) rfl Z ρ H w vals hs hl
    · cases h
  · cases h
def ansV (o : Option Out) : Option AV := match o with | some (.ret v H) => freezeV { H with lock := 0 } 1000000 v | _ => none
theorem ans_of_ev {C : Cfg} {n : Nat} {f : FuncId} {args : List AV} {v : AV} (h : ansV (evT C n (.call f args { objs := [], lock := 0 })) = some v) : Ans C f args v := by
  refine Ans.iff.2 ?_
  cases ho : evT C n (.call f args { objs := [], lock := 0 }) with
  | none => rw [ho] at h; cases h
  | some o =>
    rw [ho] at h
    cases o with
    | go => cases h
    | ret x H => exact ⟨x, H, lim_iff.2 ⟨n, ho⟩, h⟩
/-! ### the chapter's examples -/
def strA (s : List UInt8) : AV := .v (.string ⟨⟨s⟩⟩)
def wThe := strA [116,104,101]
def wSea := strA [115,101,97]
def wIs := strA [105,115]
def wOld := strA [111,108,100]
def wAnd := strA [97,110,100]
def wCold := strA [99,111,108,100]
def wSalt := strA [115,97,108,116]
def slN (n : Nat) (l : List AV) : AV := .vs n l none
def at3 (a b c : Int) : AV := .agg [intA a, intA b, intA c]
def rdA (a b c : Int) (k : Int) (w : AV) : AV := .agg [intA a, intA b, intA c, .v (.int .u8 k), w]
def seaV : AV := .agg [slN 2 [.agg [intA 7, slN 1 [slN 1 [wThe, wSea, wIs, wOld], slN 1 [wOld, wThe, wSea]]], .agg [intA 3, slN 1 [slN 1 [wSea, wAnd, wSea]]]]]
def saltV : AV := .agg [intA 4, slN 5 [rdA 0 0 3 3 wCold, rdA 0 1 1 1 (strA []), rdA 1 0 3 2 wSalt]]
def wantV : AV := .agg [slN 2 [.agg [intA 7, slN 1 [slN 1 [wThe, wSea, wIs, wCold], slN 1 [wOld, wSea]]], .agg [intA 3, slN 1 [slN 1 [wSea, wAnd, wSea, wSalt]]]]]
def h0 : Heap := { objs := [], lock := 0 }
end Go.Ev
namespace Go.Ev
open Go.Proofs
set_option maxRecDepth 1000000
theorem a_words : Ans (Cx e1) 14 [seaV] (.tup [intA 10, intA 0]) := ans_of_ev (n := 1000) (by kernel_rfl)
end Go.Ev
namespace Go.Ev
open Go.Proofs
set_option maxRecDepth 1000000
theorem a_at : Ans (Cx e1) 19 [seaV, at3 0 1 0] (.tup [wOld, intA 0]) := ans_of_ev (n := 1000) (by kernel_rfl)
end Go.Ev
namespace Go.Ev
open Go.Proofs
set_option maxRecDepth 1000000
theorem a_placeOf : Ans (Cx e1) 15 [seaV, intA 6] (.tup [at3 0 1 2, intA 0]) := ans_of_ev (n := 1000) (by kernel_rfl)
end Go.Ev
namespace Go.Ev
open Go.Proofs
set_option maxRecDepth 1000000
theorem a_places : Ans (Cx e1) 21 [seaV, wSea] (.tup [slN 3 [at3 0 0 1, at3 0 1 2, at3 1 0 0, at3 1 0 2], intA 0]) := ans_of_ev (n := 1000) (by kernel_rfl)
end Go.Ev
namespace Go.Ev
open Go.Proofs
set_option maxRecDepth 1000000
theorem a_vocab : Ans (Cx e1) 20 [seaV] (.tup [slN 1 [wAnd, wIs, wOld, wSea, wThe], intA 0]) := ans_of_ev (n := 1000) (by kernel_rfl)
end Go.Ev
namespace Go.Ev
open Go.Proofs
set_option maxRecDepth 1000000
theorem a_read : Ans (Cx e1) 25 [seaV, saltV] (.tup [wantV, intA 0]) := ans_of_ev (n := 1000) (by kernel_rfl)
end Go.Ev
namespace Go.Ev
open Go.Proofs
set_option maxRecDepth 1000000
theorem a_doubt : Ans (Cx e1) 32 [seaV, .vs 2 [saltV] (some 1)] (.tup [slN 3 [at3 0 0 3, at3 0 1 1], intA 0]) := ans_of_ev (n := 1000) (by kernel_rfl)
end Go.Ev
namespace Go.Ev
def tab0 : List Int := [1, 2, 3, 4, 4, 21, 21, 21, 21, 21, 21, 21, 2, 1, 2, 3, 3, 21, 21, 21, 21, 21, 21, 21, 3, 2, 1, 2, 2, 21, 21, 21, 21, 21, 21, 21, 4, 3, 2, 1, 1, 21, 21, 21, 21, 21, 21, 21, 4, 3, 2, 1, 0, 21, 21, 21, 21, 21, 21, 21, 21, 21, 21, 21, 21, 21, 21, 21, 21, 21, 21, 21, 21, 21, 21, 21, 21, 21, 21, 21, 21, 21, 21, 21, 21, 21, 21, 21, 21, 21, 21, 21, 21, 21, 21, 21, 21, 21, 21, 21, 21, 21, 21, 21, 21, 21, 21, 21, 21, 21, 21, 21, 21, 21, 21, 21, 21, 21, 21, 21, 21, 21, 21, 21, 21, 21, 21, 21, 21, 21, 21, 21, 21, 21, 21, 21, 21, 21, 21, 21, 21, 21, 21, 21]
def pair0 : AV := .agg (slN 1 [wThe, wSea, wIs, wOld] :: slN 1 [wThe, wSea, wIs, wCold] :: tab0.map intA)
def tab1 : List Int := [1, 2, 3, 21, 21, 21, 21, 21, 21, 21, 21, 21, 1, 1, 2, 21, 21, 21, 21, 21, 21, 21, 21, 21, 1, 0, 1, 21, 21, 21, 21, 21, 21, 21, 21, 21, 2, 1, 0, 21, 21, 21, 21, 21, 21, 21, 21, 21, 21, 21, 21, 21, 21, 21, 21, 21, 21, 21, 21, 21, 21, 21, 21, 21, 21, 21, 21, 21, 21, 21, 21, 21, 21, 21, 21, 21, 21, 21, 21, 21, 21, 21, 21, 21, 21, 21, 21, 21, 21, 21, 21, 21, 21, 21, 21, 21, 21, 21, 21, 21, 21, 21, 21, 21, 21, 21, 21, 21, 21, 21, 21, 21, 21, 21, 21, 21, 21, 21, 21, 21, 21, 21, 21, 21, 21, 21, 21, 21, 21, 21, 21, 21, 21, 21, 21, 21, 21, 21, 21, 21, 21, 21, 21, 21]
def pair1 : AV := .agg (slN 1 [wOld, wThe, wSea] :: slN 1 [wOld, wSea] :: tab1.map intA)
def tab2 : List Int := [1, 2, 2, 3, 3, 21, 21, 21, 21, 21, 21, 21, 2, 1, 2, 2, 2, 21, 21, 21, 21, 21, 21, 21, 3, 2, 1, 1, 1, 21, 21, 21, 21, 21, 21, 21, 4, 3, 2, 1, 0, 21, 21, 21, 21, 21, 21, 21, 21, 21, 21, 21, 21, 21, 21, 21, 21, 21, 21, 21, 21, 21, 21, 21, 21, 21, 21, 21, 21, 21, 21, 21, 21, 21, 21, 21, 21, 21, 21, 21, 21, 21, 21, 21, 21, 21, 21, 21, 21, 21, 21, 21, 21, 21, 21, 21, 21, 21, 21, 21, 21, 21, 21, 21, 21, 21, 21, 21, 21, 21, 21, 21, 21, 21, 21, 21, 21, 21, 21, 21, 21, 21, 21, 21, 21, 21, 21, 21, 21, 21, 21, 21, 21, 21, 21, 21, 21, 21, 21, 21, 21, 21, 21, 21]
def pair2 : AV := .agg (slN 1 [wSea, wAnd, wSea] :: slN 1 [wSea, wAnd, wSea, wSalt] :: tab2.map intA)
end Go.Ev
namespace Go.Ev
open Go.Proofs
set_option maxRecDepth 1000000
theorem a_pair0 : Ans (Cx e1) 73 [slN 1 [wThe, wSea, wIs, wOld], slN 1 [wThe, wSea, wIs, wCold]] pair0 := ans_of_ev (n := 1000) (by kernel_rfl)
end Go.Ev
namespace Go.Ev
open Go.Proofs
set_option maxRecDepth 1000000
theorem a_pair1 : Ans (Cx e1) 73 [slN 1 [wOld, wThe, wSea], slN 1 [wOld, wSea]] pair1 := ans_of_ev (n := 1000) (by kernel_rfl)
end Go.Ev
namespace Go.Ev
open Go.Proofs
set_option maxRecDepth 1000000
theorem a_pair2 : Ans (Cx e1) 73 [slN 1 [wSea, wAnd, wSea], slN 1 [wSea, wAnd, wSea, wSalt]] pair2 := ans_of_ev (n := 1000) (by kernel_rfl)
end Go.Ev
namespace Go.Ev
open Go.Proofs
set_option maxRecDepth 1000000
def gPair : List AV → Option AV := fun args =>
  match atArgs [slN 1 [wThe, wSea, wIs, wOld], slN 1 [wThe, wSea, wIs, wCold]] pair0 args with
  | some r => some r
  | none => match atArgs [slN 1 [wOld, wThe, wSea], slN 1 [wOld, wSea]] pair1 args with
    | some r => some r
    | none => atArgs [slN 1 [wSea, wAnd, wSea], slN 1 [wSea, wAnd, wSea, wSalt]] pair2 args
def e2 : Exts := moreExt e1 73 gPair
theorem extOK2 : ExtOK (Cx e2) := by
  refine extOK_more (C := Cx e1) (f := 73) (g := gPair) rfl ?_ extOK1 rfl
  intro args v h Z ρ H w vals hs hl
  have key : Ans (Cx e1) 73 args v ∧ boundL args = 0 := by
    unfold gPair at h
    split at h
    · rename_i r h1; cases h; obtain ⟨rfl, rfl⟩ := atArgs_some h1; exact ⟨a_pair0, rfl⟩
    · split at h
      · rename_i r h1; cases h; obtain ⟨rfl, rfl⟩ := atArgs_some h1; exact ⟨a_pair1, rfl⟩
      · obtain ⟨rfl, rfl⟩ := atArgs_some h; exact ⟨a_pair2, rfl⟩
  exact ext_of_ans (nogo e1) (mixed e1) extOK1 key.1 key.2 Z ρ H w vals hs hl
theorem a_find : Ans (Cx e2) 22 [seaV, wantV, intA 4] (.tup [saltV, intA 0]) := ans_of_ev (n := 1000) (by kernel_rfl)
end Go.Ev
namespace Go.Ev
open Go.Proofs
set_option maxRecDepth 1000000
theorem ext_one {e : Exts} (hx : ExtOK (Cx e)) {C : Cfg} (_hC : C.P = (Cx e).P) {e' : Exts} (hx' : ExtOK (Cx e')) {f : FuncId} {K : List AV} {R : AV} (h : Ans (Cx e) f K R) (hb : boundL K = 0) : ExtOK (Cx (moreExt e' f (atArgs K R))) := by
  refine extOK_more (C := Cx e') (f := f) (g := atArgs K R) rfl ?_ hx' rfl
  intro args v hv Z ρ H w vals hs hl
  obtain ⟨rfl, rfl⟩ := atArgs_some hv
  exact ext_of_ans (nogo e) (mixed e) hx h hb Z ρ H w vals hs hl
def e3 : Exts := moreExt (moreExt (moreExt (moreExt (moreExt (moreExt (moreExt (moreExt e1
  14 (atArgs [seaV] (.tup [intA 10, intA 0])))
  19 (atArgs [seaV, at3 0 1 0] (.tup [wOld, intA 0])))
  15 (atArgs [seaV, intA 6] (.tup [at3 0 1 2, intA 0])))
  21 (atArgs [seaV, wSea] (.tup [slN 3 [at3 0 0 1, at3 0 1 2, at3 1 0 0, at3 1 0 2], intA 0])))
  20 (atArgs [seaV] (.tup [slN 1 [wAnd, wIs, wOld, wSea, wThe], intA 0])))
  25 (atArgs [seaV, saltV] (.tup [wantV, intA 0])))
  22 (atArgs [seaV, wantV, intA 4] (.tup [saltV, intA 0])))
  32 (atArgs [seaV, .vs 2 [saltV] (some 1)] (.tup [slN 3 [at3 0 0 3, at3 0 1 1], intA 0]))
theorem extOK3 : ExtOK (Cx e3) := by
  unfold e3
  refine ext_one extOK1 (C := Cx e1) rfl ?_ a_doubt rfl
  refine ext_one extOK2 (C := Cx e1) rfl ?_ a_find rfl
  refine ext_one extOK1 (C := Cx e1) rfl ?_ a_read rfl
  refine ext_one extOK1 (C := Cx e1) rfl ?_ a_vocab rfl
  refine ext_one extOK1 (C := Cx e1) rfl ?_ a_places rfl
  refine ext_one extOK1 (C := Cx e1) rfl ?_ a_placeOf rfl
  refine ext_one extOK1 (C := Cx e1) rfl ?_ a_at rfl
  refine ext_one extOK1 (C := Cx e1) rfl ?_ a_words rfl
  exact extOK1
theorem a_alive : Ans (Cx e3) 12 [] (.v (.bool true)) := ans_of_ev (n := 1000) (by kernel_rfl)
end Go.Ev
namespace Go.Ev
open Go.Proofs
set_option maxRecDepth 100000
set_option linter.unusedSimpArgs false
/-! ### the configuration of a law -/
def eA : Exts := moreExt e0 12 (atArgs [] (.v (.bool true)))
theorem extOKA : ExtOK (Cx eA) := by
  refine extOK_more (C := Cx e0) (f := 12) (g := atArgs [] (.v (.bool true))) rfl ?_ extOK0 rfl
  intro args v hv Z ρ H w vals hs hl
  obtain ⟨rfl, rfl⟩ := atArgs_some hv
  exact ext_of_ans (nogo e3) (mixed e3) extOK3 a_alive rfl Z ρ H w vals hs hl
theorem quietA : Quiet eA := by
  intro f h1 h2
  unfold eA moreExt
  rw [if_neg (fun h => h1 (Nat.eq_of_beq_eq_true h))]
  exact quiet0 f h1 h2
theorem eA12 : eA 12 = some (atArgs [] (.v (.bool true))) := rfl
end Go.Ev
namespace Go.Ev
open Go.Proofs
set_option maxRecDepth 100000
set_option linter.unusedSimpArgs false
/-! ### from arguments of plain data to copies -/
theorem map_of {α β : Type} {f : α → β} {Q : α → Prop} : ∀ (xs : List β), (∀ y ∈ xs, ∃ r, y = f r ∧ Q r) → ∃ l : List α, xs = l.map f ∧ ∀ r ∈ l, Q r
  | [], _ => ⟨[], rfl, fun r h => nomatch h⟩
  | y :: xs, h => by
    obtain ⟨r, rfl, hr⟩ := h y (List.mem_cons_self ..)
    obtain ⟨l, rfl, hl⟩ := map_of xs fun z hz => h z (List.mem_cons_of_mem _ hz)
    exact ⟨r :: l, rfl, fun q hq => (List.mem_cons.1 hq).elim (fun e => e ▸ hr) (hl q)⟩
theorem cells3 {l : List AV} (h : l.length = 3) : ∃ a b c, l = [a, b, c] := by
  match l, h with
  | [a, b, c], _ => exact ⟨a, b, c, rfl⟩
theorem cells5 {l : List AV} (h : l.length = 5) : ∃ a b c d e, l = [a, b, c, d, e] := by
  match l, h with
  | [a, b, c, d, e], _ => exact ⟨a, b, c, d, e, rfl⟩
theorem place_of {N : Nat} {cs : List AV} (h : Plain Tryz.prog (N + 2) 32 cs) : ∃ a b c, cs = [intA a, intA b, intA c] := by
  obtain ⟨hl, hf⟩ := plain_struct (l := [(0, 3), (1, 3), (2, 3)]) (by kernel_rfl) (by kernel_rfl) h
  obtain ⟨a, b, c, rfl⟩ := cells3 (hl.trans (by kernel_rfl))
  have h0 := hf (0, 3) (by simp)
  have h1 := hf (1, 3) (by simp)
  have h2 := hf (2, 3) (by simp)
  have e0 : Tryz.prog.cellsOf 3 = 1 := by kernel_rfl
  simp only [e0, List.drop_zero, List.drop_succ_cons, List.take_succ_cons, List.take_zero] at h0 h1 h2
  obtain ⟨m, hm, -⟩ := plain_int (by kernel_rfl : Tryz.prog.underlying 3 = some (.int .i64)) h0
  obtain ⟨n, hn, -⟩ := plain_int (by kernel_rfl : Tryz.prog.underlying 3 = some (.int .i64)) h1
  obtain ⟨k, hk, -⟩ := plain_int (by kernel_rfl : Tryz.prog.underlying 3 = some (.int .i64)) h2
  simp only [List.cons.injEq, and_true] at hm hn hk
  exact ⟨m, n, k, by rw [hm, hn, hk]; rfl⟩
theorem u8_wf {m : Int} (h : (Lit.int .u8 m).wf = true) : 0 ≤ m ∧ m < 256 := by
  have h2 : (decide (IntKind.u8.min ≤ m) && decide (m ≤ IntKind.u8.max)) = true := h
  have e1 : IntKind.u8.min = 0 := by decide
  have e2 : IntKind.u8.max = 255 := by decide
  rw [e1, e2] at h2
  simp at h2; omega
theorem rd_of {N : Nat} {cs : List AV} (h : Plain Tryz.prog (N + 3) 65 cs) : ∃ r, AV.agg cs = rdV r ∧ RdF r := by
  obtain ⟨hl, hf⟩ := plain_struct (l := [(0, 32), (3, 5), (4, 9)]) (by kernel_rfl) (by kernel_rfl) h
  obtain ⟨a, b, c, d, e, rfl⟩ := cells5 (hl.trans (by kernel_rfl))
  have h0 := hf (0, 32) (by simp)
  have h1 := hf (3, 5) (by simp)
  have h2 := hf (4, 9) (by simp)
  have e0 : Tryz.prog.cellsOf 32 = 3 := by kernel_rfl
  have e1 : Tryz.prog.cellsOf 5 = 1 := by kernel_rfl
  have e2 : Tryz.prog.cellsOf 9 = 1 := by kernel_rfl
  simp only [e0, e1, e2, List.drop_zero, List.drop_succ_cons, List.take_succ_cons, List.take_zero] at h0 h1 h2
  obtain ⟨x, y, z, hp⟩ := place_of h0
  obtain ⟨m, hm, hw⟩ := plain_int (by kernel_rfl : Tryz.prog.underlying 5 = some (.int .u8)) h1
  obtain ⟨s, hs, hsz⟩ := plain_string (by kernel_rfl : Tryz.prog.underlying 9 = some .string) h2
  simp only [List.cons.injEq, and_true] at hp hm hs
  obtain ⟨rfl, rfl, rfl⟩ := hp
  subst hm hs
  have := u8_wf hw
  have hml := maxLen_lt
  exact ⟨⟨x, y, z, m, s⟩, rfl, ⟨this.1, this.2, by show s.size < _; omega⟩⟩
theorem copy_of {N : Nat} {x : AV} (h : Arg Tryz.prog (N + 5) 53 x) : ∃ id rs y, x = .agg [intA id, y] ∧ RdsA rs y ∧ ∀ r ∈ rs, RdF r := by
  obtain ⟨A, rfl, hp⟩ := arg_struct (by kernel_rfl) h
  obtain ⟨hl, hf⟩ := plain_struct (l := [(0, 3), (1, 51)]) (by kernel_rfl) (by kernel_rfl) hp
  obtain ⟨a, b, rfl⟩ := two_cells (hl.trans (by kernel_rfl))
  have h0 := hf (0, 3) (by simp)
  have h1 := hf (1, 51) (by simp)
  have e0 : Tryz.prog.cellsOf 3 = 1 := by kernel_rfl
  have e1 : Tryz.prog.cellsOf 51 = 1 := by kernel_rfl
  simp only [e0, e1, List.drop_zero, List.drop_succ_cons, List.take_succ_cons, List.take_zero] at h0 h1
  obtain ⟨m, hm, -⟩ := plain_int (by kernel_rfl : Tryz.prog.underlying 3 = some (.int .i64)) h0
  obtain ⟨y, xs, hy, hsl, hlen, hxs⟩ := plain_slice (c := 5) (by kernel_rfl : Tryz.prog.underlying 51 = some (.slice 65)) (by kernel_rfl) h1
  simp only [List.cons.injEq, and_true] at hm hy
  subst hm
  have key : ∀ z ∈ xs, ∃ r, z = rdV r ∧ RdF r := by
    intro z hz
    obtain ⟨d, rfl, hd5, hd⟩ := hxs z hz
    obtain ⟨a1, a2, a3, a4, a5, rfl⟩ := cells5 hd5
    exact rd_of hd
  obtain ⟨rs, rfl, hrs⟩ := map_of xs key
  exact ⟨m, rs, b, rfl, by rw [hy]; exact hsl, hrs⟩
end Go.Ev
namespace Go.Ev
open Go.Proofs
set_option maxRecDepth 100000
set_option linter.unusedSimpArgs false
attribute [local irreducible] Wp WpS
theorem okFrom_iff (t : Txt) : ∀ (l : Txt) (j : Nat), okFrom t j l = true ↔ ∀ (i : Nat) (c : Chap), l[i]? = some c → condC t (j + i) c = true
  | [], j => by simp [okFrom]
  | x :: l, j => by
    unfold okFrom
    rw [Bool.and_eq_true, okFrom_iff t l (j + 1)]
    constructor
    · rintro ⟨h1, h2⟩ i c hc
      cases i with
      | zero => simp at hc; subst hc; exact h1
      | succ i => rw [show j + (i + 1) = j + 1 + i by omega]; exact h2 i c (by simpa using hc)
    · intro h
      exact ⟨h 0 x rfl, fun i c hc => by rw [show j + 1 + i = j + (i + 1) by omega]; exact h (i + 1) c (by simpa using hc)⟩
theorem idB_map (t : Txt) (id : Int) (n : Nat) : idB t id 0 n = ((t.map (·.1)).take n).any fun x => decide (x = id) := by
  unfold idB
  rw [List.drop_zero, ← List.map_take, List.any_map]; rfl
theorem readT_ids (t : Txt) (rs : List Rd) : (readT t rs).map (·.1) = t.map (·.1) := by
  apply List.ext_getElem?
  intro i
  unfold readT
  rw [List.getElem?_map, List.getElem?_map, List.getElem?_mapIdx]
  cases t[i]? <;> simp
theorem Right.text {t : Txt} {id : Int} {rs : List Rd} (h : Right t id rs) (ht : textB t = true) : textB (readT t rs) = true := by
  have hs := small_of ht
  have hs2 := h.small hs
  unfold textB at ht ⊢
  rw [Bool.and_eq_true] at ht ⊢
  have hl : (readT t rs).length = t.length := by unfold readT; rw [List.length_mapIdx]
  refine ⟨by rw [hl]; exact ht.1, (okFrom_iff _ _ _).2 fun i c hc => ?_⟩
  have hil : i < t.length := by rw [← hl]; exact (List.getElem?_eq_some_iff.1 hc).1
  obtain ⟨c0, hc0⟩ := at_lt t i hil
  have h0 := (okFrom_iff t t 0).1 ht.2 i c0 hc0
  have hcm := List.mem_of_getElem? hc
  rw [readT_get hc0] at hc
  have hid : c.1 = c0.1 := by cases hc; rfl
  have hlen : c.2.length = c0.2.length := by cases hc; simp
  unfold condC at h0 ⊢
  simp only [Bool.and_eq_true] at h0 ⊢
  obtain ⟨⟨⟨e1, e2⟩, e3⟩, e4⟩ := h0
  rw [Nat.zero_add] at e3 ⊢
  refine ⟨⟨⟨by rw [hid]; exact e1, by rw [hlen]; exact e2⟩, by rw [hid, idB_map, readT_ids, ← idB_map]; exact e3⟩, List.all_eq_true.2 fun l hl => ?_⟩
  unfold lineB
  have hw := hs2.words c hcm l hl
  rw [Bool.and_eq_true]
  refine ⟨?_, List.all_eq_true.2 fun s hm => hs2.word c hcm l hl s hm⟩
  unfold withinB
  simp only [List.all_cons, List.all_nil, Bool.and_true, Bool.and_eq_true, decide_eq_true_eq]; omega
theorem call23 {e : Exts} (he : Quiet e) {t u : Txt} (ht : Fits t) (hu : Fits u) {ch ch' : AV} {xs xs' : List AV} (hch : SlOf 2 xs ch) (hall : All2 ChapA t xs) (hch' : SlOf 2 xs' ch') (hall' : All2 ChapA u xs') (h1 : textB t = true) (h2 : textB u = true) (h3 : alikeB t u = true) (me : FuncId) (d : Option Tmp) (H : Heap) : callA (Cx e) (lim (Cx e)) me 23 d [.agg [ch], .agg [ch']] H = some (.tup [.v (.int .i64 (apartT t u)), .v (.int .i64 0)], H) :=
  (ans23 he t u ht hu ch ch' xs xs' hch hall hch' hall' h1 h2 h3).call (ext_23 he) (pure_23 _ _ _) (by simp only [boundL_cons, bound_agg, hch.bound, hch'.bound, boundL_nil]; rfl) H
theorem call27 {e : Exts} (he : Quiet e) {t u : Txt} (ht : Fits t) (hu : Fits u) {ch ch' : AV} {xs xs' : List AV} (hch : SlOf 2 xs ch) (hall : All2 ChapA t xs) (hch' : SlOf 2 xs' ch') (hall' : All2 ChapA u xs') (me : FuncId) (d : Option Tmp) (H : Heap) : callA (Cx e) (lim (Cx e)) me 27 d [.agg [ch], .agg [ch']] H = some (.v (.bool (decide (t = u))), H) :=
  (ans27 he t u ht hu ch ch' xs xs' hch hall hch' hall').call (ext_27 he) (pure_27 _ _ _) (by simp only [boundL_cons, bound_agg, hch.bound, hch'.bound, boundL_nil]; rfl) H
theorem ready_text {t : Txt} (h : readyB t = true) : textB t = true := by unfold readyB at h; simp only [Bool.and_eq_true] at h; exact h.2
end Go.Ev
/- The same, of functions that look at memory of their caller's. -/
namespace Go.Ev
def Yields2F (C : Cfg) (f : FuncId) (cap : List AV) (items : List (List AV)) (F : Heap → Prop) : Prop :=
  ∀ (l : Nat) (S : Type) (R : S → Fm → Prop) (stp : S → List AV → Bool × S) (ok : S → List AV → Prop) (live : S → Prop) (n0 k : Nat), Src2 C l S R stp ok live n0 k → (∀ s m H, R s m → Has m H → H.lock = k → F H) →
    ∀ s m H, okRun stp ok items s → live s → R s m → Has m H → H.lock = k → n0 ≤ H.size → ∃ H' m', lim C (.call f ([.yld l] ++ cap) H) = some (.ret (.tup []) H') ∧ R (runIt stp items s).2 m' ∧ Has m' H' ∧ Moves m H m' H'
section
variable {C : Cfg} {me : FuncId} {S : Type} {R : S → Fm → Prop} {stp : S → List AV → AExit × S} {lv : S → Prop} {ok : S → List AV → Prop} {n0 k d : Nat}
theorem wp_range2F {F : Heap → Prop} {f : FuncId} {cap : List AV} {items : List (List AV)} (hy : Yields2F C f cap items F) {g : Operand} {ps : Array Tmp} {asg body : Code} {a : AAct} {H : Heap} {K : Post} (hg : a.eval g = some (.fn (.func f) [] cap))
    (R : S → Fm → Prop) (stp : S → List AV → AExit × S) (lv : S → Prop) (ok : S → List AV → Prop) {n0 k : Nat} (hn0 : n0 ≤ H.size) (hk : k ≤ H.size) (hlen : ∀ x ∈ items, x.length = ps.size)
    (hF : ∀ s m H, R s m → Has m H → H.lock = k → F H) (hanch : ∀ s m, R s m → Anch n0 m) (hdm : ∀ s m, R s m → ¬ keyIn H.size m ∧ ¬ keyIn (H.size + 1) m)
    (hlv : ∀ s x, lv s → ok s x → (stp s x).1 = .normal → lv (stp s x).2)
    (hbody : ∀ (L L' : ALoop) s m x H', L'.dfr = H.size → lv s → ok s x → x.length = ps.size → R s m → Has m H' → H'.get H.size = some .dfr → loopObj H' (H.size + 1) = some L → H'.lock = k → H.size + 2 ≤ H'.size →
      Wp C me (some (H.size + 1)) asg ⟨a.size, setTmps a.size a.tmps (ps.toList.zip x), []⟩ H' (as2K C me R H.size body L L' m H' (stp s x)))
    (s0 : S) (m0 : Fm) (hok : okRun (fun s x => (isGo (stp s x).1, (stp s x).2)) ok items s0) (h0 : lv s0) (hR0 : R s0 m0) (hH0 : Has m0 H) (hlk : H.lock = k)
    (hK : ∀ m' H', R (foldE stp items s0).2 m' → Has m' H' → H'.get H.size = some .dfr → H'.get (H.size + 1) = some .dead → Moves m0 H ((H.size + 1, .dead) :: m') H' → H.size + 2 ≤ H'.size → AtK K (foldE stp items s0).1 ⟨a.size, a.tmps, H.size :: a.marks⟩ H') :
    Wp C me none (.rangeFunc g ps asg body) a H K := by
  generalize hd : H.size = d at *
  have hsrc := src2_range (C := C) (me := me) (R := R) (stp := stp) (lv := lv) (ok := ok) (sz := a.size) (ts := a.tmps) (ps := ps) (asg := asg) (body := body) hn0 hk hanch hdm hlv hbody
  have hbeg : (H.put d .dfr).put (d + 1) (.loop (busyL me a.size a.tmps ps asg body d .ready none)) = H.plus [some .dfr, some (.loop (busyL me a.size a.tmps ps asg body d .ready none))] := by
    have h1 : H.put d .dfr = H.plus [some .dfr] := by rw [← hd]; exact put_push _
    rw [h1]
    exact plus_put_end hd [some .dfr] (.loop (busyL me a.size a.tmps ps asg body d .ready none))
  generalize hHb : H.plus [some AObj.dfr, some (.loop (busyL me a.size a.tmps ps asg body d .ready none))] = Hb at hbeg
  have hsb : Hb.size = d + 2 := by rw [← hHb, plus_size, hd]; rfl
  have hg0 : Hb.get d = some .dfr := by
    rw [← hHb]; exact plus_mid_get hd [] _ _
  have hg1 : Hb.get (d + 1) = some (.loop (busyL me a.size a.tmps ps asg body d .ready none)) := by
    rw [← hHb]; exact plus_mid_get hd [some .dfr] [] _
  have hHasB : Has ((d, .dfr) :: (d + 1, .loop (busyL me a.size a.tmps ps asg body d .ready none)) :: m0) Hb := by
    intro p hp
    rcases List.mem_cons.1 hp with rfl | hp
    · exact hg0
    · rcases List.mem_cons.1 hp with rfl | hp
      · exact hg1
      · rw [← hHb]; exact hH0.plus _ p hp
  obtain ⟨H1, m1, hc1, ⟨m', hm', rfl⟩, hH1, hmv⟩ := hy (d + 1) (S × AExit) _ _ _ _ _ _ hsrc (fun q m' H hq hH hl => by obtain ⟨m, hm, rfl⟩ := hq; exact hF q.1 m H hm (fun p hp => hH p (List.mem_cons_of_mem _ (List.mem_cons_of_mem _ hp))) hl) (s0, .normal) _ Hb (okRun_q items s0 .normal hok hlen) ⟨h0, rfl⟩ ⟨m0, hR0, rfl⟩ hHasB (by rw [← hHb]; exact hlk) (by omega)
  have hanch1 := hsrc.anch _ _ ⟨m', hm', rfl⟩
  rw [run_range] at hm' hH1 hmv hanch1
  simp only at hm' hH1 hmv hanch1
  generalize hp : foldE stp items s0 = p at *
  have hcb := callB_yld (C := C) (me := me) (d := none) (l := d + 1) (by simp) hc1
  have hH2 := hH1.trim hanch1 (Nat.le_of_eq hsb.symm) [AV.tup []] []
  have hmv2 := hmv.trim [AV.tup []] [] (n := Hb.size) rfl
  generalize hT : H1.trim Hb.size [AV.tup []] [] = H2 at *
  have hl2 : H2.get (d + 1) = some (.loop (busyL me a.size a.tmps ps asg body d (stateOf p.1) (pend p.1))) := hH2 (d + 1, _) (by simp)
  have hd2 : H2.get d = some .dfr := hH2 (d, _) (by simp)
  have hs2 : d + 2 ≤ H2.size := by have := hmv2.size; omega
  have hfin : AtK K p.1 ⟨a.size, a.tmps, d :: a.marks⟩ (H2.put (d + 1) .dead) := by
    have hmd := hdm _ _ hm'
    refine hK m' (H2.put (d + 1) .dead) hm' ?_ ?_ ?_ ?_ ?_
    · intro q hq
      rw [put_get_ne _ (by omega) (fun e => hmd.2 ⟨q, hq, e⟩)]
      exact hH2 q (List.mem_cons_of_mem _ (List.mem_cons_of_mem _ hq))
    · rw [put_get_ne _ (by omega) (by omega)]; exact hd2
    · exact put_get_eq _ (by omega)
    · refine ⟨?_, ?_, fun b hb hnb => ?_, fun q hq => ?_⟩
      · show H2.lock = H.lock
        rw [hmv2.lock, ← hHb]; rfl
      · rw [put_sizeI _ (by omega)]; omega
      · rw [put_get_ne _ (by omega) (by omega), hmv2.same b (by omega) ?_, ← hHb]
        · exact plus_get _ hb
        · rintro ⟨q, hq, he⟩
          rcases List.mem_cons.1 hq with rfl | hq
          · simp only at he; omega
          · rcases List.mem_cons.1 hq with rfl | hq
            · simp only at he; omega
            · exact hnb ⟨q, hq, he⟩
      · rcases List.mem_cons.1 hq with rfl | hq
        · exact Or.inr (by simp only; omega)
        · rcases hmv2.keys q (List.mem_cons_of_mem _ (List.mem_cons_of_mem _ hq)) with ⟨r, hr, he⟩ | h
          · rcases List.mem_cons.1 hr with rfl | hr
            · exact absurd ⟨q, hq, he.symm⟩ hmd.1
            · rcases List.mem_cons.1 hr with rfl | hr
              · exact absurd ⟨q, hq, he.symm⟩ hmd.2
              · exact Or.inl ⟨r, hr, he⟩
          · exact Or.inr (by omega)
    · rw [put_sizeI _ (by omega)]; exact hs2
  refine wp_range0 (f := f) (first := []) (cap := cap) hg (v := .tup []) (H2 := H2) ?_ (r := busyL me a.size a.tmps ps asg body d (stateOf p.1) (pend p.1)) ?_ ?_ ?_ ?_
  · rw [hd]
    rw [← hbeg] at hcb
    exact hcb
  · rw [hd]; exact get_loopObj hl2
  · unfold busyL stateOf; cases p.1 <;> simp [pend]
  · rw [hd]; rfl
  · rw [hd]
    obtain ⟨e, s⟩ := p
    cases e with
    | normal => exact hfin
    | ret => exact hfin
    | exit i => exact hfin
end
section
variable {C : Cfg} {me : FuncId} {S : Type}
end
end Go.Ev
namespace Go.Ev
open Go.Proofs
set_option maxRecDepth 100000
set_option linter.unusedSimpArgs false
attribute [local irreducible] Wp WpS
/-- a call of what is handed in, where what is known of memory lies before the region -/
theorem effV_yld2 {C : Cfg} {me : FuncId} {d : Option Tmp} {l : Nat} {S : Type} {R : S → Fm → Prop} {stp : S → List AV → Bool × S} {ok : S → List AV → Prop} {live : S → Prop} {n0 k base top : Nat} {G : Heap} {cont : AV → Heap → Prop} (hsrc : Src2 C l S R stp ok live n0 k) (s : S) (m : Fm) (x : List AV) (hlv : live s) (hok : ok s x)
    (hR : R s m) (hH : Has m G) (hm : ∀ p ∈ m, p.1 < base) (hk : G.lock = k) (hn : n0 ≤ G.size) (ht : top = G.size) (hbt : base ≤ top)
    (hcont : ∀ m' G', R (stp s x).2 m' → Has m' G' → G'.lock = k → G.size ≤ G'.size → (∀ b, b < base → ¬ keyIn b m → G'.get b = G.get b) → (∀ p ∈ m', keyIn p.1 m ∨ G.size ≤ p.1) → cont (.v (.bool (stp s x).1)) G') : effV C me base top d (.yld l) x G cont := by
  refine ⟨rfl, fun Gh h1 h2 h3 => ?_⟩
  have hHh : Has m Gh := fun p hp => (h3 p.1 (Or.inl (hm p hp))).trans (hH p hp)
  obtain ⟨Y, m', hY, hR', hH', hmv⟩ := hsrc.round s m x Gh hlv hok hR hHh (h1.trans hk) (by omega)
  refine ⟨.v (.bool (stp s x).1), Y, by unfold callX; simp only [hY], by have := hmv.size; omega, fun G' g1 g2 g3 _ => ?_⟩
  have hkeys : ∀ p ∈ m', keyIn p.1 m ∨ G.size ≤ p.1 := fun p hp => by rw [← h2]; exact hmv.keys p hp
  refine hcont m' G' hR' (fun p hp => ?_) (g1.trans hk) (by have := hmv.size; omega) (fun b hb hnb => ?_) hkeys
  · rw [g3 p.1 ?_]
    · exact hH' p hp
    · rcases hkeys p hp with ⟨q, hq, he⟩ | h
      · left; rw [← he]; exact hm q hq
      · right; omega
  · rw [g3 b (Or.inl hb)]
    rcases Nat.lt_or_ge b Gh.size with h | h
    · rw [hmv.same b h hnb, h3 b (Or.inl hb)]
    · omega
/-- readings of a pair that lies in memory -/
theorem call53 {e : Exts} (he : Quiet e) {X : Heap} {b : Nat} {lx ly : AV} {a c : Line} {tb : List Int} (h : PrH X b lx ly a c tb) (ha : a.length ≤ 10) (hc : c.length ≤ 10) (hT : TabOK a c tb (-1) 0) (k n w : Int) (me : FuncId) (d : Option Tmp) : callA (Cx e) (lim (Cx e)) me 53 d [.ptr b 0 0, .agg [.v (.int .i64 k), .v (.int .i64 n), .v (.int .i64 w)]] X = some (ofV (foundL k n 0 a c), X) := by
  have hb : boundL [AV.ptr b 0 0, .agg [.v (.int .i64 k), .v (.int .i64 n), .v (.int .i64 w)]] ≠ 0 := by
    intro h0
    have : Nat.max (b + 1) (Nat.max (Nat.max 0 (Nat.max 0 (Nat.max 0 0))) 0) = 0 := h0
    have h1 := Nat.le_max_left (b + 1) (Nat.max (Nat.max 0 (Nat.max 0 (Nat.max 0 0))) 0)
    have h2 : b + 1 ≤ 0 := this ▸ h1
    omega
  unfold callA callB callKind
  rw [ext_53 he]
  simp only [pure_53, if_true]
  have h2 := fn53 he (X := { X with lock := X.size }) (h.lock _) rfl ha hc hT k n w
  unfold Fn' at h2
  rw [bindO_iff] at h2
  obtain ⟨o, h3, h4⟩ := h2
  rw [if_neg (fun h => hb (Nat.eq_of_beq_eq_true h)), show ([AV.ptr b 0 0, .agg [.v (.int .i64 k), .v (.int .i64 n), .v (.int .i64 w)]]).any isYld = false from rfl]
  simp only [Bool.false_eq_true, if_false]
  cases o with
  | ret v H =>
    simp only [intA] at h3
    simp only [h3]
    exact congrArg (Option.map fun v => (v, X)) h4
  | _ => exact h4.elim
theorem stillV_53 {e : Exts} (he : Quiet e) {me : FuncId} {d : Option Tmp} {G : Heap} {cont : AV → Heap → Prop} {b base top : Nat} {lx ly : AV} {a c : Line} {tb : List Int} (h : PrH G b lx ly a c tb) (hb : b < base) (ha : a.length ≤ 10) (hc : c.length ≤ 10) (hT : TabOK a c tb (-1) 0) (k n w : Int)
    (hcont : cont (ofV (foundL k n 0 a c)) G) : stillV (Cx e) me base top d (.fn (.func 53) [] []) [.ptr b 0 0, .agg [.v (.int .i64 k), .v (.int .i64 n), .v (.int .i64 w)]] G cont := by
  refine ⟨?_, _, fun Gh h1 h2 h3 => ⟨Gh, ?_⟩, hcont⟩
  · unfold kind2
    have hk : callKind (Cx e) me 53 d ([] ++ [AV.ptr b 0 0, .agg [.v (.int .i64 k), .v (.int .i64 n), .v (.int .i64 w)]] ++ []) = 2 := by
      unfold callKind
      rw [pure_53]
      have hb : ¬ (Nat.beq (boundL ([] ++ [AV.ptr b 0 0, .agg [.v (.int .i64 k), .v (.int .i64 n), .v (.int .i64 w)]] ++ [])) 0 = true) := by
        intro h0
        have h0 := Nat.eq_of_beq_eq_true h0
        have : Nat.max (b + 1) (Nat.max (Nat.max 0 (Nat.max 0 (Nat.max 0 0))) 0) = 0 := h0
        have h1 := Nat.le_max_left (b + 1) (Nat.max (Nat.max 0 (Nat.max 0 (Nat.max 0 0))) 0)
        have h2 : b + 1 ≤ 0 := this ▸ h1
        omega
      rw [if_pos rfl, if_neg hb]; rfl
    simp only [ext_53 he, hk]; rfl
  · unfold callX
    simp only [List.nil_append, List.append_nil]
    obtain ⟨mm, g, hr⟩ := h.row
    exact call53 he ⟨by rw [h2]; exact h.lt, ⟨mm, g, get_row ((h3 b (Or.inl hb)).trans (row_of_get hr))⟩, h.left, h.right, h.len⟩ ha hc hT k n w me d
end Go.Ev
namespace Go.Ev
open Go.Proofs
set_option maxRecDepth 100000
set_option linter.unusedSimpArgs false
attribute [local irreducible] Wp WpS
theorem bd2K_at {S : Type} (R : S → Fm → Prop) (d : Nat) (L' : ALoop) (m : Fm) (H : Heap) (p : AExit × S) (e : AExit) (a : AAct) (H' : Heap) : AtK (bd2K R d L' m H p) e a H' = (e = p.1 ∧ ∃ m', R p.2 m' ∧ Has m' H' ∧ loopObj H' (d + 1) = some L' ∧ Moves ((d + 1, .loop L') :: m) H ((d + 1, .loop L') :: m') H') := rfl
theorem okRun72 {S : Type} {e : Exts} {ch2 : AV} (tbf : Nat → Nat → List Int) (xf : Nat → Nat → AV) (stp : S → List AV → Bool × S) (ok : S → List AV → Prop) : ∀ (T : List (List AV)) (s : S), (∀ x ∈ T, Ok72 (fun _ => True) tbf xf e ch2 x) → okRun stp ok (T.map (pairI tbf xf)) s → okRun (fun s x => (isGo (stp72 tbf xf stp s x).1, (stp72 tbf xf stp s x).2)) (fun s x => Ok72 (ok s) tbf xf e ch2 x) T s
  | [], _, _, _ => trivial
  | x :: r, s, hx, h => by
    rw [List.map_cons] at h
    refine ⟨?_, fun hg => ?_⟩
    · obtain ⟨i, k, lx, a, c, rfl, h1, h2, h3, -, h5, h6⟩ := hx x (List.mem_cons_self ..)
      exact ⟨i, k, lx, a, c, rfl, h1, h2, h3, h.1, h5, h6⟩
    · refine okRun72 tbf xf stp ok r _ (fun y hy => hx y (List.mem_cons_of_mem _ hy)) (h.2 ?_)
      unfold stp72 at hg
      simp only at hg
      cases hq : (stp s (pairI tbf xf x)).1 with
      | true => rfl
      | false => rw [hq] at hg; cases hg
/-- what is known while the pairs are handed over -/
def R72 {S : Type} (R : S → Fm → Prop) (N : Nat) (l : Nat) (s : S) (m : Fm) : Prop := ∃ m0, R s m0 ∧ ¬ keyIn N m0 ∧ ¬ keyIn (N + 1) m0 ∧ ¬ keyIn (N + 2) m0 ∧ m = (N, .cells 0 (bound (.yld l)) 123 1 false [.yld l]) :: m0
set_option maxHeartbeats 4000000 in
theorem yields2_72 {e : Exts} (he : Quiet e) (ch : AV) (xs : List AV) (hch : SlOf 2 xs ch) (hall : ∀ y ∈ xs, OkCh y) (hlen : xs.length < 2 ^ 63) (ch2 : AV) (b1 b2 : Nat) (tbf : Nat → Nat → List Int) (xf : Nat → Nat → AV)
    (hcall : ∀ x ∈ chapIts 0 xs, Ok72 (fun _ => True) tbf xf e ch2 x) : Yields2F (Cx e) 72 [.ptr b1 0 0, .ptr b2 0 0] ((chapIts 0 xs).map (pairI tbf xf)) (F72 b1 b2 ch ch2) := by
  intro l S R stp ok live n0 k hsrc hF s m H hok hlv hR hH hlk hsz
  have hk0 : k = 0 := hlk.symm.trans (hF s m H hR hH hlk).1
  subst hk0
  have key : Fn' (Cx e) 72 [.yld l, .ptr b1 0 0, .ptr b2 0 0] H fun v H' => v = .tup [] ∧ ∃ m', R (runIt stp ((chapIts 0 xs).map (pairI tbf xf)) s).2 m' ∧ Has m' H' ∧ Moves m H m' H' := by
    obtain ⟨N, hN⟩ : ∃ N, H.size = N := ⟨_, rfl⟩
    have hlkN : H.lock ≤ N := by omega
    generalize hKK : (fun v H' => v = .tup [] ∧ ∃ m', R (runIt stp ((chapIts 0 xs).map (pairI tbf xf)) s).2 m' ∧ Has m' H' ∧ Moves m H m' H' : PostO) = KK
    have hrX : ∀ F, (H.plus F).row b1 0 = some (0, 79, 1, false, [ch]) := fun F => ((hF s m H hR hH hlk).plus F).2.1
    rw [fn_step (fn_72 e) (show Tryz.f72.body = some _ from rfl), ← plus_nil H]
    simp -implicitDefEqProofs only [Tryz.f72, go_sem, ↓reduceIte, Int.reduceEq, Int.reduceLT, Int.reduceLE, List.reduceReplicate, intA, setT_nil, setT_cons, ↓boolP_bool, ↓iteB_true, ↓iteB_false, sizeP hN, putP0 hN, putP hN, settleP0 hN, settleP hN, rowP0 hN, rowP hN, storeP0 hN hlkN, storeP hN hlkN, List.length_nil, Nat.add_zero, hrX, hch.cells, call64 he ch xs hch]
    have hN1 : (H.plus [some (.cells 0 (bound (.yld l)) 123 1 false [.yld l])]).size = N + 1 := by rw [plus_size, hN]; rfl
    have hgN : (H.plus [some (.cells 0 (bound (.yld l)) 123 1 false [.yld l])]).get N = some (.cells 0 (bound (.yld l)) 123 1 false [.yld l]) := plus_mid_get hN [] [] _
    refine wp_range2 (yields2_88 ch xs hch hall hlen) rfl (R72 R N l) (stp72 tbf xf stp) live (fun s x => Ok72 (ok s) tbf xf e ch2 x) (n0 := N + 1) (k := 0) (by rw [hN1]; exact Nat.le_refl _) (Nat.zero_le _) (fun x hx => ?_) ?_ ?_ (fun s x hl hx h => ?_) ?_ s ((N, .cells 0 (bound (.yld l)) 123 1 false [.yld l]) :: m) (okRun72 tbf xf stp ok _ s hcall hok) hlv ⟨m, hR, not_key hH (by omega), not_key hH (by omega), not_key hH (by omega), rfl⟩ ?_ (by rw [plus_lock]; exact hlk) ?_
    · obtain ⟨i, k, lx, a, c, rfl, -⟩ := hcall x hx
      rfl
    · rintro s' m' ⟨m0, hR0, k1, k2, k3, rfl⟩ n hn ⟨p, hp, hpn⟩
      rcases List.mem_cons.1 hp with rfl | hp
      · simp only at hpn; omega
      · obtain ⟨q, hq, h1, h2⟩ := hsrc.anch s' m0 hR0 n (by omega) ⟨p, hp, hpn⟩
        exact ⟨q, List.mem_cons_of_mem _ hq, h1, h2⟩
    · rintro s' m' ⟨m0, hR0, k1, k2, k3, rfl⟩
      rw [hN1]
      constructor
      · rintro ⟨p, hp, he⟩
        rcases List.mem_cons.1 hp with rfl | hp
        · simp only at he; omega
        · exact k2 ⟨p, hp, he⟩
      · rintro ⟨p, hp, he⟩
        rcases List.mem_cons.1 hp with rfl | hp
        · simp only at he; omega
        · exact k3 ⟨p, hp, he⟩
    · obtain ⟨i, k, lx, a, c, rfl, h1, h2, h3, h4, h5, h6⟩ := hx
      refine hsrc.step _ _ hl h4 ?_
      unfold stp72 at h
      simp only at h
      cases hq : (stp s (pairI tbf xf [placeA i k 0, lx])).1 with
      | true => rfl
      | false => rw [hq] at h; cases h
    · rw [hN1]
      rintro L L' s x' x H' - hl ⟨i, k, lx, a, c, rfl, h1, h2, h3, h4, h5, h6⟩ - ⟨m0, hR0, k1, k2, k3, rfl⟩ hHm hd0 hlo hlk' hsz'
      have hHm0 : Has m0 H' := fun p hp => hHm p (List.mem_cons_of_mem _ hp)
      obtain ⟨N2, hN2⟩ : ∃ N2, H'.size = N2 := ⟨_, rfl⟩
      have hlk2 : H'.lock ≤ N2 := by omega
      have hp1 : stp72 tbf xf stp s [placeA i k 0, lx] = (if (stp s (pairI tbf xf [placeA i k 0, lx])).1 then .normal else .ret, (stp s (pairI tbf xf [placeA i k 0, lx])).2) := rfl
      generalize stp72 tbf xf stp s [placeA i k 0, lx] = p72 at hp1 ⊢
      have hgN' : H'.get N = some (.cells 0 (bound (.yld l)) 123 1 false [.yld l]) := hHm (N, _) (List.mem_cons_self ..)
      rw [← plus_nil H']
      simp -implicitDefEqProofs only [go_sem, ↓reduceIte, Int.reduceEq, Int.reduceLT, Int.reduceLE, List.reduceReplicate, intA, setT_nil, setT_cons, ↓boolP_bool, ↓iteB_true, ↓iteB_false, placeA, List.zip_cons_cons, List.zip_nil_right, List.zip_nil_left, sizeP hN2, putP0 hN2, putP hN2, settleP0 hN2, settleP hN2, rowP0 hN2, rowP hN2, storeP0 hN2 hlk2, storeP hN2 hlk2, List.length_nil, Nat.add_zero]
      obtain ⟨E0, hE0⟩ : ∃ E0 : List (Option AObj), [some (.cells 0 0 32 1 false [.v (.int .i64 i), .v (.int .i64 k), .v (.int .i64 0)])] = E0 := ⟨_, rfl⟩
      have hlo1 : loopObj (H'.plus E0) (N + 1 + 1) = some L := get_loopObj ((plus_get _ (by omega)).trans (loopObj_getI hlo))
      rw [hE0, plus_nil]
      refine ⟨rfl, hlo1, ?_⟩
      obtain ⟨X, hX⟩ : ∃ X, (H'.plus E0).put (N + 1 + 1) (.loop L') = X := ⟨_, rfl⟩
      have hszE : (H'.plus E0).size = N2 + 1 := by rw [plus_size, hN2, ← hE0]; rfl
      have hN3 : X.size = N2 + 1 := by rw [← hX, put_sizeI _ (by omega)]; exact hszE
      have hXg : ∀ b, b ≠ N + 1 + 1 → b < N2 → X.get b = H'.get b := fun b hb hb2 => by rw [← hX, put_get_ne _ (by omega) hb]; exact plus_get _ (by omega)
      have hXlk : X.lock = 0 := by rw [← hX]; exact hlk'
      have hlk3 : X.lock ≤ N2 + 1 := by omega
      have hXL : X.get (N + 1 + 1) = some (.loop L') := by rw [← hX]; exact put_get_eq _ (by omega)
      have hXc : X.get N2 = some (.cells 0 0 32 1 false [.v (.int .i64 i), .v (.int .i64 k), .v (.int .i64 0)]) := by rw [← hX, put_get_ne _ (by omega) (by omega), ← hE0]; exact plus_mid_get hN2 [] [] _
      have hXH : Has m0 X := fun p hp => (hXg p.1 (fun he => k3 ⟨p, hp, by omega⟩) (by have := get_ltS (hHm0 p hp); omega)).trans (hHm0 p hp)
      have hXN : X.get N = some (.cells 0 (bound (.yld l)) 123 1 false [.yld l]) := (hXg N (by omega) (by omega)).trans hgN'
      have hXF := hF s m0 X hR0 hXH hXlk
      have hb2n : b2 < N2 + 1 := by have := get_ltS (row_of_get hXF.2.2); omega
      have hrbX : ∀ F, (X.plus F).row N 0 = some (bound (.yld l), 123, 1, false, [.yld l]) := fun F => get_row ((plus_get _ (by omega)).trans hXN)
      have hrcX : ∀ F, (X.plus F).row N2 0 = some (0, 32, 1, false, [.v (.int .i64 i), .v (.int .i64 k), .v (.int .i64 0)]) := fun F => get_row ((plus_get _ (by omega)).trans hXc)
      have hr2X : ∀ F, (X.plus F).row b2 0 = some (0, 24, 1, false, [ch2]) := fun F => (hXF.plus F).2.2
      have g1 : ltB N (N2 + 1) = true := by unfold ltB; simp; omega
      have g2 : ltB N2 (N2 + 1) = true := by unfold ltB; simp
      have g3 : ltB b2 (N2 + 1) = true := by unfold ltB; simp; omega
      rw [hX, ← plus_nil X]
      simp -implicitDefEqProofs only [go_sem, ↓reduceIte, Int.reduceEq, Int.reduceLT, Int.reduceLE, List.reduceReplicate, intA, setT_nil, setT_cons, ↓boolP_bool, ↓iteB_true, ↓iteB_false, sizeP hN3, putP0 hN3, putP hN3, settleP0 hN3, settleP hN3, rowP0 hN3, rowP hN3, storeP0 hN3 hlk3, storeP hN3 hlk3, List.length_nil, Nat.add_zero]
      refine wp_drawX [([], [], false), ([0], [], false), ([], [], false), ([0, 1], [], false), ([], [], false), ([0, 1, 3], [], false), ([0, 1], [], false), ([0, 1], [], false), ([], [], true), ([], [], false)] (by kernel_rfl) (by kernel_rfl) ?_
      simp -implicitDefEqProofs only [go_sem, ↓reduceIte, Int.reduceEq, Int.reduceLT, Int.reduceLE, List.reduceReplicate, intA, setT_nil, setT_cons, ↓boolP_bool, ↓iteB_true, ↓iteB_false, hrbX, hrcX, hr2X, g1, g2, g3, h5, h6, List.isEmpty_nil, sizeP hN3, putP0 hN3, putP hN3, settleP0 hN3, settleP hN3, rowP0 hN3, rowP hN3, storeP0 hN3 hlk3, storeP hN3 hlk3, List.length_nil, Nat.add_zero]
      show effV _ _ _ _ _ _ (pairI tbf xf [placeA i k 0, lx]) _ _
      have hltX : ∀ p ∈ m0, p.1 < N2 + 1 := fun p hp => by have := get_ltS (hXH p hp); omega
      refine effV_yld2 hsrc s m0 _ hl h4 hR0 (hXH.plus _) hltX ((plus_lock _ _).trans hXlk) (by rw [plus_size]; omega) (by rw [plus_size, hN3]; rfl) (by omega) fun m1 G' q1 q2 q3 q4 q5 q6 => ?_
      show AtO (contP _ _ _ _ _ _ _ _ _ _ _) _ _
      rw [plus_size, hN3] at q4 q6
      rw [hp1]
      generalize hZ : settleH (N2 + 1) G' = Z
      have hZH : Has m1 Z := by rw [← hZ]; exact q2.settle _
      have hZl : Z.lock = 0 := by rw [← hZ]; exact settle_lock.trans q3
      have hZg : ∀ b, b < N2 + 1 → ¬ keyIn b m0 → Z.get b = X.get b := fun b hb hnb => by rw [← hZ, settle_lo hb, q5 b hb hnb]; exact plus_get _ (by omega)
      have hZs : N2 + 1 ≤ Z.size := by rw [← hZ]; exact settle_size' (by omega)
      have hfin : ∃ m', R72 R N l (stp s (pairI tbf xf [placeA i k 0, lx])).2 m' ∧ Has m' Z ∧ loopObj Z (N + 1 + 1) = some L' ∧ Moves ((N + 1 + 1, .loop L') :: (N, .cells 0 (bound (.yld l)) 123 1 false [.yld l]) :: m0) H' ((N + 1 + 1, .loop L') :: m') Z := by
        have hoff : ∀ b, b ≤ N + 2 → ¬ keyIn b m0 → ¬ keyIn b m1 := by
          rintro b hb hnb ⟨p, hp, he⟩
          rcases q6 p hp with ⟨q, hq, he2⟩ | h
          · exact hnb ⟨q, hq, by omega⟩
          · omega
        refine ⟨(N, .cells 0 (bound (.yld l)) 123 1 false [.yld l]) :: m1, ⟨m1, q1, hoff _ (by omega) k1, hoff _ (by omega) k2, hoff _ (by omega) k3, rfl⟩, fun p hp => ?_, get_loopObj ((hZg _ (by omega) k3).trans hXL), ?_, by omega, fun b hb hnb => ?_, fun p hp => ?_⟩
        · rcases List.mem_cons.1 hp with rfl | hp
          · exact (hZg N (by omega) k1).trans hXN
          · exact hZH p hp
        · rw [hZl, hlk']
        · have h9 : ¬ keyIn b m0 := fun ⟨q, hq, he⟩ => hnb ⟨q, List.mem_cons_of_mem _ (List.mem_cons_of_mem _ hq), he⟩
          have h10 : b ≠ N + 1 + 1 := fun he => hnb ⟨_, List.mem_cons_self .., he.symm⟩
          rw [hZg b (by omega) h9, hXg b h10 (by omega)]
        · rcases List.mem_cons.1 hp with rfl | hp
          · exact Or.inl ⟨_, List.mem_cons_self .., rfl⟩
          · rcases List.mem_cons.1 hp with rfl | hp
            · exact Or.inl ⟨_, List.mem_cons_of_mem _ (List.mem_cons_self ..), rfl⟩
            · rcases q6 p hp with ⟨q, hq, he⟩ | h
              · exact Or.inl ⟨q, List.mem_cons_of_mem _ (List.mem_cons_of_mem _ hq), he⟩
              · exact Or.inr (by omega)
      generalize stp s (pairI tbf xf [placeA i k 0, lx]) = r at hfin ⊢
      obtain ⟨rb, rs⟩ := r
      simp only at hfin
      cases rb
      · simp -implicitDefEqProofs only [go_sem, ↓reduceIte, Int.reduceEq, Int.reduceLT, Int.reduceLE, List.reduceReplicate, intA, setT_nil, setT_cons, ↓boolP_bool, ↓iteB_true, ↓iteB_false, hZ, bd2K_at]
        exact hfin
      · simp -implicitDefEqProofs only [go_sem, ↓reduceIte, Int.reduceEq, Int.reduceLT, Int.reduceLE, List.reduceReplicate, intA, setT_nil, setT_cons, ↓boolP_bool, ↓iteB_true, ↓iteB_false, hZ, bd2K_at]
        exact hfin
    · intro p hp
      rcases List.mem_cons.1 hp with rfl | hp
      · exact hgN
      · exact hH.plus _ p hp
    · rw [hN1]
      rintro m' H' ⟨m1, hR1, k1, k2, k3, rfl⟩ hH1 hd hdd hmv hsz'
      rw [fold72] at hR1 ⊢
      generalize hr : runIt stp ((chapIts 0 xs).map (pairI tbf xf)) s = r at hKK hR1 ⊢
      simp only at hR1 ⊢
      have hlk' : H'.lock = 0 := by rw [hmv.lock, plus_lock]; exact hlk
      have hkill : killAll [N + 1] H' = some (H'.put (N + 1) .dead) := by
        unfold killAll
        rw [hd]
        simp only
        rw [if_pos (by omega)]
        unfold killAll; rfl
      have hfin : ∃ m', R r.2 m' ∧ Has m' (H'.put (N + 1) .dead) ∧ Moves m H m' (H'.put (N + 1) .dead) := by
        refine ⟨m1, hR1, fun p hp => ?_, ?_, ?_, fun b hb hnb => ?_, fun p hp => ?_⟩
        · rw [put_get_ne _ (by omega) (fun he => k2 ⟨p, hp, he⟩)]
          exact hH1 p (List.mem_cons_of_mem _ hp)
        · show H'.lock = H.lock
          omega
        · rw [put_sizeI _ (by omega)]; omega
        · rw [put_get_ne _ (by omega) (by omega), hmv.same b (by omega) ?_]
          · exact plus_get _ hb
          · rintro ⟨q, hq, he⟩
            rcases List.mem_cons.1 hq with rfl | hq
            · simp only at he; omega
            · exact hnb ⟨q, hq, he⟩
        · rcases hmv.keys p (List.mem_cons_of_mem _ (List.mem_cons_of_mem _ hp)) with ⟨q, hq, he⟩ | h
          · rcases List.mem_cons.1 hq with rfl | hq
            · exact absurd ⟨p, hp, he.symm⟩ k1
            · exact Or.inl ⟨q, hq, he⟩
          · exact Or.inr (by omega)
      subst hKK
      cases hb : r.1 with
      | true =>
        simp -implicitDefEqProofs only [go_sem, ↓reduceIte, Int.reduceEq, Int.reduceLT, Int.reduceLE, List.reduceReplicate, intA, setT_nil, setT_cons, ↓boolP_bool, ↓iteB_true, ↓iteB_false, hkill]
        exact ⟨rfl, hfin⟩
      | false =>
        simp -implicitDefEqProofs only [go_sem, ↓reduceIte, Int.reduceEq, Int.reduceLT, Int.reduceLE, List.reduceReplicate, intA, setT_nil, setT_cons, ↓boolP_bool, ↓iteB_true, ↓iteB_false, hkill]
        exact ⟨rfl, hfin⟩
  obtain ⟨v, H', h1, h2⟩ : ∃ v H', lim (Cx e) (.call 72 ([.yld l] ++ [.ptr b1 0 0, .ptr b2 0 0]) H) = some (.ret v H') ∧ (v = .tup [] ∧ ∃ m', R (runIt stp ((chapIts 0 xs).map (pairI tbf xf)) s).2 m' ∧ Has m' H' ∧ Moves m H m' H') := by
    unfold Fn' at key
    rw [bindO_iff] at key
    obtain ⟨o, h1, h2⟩ := key
    cases o with
    | ret v H' => exact ⟨v, H', h1, h2⟩
    | _ => exact h2.elim
  obtain ⟨rfl, m', h3, h4, h5⟩ := h2
  exact ⟨H', m', h1, h3, h4, h5⟩
end Go.Ev
namespace Go.Ev
open Go.Proofs
set_option maxRecDepth 100000
set_option linter.unusedSimpArgs false
attribute [local irreducible] Wp WpS
/-! ### readings found so far, and where they lie -/
def fI (fnd : Nat → Nat → List Rd) (x : List AV) : List Rd := match x with
  | .agg (.v (.int _ i) :: .v (.int _ k) :: _) :: _ => fnd i.toNat k.toNat
  | _ => []
theorem fI_at (fnd : Nat → Nat → List Rd) (i k : Nat) (r : List AV) : fI fnd (placeA i k 0 :: r) = fnd i k := rfl
def stp22 (fnd : Nat → Nat → List Rd) (s : List Rd) (x : List AV) : AExit × List Rd := (.normal, s ++ fI fnd x)
def okI22 (fnd : Nat → Nat → List Rd) (x : List AV) : Prop := ∃ (i k : Nat) (lx ly : AV) (a c : Line) (tb : List Int), x = [placeA i k 0, .agg (prC lx ly tb)] ∧ SlOf 1 (strs a) lx ∧ SlOf 1 (strs c) ly ∧ a.length ≤ 10 ∧ c.length ≤ 10 ∧ TabOK a c tb (-1) 0 ∧ fnd i k = foundL i k 0 a c
def ok22 (fnd : Nat → Nat → List Rd) (s : List Rd) (x : List AV) : Prop := okI22 fnd x ∧ s.length < 2 ^ 31
theorem fI_len {fnd : Nat → Nat → List Rd} {x : List AV} (h : okI22 fnd x) : (fI fnd x).length ≤ 20 := by
  obtain ⟨i, k, lx, ly, a, c, tb, rfl, -, -, ha, hc, -, hf⟩ := h
  rw [fI_at, hf, found_len]
  have := dist_sum a c; omega
theorem run22 (fnd : Nat → Nat → List Rd) : ∀ (T : List (List AV)) (s : List Rd), (∀ x ∈ T, okI22 fnd x) → s.length + 20 * T.length < 2 ^ 31 →
    okRun (fun s x => (isGo (stp22 fnd s x).1, (stp22 fnd s x).2)) (ok22 fnd) T s ∧ foldE (stp22 fnd) T s = (.normal, s ++ T.flatMap (fI fnd))
  | [], s, _, _ => ⟨trivial, by simp [foldE]⟩
  | x :: r, s, h, hl => by
    have h1 := fI_len (h x (List.mem_cons_self ..))
    rw [List.length_cons] at hl
    have ih := run22 fnd r (s ++ fI fnd x) (fun z hz => h z (List.mem_cons_of_mem _ hz)) (by rw [List.length_append]; omega)
    refine ⟨⟨⟨h x (List.mem_cons_self ..), by omega⟩, fun _ => ih.1⟩, ?_⟩
    rw [foldE_go rfl]
    show foldE (stp22 fnd) r (s ++ fI fnd x) = _
    rw [ih.2, List.flatMap_cons, List.append_assoc]
def L22 (D : Nat) (s : List Rd) (lv : AV) (m2 : Nat) (rows : Fm) : Prop := (s = [] ∧ lv = .v (.slice none 0 0) ∧ rows = []) ∨ ∃ b v, s ≠ [] ∧ lv = .sl b v 0 s.length none ∧ D + 2 ≤ b ∧ b < m2 ∧ rows = [(b, .cells v 0 65 5 true (rdCells s))]
def base22 (ch ch' : AV) (id : Int) (lv : AV) (m2 : Nat) : Fm := [(2, .cells 0 0 53 1 false [intA 0, .v (.slice none 0 0)]), (4, .cells 0 m2 53 1 false [intA id, lv]), (5, .cells 0 0 79 1 false [ch]), (6, .cells 0 0 24 1 false [ch'])]
def R22 (D : Nat) (ch ch' : AV) (id : Int) (s : List Rd) (m : Fm) : Prop := ∃ lv m2 rows, L22 D s lv m2 rows ∧ m = base22 ch ch' id lv m2 ++ rows
theorem base22_lt {ch ch' : AV} {id : Int} {lv : AV} {m2 : Nat} {p : Nat × AObj} (h : p ∈ base22 ch ch' id lv m2) : p.1 < 7 := by
  unfold base22 at h
  simp only [List.mem_cons, List.not_mem_nil, or_false] at h
  rcases h with rfl | rfl | rfl | rfl <;> simp
theorem L22.lo {D : Nat} {s : List Rd} {lv : AV} {m2 : Nat} {rows : Fm} (h : L22 D s lv m2 rows) {p : Nat × AObj} (hp : p ∈ rows) : D + 2 ≤ p.1 ∧ p.1 < m2 := by
  rcases h with ⟨-, -, rfl⟩ | ⟨b, v, -, -, h5, hb, rfl⟩
  · exact nomatch hp
  · rw [List.mem_singleton.1 hp]; exact ⟨h5, hb⟩
theorem R22_anch {D : Nat} {ch ch' : AV} {id : Int} (s : List Rd) (m : Fm) (h : R22 D ch ch' id s m) : Anch 7 m := by
  obtain ⟨lv, m2, rows, hl, rfl⟩ := h
  rintro n hn ⟨p, hp, hnp⟩
  refine ⟨(4, .cells 0 m2 53 1 false [intA id, lv]), List.mem_append_left _ (by unfold base22; simp), by show 4 < n; omega, ?_⟩
  show n < m2
  rcases List.mem_append.1 hp with hp | hp
  · have := base22_lt hp; omega
  · have := hl.lo hp; omega
theorem R22_free {D : Nat} (hD : 7 ≤ D) {ch ch' : AV} {id : Int} (s : List Rd) (m : Fm) (h : R22 D ch ch' id s m) : ¬ keyIn D m ∧ ¬ keyIn (D + 1) m := by
  obtain ⟨lv, m2, rows, hl, rfl⟩ := h
  have key : ∀ p ∈ base22 ch ch' id lv m2 ++ rows, p.1 ≠ D ∧ p.1 ≠ D + 1 := by
    intro p hp
    rcases List.mem_append.1 hp with hp | hp
    · have := base22_lt hp; omega
    · have := hl.lo hp; omega
  exact ⟨fun ⟨p, hp, he⟩ => (key p hp).1 he, fun ⟨p, hp, he⟩ => (key p hp).2 he⟩
theorem fin22 {D : Nat} (hD : 7 ≤ D) {ch ch' : AV} {id : Int} {s' : List Rd} {lv lv' : AV} {m2 m2' : Nat} {rows rows' : Fm} {X W : Heap} {N : Nat} {L' : ALoop} (hlW : W.get (D + 1) = some (.loop L')) (hXN : X.size = N) (hlk : X.lock = 0) (hsz : D + 2 ≤ N)
    (hH : Has (base22 ch ch' id lv m2 ++ rows) X) (hl' : L22 D s' lv' m2' rows') (hW4 : W.get 4 = some (.cells 0 m2' 53 1 false [intA id, lv'])) (hWr : Has rows' W)
    (hWo : ∀ b, b < N → b ≠ 4 → b ≠ D + 1 → ¬ keyIn b rows' → W.get b = X.get b) (hWl : W.lock = 0) (hWs : N ≤ W.size) (hb : ∀ p ∈ rows', N ≤ p.1 ∨ keyIn p.1 rows) :
    ∃ m', R22 D ch ch' id s' m' ∧ Has m' W ∧ loopObj W (D + 1) = some L' ∧ Moves ((D + 1, .loop L') :: (base22 ch ch' id lv m2 ++ rows)) X ((D + 1, .loop L') :: m') W := by
  have hlow : ∀ b, b < 7 → ¬ keyIn b rows' := fun b hb ⟨p, hp, he⟩ => by have := hl'.lo hp; omega
  have hbase : ∀ p ∈ base22 ch ch' id lv m2, p.1 ≠ 4 → W.get p.1 = some p.2 := fun p hp hne => by
    have := base22_lt hp
    rw [hWo p.1 (by omega) hne (by omega) (hlow _ this)]
    exact hH p (List.mem_append_left _ hp)
  refine ⟨base22 ch ch' id lv' m2' ++ rows', ⟨lv', m2', rows', hl', rfl⟩, fun p hp => ?_, get_loopObj hlW, hWl.trans hlk.symm, by omega, fun b hbn hk => ?_, fun p hp => ?_⟩
  · rcases List.mem_append.1 hp with hp | hp
    · unfold base22 at hp
      simp only [List.mem_cons, List.not_mem_nil, or_false] at hp
      rcases hp with rfl | rfl | rfl | rfl
      · exact hbase (2, _) (by unfold base22; simp) (by simp)
      · exact hW4
      · exact hbase (5, _) (by unfold base22; simp) (by simp)
      · exact hbase (6, _) (by unfold base22; simp) (by simp)
    · exact hWr p hp
  · have h1 : b ≠ D + 1 := fun h => hk ⟨_, List.mem_cons_self .., h.symm⟩
    have h4 : b ≠ 4 := fun h => hk ⟨(4, .cells 0 m2 53 1 false [intA id, lv]), List.mem_cons_of_mem _ (List.mem_append_left _ (by unfold base22; simp)), h.symm⟩
    refine hWo b (by omega) h4 h1 fun ⟨p, hp, he⟩ => ?_
    rcases hb p hp with h | ⟨q, hq, he2⟩
    · omega
    · exact hk ⟨q, List.mem_cons_of_mem _ (List.mem_append_right _ hq), by omega⟩
  · rcases List.mem_cons.1 hp with rfl | hp
    · exact Or.inl ⟨_, List.mem_cons_self .., rfl⟩
    · rcases List.mem_append.1 hp with hp | hp
      · left
        unfold base22 at hp
        simp only [List.mem_cons, List.not_mem_nil, or_false] at hp
        have hm : ∀ q ∈ base22 ch ch' id lv m2, keyIn q.1 ((D + 1, AObj.loop L') :: (base22 ch ch' id lv m2 ++ rows)) := fun q hq => ⟨q, List.mem_cons_of_mem _ (List.mem_append_left _ hq), rfl⟩
        rcases hp with rfl | rfl | rfl | rfl
        · exact hm (2, _) (by unfold base22; simp)
        · exact hm (4, .cells 0 m2 53 1 false [intA id, lv]) (by unfold base22; simp)
        · exact hm (5, _) (by unfold base22; simp)
        · exact hm (6, _) (by unfold base22; simp)
      · rcases hb p hp with h | ⟨q, hq, he⟩
        · exact Or.inr (by omega)
        · exact Or.inl ⟨q, List.mem_cons_of_mem _ (List.mem_append_right _ hq), he⟩
/-- all that is handed over, and all that is found -/
theorem found_map (g : List AV → List Rd) (t u : Txt) (xs : List AV) (hall : All2 ChapA t xs) (h3 : alikeB t u = true)
    (hg : ∀ (i k : Nat) (y z : AV) (cp cq : Chap) (a c : Line), xs[i]? = some y → (linesOf y)[k]? = some z → t[i]? = some cp → u[i]? = some cq → cp.2[k]? = some a → cq.2[k]? = some c → g [placeA i k 0, z] = foundL i k 0 a c) :
    (chapIts 0 xs).flatMap g = foundT 0 t u := by
  have key : ∀ (n i : Nat), i + n = t.length → (chapIts i (xs.drop i)).flatMap g = foundT i (t.drop i) (u.drop i) := by
    intro n
    induction n with
    | zero =>
      intro i hi
      rw [show xs.drop i = [] from List.drop_eq_nil_of_le (by rw [← hall.1]; omega), show t.drop i = [] from List.drop_eq_nil_of_le (by omega)]
      rw [foundT]; rfl; all_goals (intros; simp at *)
    | succ n ih =>
      intro i hi
      obtain ⟨cp, hcp⟩ := at_lt t i (by omega)
      obtain ⟨y, hy, l, rfl, lxs, hl, hls⟩ := hall.get hcp
      obtain ⟨cq, hcq, -, hlen⟩ := alike_get h3 hcp
      have hlo : linesOf (.agg [intA cp.1, l]) = lxs := hl.elems
      rw [chapIts_drop xs i _ hy, drop_eq_cons hcp, drop_eq_cons hcq, foundT, List.flatMap_append, ih (i + 1) (by omega), hlo]
      congr 1
      have inner : ∀ (m j : Nat), j + m = lxs.length → (lineIts i j (lxs.drop j)).flatMap g = foundC i j (cp.2.drop j) (cq.2.drop j) := by
        intro m
        induction m with
        | zero =>
          intro j hj
          rw [show lxs.drop j = [] from List.drop_eq_nil_of_le (by omega), show cp.2.drop j = [] from List.drop_eq_nil_of_le (by rw [hls.1]; omega)]
          rw [foundC]; rfl; all_goals (intros; simp at *)
        | succ m ih2 =>
          intro j hj
          obtain ⟨z, hz⟩ := at_lt lxs j (by omega)
          obtain ⟨a, ha⟩ := at_lt cp.2 j (by rw [hls.1]; omega)
          obtain ⟨c, hc⟩ := at_lt cq.2 j (by rw [← hlen, hls.1]; omega)
          rw [lineIts_drop i lxs j z hz, drop_eq_cons ha, drop_eq_cons hc, foundC, List.flatMap_cons, ih2 (j + 1) (by omega), hg i j _ z cp cq a c hy (by rw [hlo]; exact hz) hcp hcq ha hc]
      have := inner lxs.length 0 (by omega)
      simpa using this
  have := key t.length 0 (by omega)
  simpa using this
end Go.Ev
namespace Go.Ev
open Go.Proofs
set_option maxRecDepth 100000
set_option linter.unusedSimpArgs false
attribute [local irreducible] Wp WpS
theorem ofV_nil : ofV [] = .v (.slice none 0 0) := rfl
theorem rdCells_flat : ∀ f : List Rd, (rdCells f).all AV.flat = true
  | [] => rfl
  | r :: f => by rw [rdCells_cons, List.all_append, rdCells_flat f]; rfl
theorem rdCells_bound : ∀ f : List Rd, boundL (rdCells f) = 0
  | [] => rfl
  | r :: f => by rw [rdCells_cons]; exact rdCells_bound f
theorem freeze22 {D : Nat} {s : List Rd} {lv : AV} {m2 : Nat} {rows : Fm} {W : Heap} (hl : L22 D s lv m2 rows) (hr : ∀ p ∈ rows, W.get p.1 = some p.2) (hk : W.lock = 0) (id : Int) : freezeV { W with lock := 0 } 1000000 (.tup [.agg [.v (.int .i64 id), lv], .v (.int .i64 0)]) = some (.tup [.agg [.v (.int .i64 id), ofV s], .v (.int .i64 0)]) := by
  have hW : ({ W with lock := 0 } : Heap) = W := by cases W; simp only at hk; subst hk; rfl
  rw [hW]
  have key : ∀ k, freezeV W (k + 1) lv = some (ofV s) := fun k => by
    rcases hl with ⟨rfl, rfl, -⟩ | ⟨b, v, hs, rfl, -, -, rfl⟩
    · rfl
    · have hb : W.row b v = some (0, 65, 5, true, rdCells s) := get_row (hr _ (List.mem_singleton.2 rfl))
      unfold freezeV
      simp only [hb, hk]
      rw [if_neg (by omega), if_pos ⟨by rw [rdCells_len]; omega, by omega⟩, if_pos trivial, List.drop_zero, List.take_of_length_le (by rw [rdCells_len]; omega), chunk_rds]
      cases s with
      | nil => exact absurd rfl hs
      | cons r f => rfl
  have e : ∀ k, freezeV W (k + 9) (.tup [.agg [.v (.int .i64 id), lv], .v (.int .i64 0)]) = some (.tup [.agg [.v (.int .i64 id), ofV s], .v (.int .i64 0)]) := fun k => by
    have h1 : freezeL W (k + 5) [lv] = some [ofV s] := by
      rw [freezeL, key, freezeL]
    have h2 : freezeL W (k + 6) [.v (.int .i64 id), lv] = some [.v (.int .i64 id), ofV s] := by
      rw [freezeL, h1, freezeV]
    have h3 : freezeV W (k + 7) (.agg [.v (.int .i64 id), lv]) = some (.agg [.v (.int .i64 id), ofV s]) := by
      rw [freezeV, h2]; rfl
    have h4 : freezeL W (k + 7) [.v (.int .i64 0)] = some [.v (.int .i64 0)] := by
      rw [freezeL, freezeV, freezeL]
    rw [freezeV, freezeL, h3, h4]; rfl
  exact e 999991
theorem finW {D : Nat} (hD : 7 ≤ D) {ch ch' : AV} {id : Int} {s' : List Rd} {lv lv' : AV} {m2 m2' : Nat} {rows rows' : Fm} {X Y P : Heap} {N : Nat} {L' : ALoop} (hN : X.size = N) (hlk : X.lock = 0) (hsz : D + 2 ≤ N) (hH : Has (base22 ch ch' id lv m2 ++ rows) X) (hY : ∀ b, b ≠ D + 1 → Y.get b = X.get b) (hlY : Y.get (D + 1) = some (.loop L'))
    (hl' : L22 D s' lv' m2' rows') (hPs : P.size = N) (hPk : P.lock = 0) (hP4 : P.get 4 = some (.cells 0 m2' 53 1 false [intA id, lv'])) (hPo : ∀ b, b < N → b ≠ 4 → ¬ keyIn b rows' → P.get b = Y.get b) (E : List (Option AObj)) (hE : 2 ≤ E.length) (hrow : ∀ p ∈ rows', (P.plus E).get p.1 = some p.2) (hb : ∀ p ∈ rows', N ≤ p.1 ∨ keyIn p.1 rows) :
    ∃ m', R22 D ch ch' id s' m' ∧ Has m' (settleH (N + 2) (P.plus E)) ∧ loopObj (settleH (N + 2) (P.plus E)) (D + 1) = some L' ∧ Moves ((D + 1, .loop L') :: (base22 ch ch' id lv m2 ++ rows)) X ((D + 1, .loop L') :: m') (settleH (N + 2) (P.plus E)) := by
  have hlow : ¬ keyIn (D + 1) rows' := fun ⟨p, hp, he⟩ => by have := hl'.lo hp; omega
  have hs := settle_size' (n := N + 2) (H := P.plus E) (by rw [plus_size, hPs]; omega)
  refine fin22 hD ?_ hN hlk hsz hH hl' ?_ ?_ ?_ ?_ (by omega) hb
  · rw [settle_lo (by omega), plus_get _ (by omega), hPo _ (by omega) (by omega) hlow]; exact hlY
  · rw [settle_lo (by omega), plus_get _ (by omega)]; exact hP4
  · exact fun p hp => settle_some (hrow p hp)
  · intro b hb' h4 h5 h6
    rw [settle_lo (by omega), plus_get _ (by omega), hPo b hb' h4 h6, hY b h5]
  · rw [settle_lock]; exact hPk
set_option maxHeartbeats 8000000 in
theorem ans22 {e : Exts} (he : Quiet e) (t u : Txt) (ht : Fits t) (hu : Fits u) (ch ch' : AV) (xs xs' : List AV) (hch : SlOf 2 xs ch) (hall : All2 ChapA t xs) (hch' : SlOf 2 xs' ch') (hall' : All2 ChapA u xs') (h1 : textB t = true) (h2 : textB u = true) (h3 : alikeB t u = true) (id : Int) (hid : withinB 0 9999 [id] = true) (hlen : (foundT 0 t u).length ≤ 20) :
    Ans (Cx e) 22 [.agg [ch], .agg [ch'], intA id] (.tup [.agg [intA id, ofV (foundT 0 t u)], intA 0]) := by
  have hst := small_of h1
  have hsu := small_of h2
  have h50 : ∀ (me : FuncId) (d : Option Tmp) (H : Heap), callA (Cx e) (lim (Cx e)) me 50 d [.agg [ch], .agg [ch']] H = some (.tup [.agg [ch], .v (.int .i64 0)], H) := fun me d H =>
    (ans50 he t u ht hu ch ch' xs xs' hch hall hch' hall' h1 h2 h3).call (ext_50 he) (pure_50 _ _ _) (by simp only [boundL_cons, bound_agg, hch.bound, hch'.bound, boundL_nil]; rfl) H
  have h51 := call51 he id
  rw [hid] at h51
  obtain ⟨F, h52⟩ := call52 he ⟨[some (.cells 0 0 24 1 false [ch]), some (.cells 0 0 24 1 false [ch']), some (.cells 0 0 53 1 false [.v (.int .i64 0), .v (.slice none 0 0)]), some (.cells 0 0 79 1 false [ch]), some (.cells 0 0 53 1 false [.v (.int .i64 id), .v (.slice none 0 0)])], 0⟩ 5 rfl ch ch' xs xs' hch hch' 22 (some 31)
  obtain ⟨pf, hpf⟩ : ∃ pf : Nat → Nat → AV × List Int, ∀ i k, Lin t u xs e ch' i k (pf i k) := ⟨fun i k => Classical.choose (lin_of he t u hst hsu hu ch' xs xs' hall hch' hall' h3 i k), fun i k => Classical.choose_spec (lin_of he t u hst hsu hu ch' xs xs' hall hch' hall' h3 i k)⟩
  have hxl : xs.length < 2 ^ 63 := by rw [← hall.1]; exact ht.chs
  have hline : ∀ x ∈ chapIts 0 xs, ∃ (i k : Nat) (y z : AV), xs[i]? = some y ∧ (linesOf y)[k]? = some z ∧ x = [placeA i k 0, z] := fun x hx => by
    obtain ⟨i, y, j, z, h4, h5, rfl⟩ := chapIts_of xs 0 x hx
    exact ⟨i, j, y, z, h4, h5, by rw [Nat.zero_add]⟩
  have hpair : ∀ (i k : Nat) (z : AV), pairI (fun i k => (pf i k).2) (fun i k => (pf i k).1) [placeA i k 0, z] = [placeA i k 0, .agg (prC z (pf i k).1 (pf i k).2)] := fun i k z => rfl
  have hy := yields2_72 he ch xs hch (fun y hy => (okCh2_of ht hall y hy).ok) hxl ch' 5 6 (fun i k => (pf i k).2) (fun i k => (pf i k).1) (fun x hx => by
    obtain ⟨i, k, y, z, h4, h5, rfl⟩ := hline x hx
    obtain ⟨cp, cq, a, c, -, -, -, -, g1, g2, g3, g4, g5⟩ := hpf i k y z h4 h5
    exact ⟨i, k, z, a, c, rfl, g1, g2, g3.len, trivial, g4, g5⟩)
  obtain ⟨fnd, hfnd⟩ : ∃ fnd : Nat → Nat → List Rd, ∀ (i k : Nat) (cp cq : Chap) (a c : Line), t[i]? = some cp → u[i]? = some cq → cp.2[k]? = some a → cq.2[k]? = some c → fnd i k = foundL i k 0 a c := ⟨fun i k => foundL i k 0 ((((t[i]?).map fun c => c.2[k]?).getD none).getD []) ((((u[i]?).map fun c => c.2[k]?).getD none).getD []), fun i k cp cq a c e1 e2 e3 e4 => by simp only [e1, e2, e3, e4, Option.map_some, Option.getD_some]⟩
  have hitems : ∀ x ∈ (chapIts 0 xs).map (pairI (fun i k => (pf i k).2) (fun i k => (pf i k).1)), okI22 fnd x := fun x hx => by
    obtain ⟨w, hw, rfl⟩ := List.mem_map.1 hx
    obtain ⟨i, k, y, z, h4, h5, rfl⟩ := hline w hw
    obtain ⟨cp, cq, a, c, e1, e2, e3, e4, g1, g2, g3, g4, g5⟩ := hpf i k y z h4 h5
    rw [hpair]
    exact ⟨i, k, z, _, a, c, _, rfl, g1, g2, (hst.words cp (List.mem_of_getElem? e1) a (List.mem_of_getElem? e3)).2, (hsu.words cq (List.mem_of_getElem? e2) c (List.mem_of_getElem? e4)).2, g3, hfnd i k cp cq a c e1 e2 e3 e4⟩
  have hall22 : ((chapIts 0 xs).map (pairI (fun i k => (pf i k).2) (fun i k => (pf i k).1))).flatMap (fI fnd) = foundT 0 t u := by
    rw [List.flatMap_map]
    refine found_map _ t u xs hall h3 fun i k y z cp cq a c h4 h5 e1 e2 e3 e4 => ?_
    show fI fnd (pairI _ _ [placeA i k 0, z]) = _
    rw [hpair, fI_at, hfnd i k cp cq a c e1 e2 e3 e4]
  have hcnt : ((chapIts 0 xs).map (pairI (fun i k => (pf i k).2) (fun i k => (pf i k).1))).length < 2 ^ 20 := by
    have h4 := lensOf_len xs (linesOf_len hall hst)
    rw [← chapIts_lens 0 xs, List.length_map] at h4
    have h5 := hst.chs
    rw [hall.1] at h5
    rw [List.length_map]; omega
  generalize (chapIts 0 xs).map (pairI (fun i k => (pf i k).2) (fun i k => (pf i k).1)) = items at hy hitems hall22 hcnt
  clear hpf hpair hline hfnd
  have hrun := run22 fnd items [] hitems (by simp only [List.length_nil]; omega)
  rw [hall22, List.nil_append] at hrun
  unfold Ans
  rw [fn_step (fn_22 e) (show Tryz.f22.body = some _ from rfl)]
  simp -implicitDefEqProofs only [Tryz.f22, go_sem, ↓reduceIte, Int.reduceEq, Int.reduceLT, Int.reduceLE, List.reduceReplicate, intA, setT_nil, setT_cons, ↓boolP_bool, ↓iteB_true, ↓iteB_false, hch.cells, hch.flat, hch.bound, hch'.cells, hch'.flat, hch'.bound, h50, h51, h52, Heap.plus, Option.isNone_some]
  refine wp_range2F hy rfl (R22 (F.length + 7) ch ch' id) (stp22 fnd) (fun _ => True) (ok22 fnd) (n0 := 7) (k := 0) (Nat.le_add_left 7 F.length) (Nat.zero_le _) ?_ ?_ (fun s m h => R22_anch s m h) (fun s m h => R22_free (Nat.le_add_left 7 F.length) s m h) (fun _ _ _ _ _ => trivial) ?_ [] (base22 ch ch' id (.v (.slice none 0 0)) 0) hrun.1 trivial ⟨_, 0, [], Or.inl ⟨rfl, rfl, rfl⟩, by rw [List.append_nil]⟩ ?_ rfl ?_
  · intro x hx
    obtain ⟨i, k, lx, ly, a, c, tb, rfl, -⟩ := hitems x hx
    rfl
  · rintro s m H ⟨lv, m2, rows, -, rfl⟩ hH hlk
    exact ⟨hlk, get_row (hH (5, .cells 0 0 79 1 false [ch]) (List.mem_append_left _ (by unfold base22; simp))), get_row (hH (6, .cells 0 0 24 1 false [ch']) (List.mem_append_left _ (by unfold base22; simp)))⟩
  · intro L L' s m x X hL _ hok hxl hR hH hd0 hl1 hlk hsz
    have hd0 : X.get (F.length + 7) = some .dfr := hd0
    have hl1 : loopObj X (F.length + 7 + 1) = some L := hl1
    have hsz : F.length + 7 + 2 ≤ X.size := hsz
    change Wp (Cx e) 22 (some (F.length + 7 + 1)) _ _ X (as2K (Cx e) 22 (R22 (F.length + 7) ch ch' id) (F.length + 7) _ L L' m X _)
    clear hy hrun h52 hL
    obtain ⟨D, hD⟩ : ∃ D, F.length + 7 = D := ⟨_, rfl⟩
    rw [hD] at hd0 hl1 hsz hR ⊢
    have hD7 : 7 ≤ D := by omega
    clear hD
    obtain ⟨⟨i, k, lx, ly, a, c, tb, rfl, hx1, hx2, ha, hc, hT, hf⟩, hsl⟩ := hok
    obtain ⟨lv, m2, rows, hl, rfl⟩ := hR
    obtain ⟨N, hN⟩ : ∃ N, X.size = N := ⟨_, rfl⟩
    have hlkN : X.lock ≤ N := by rw [hlk]; exact Nat.zero_le _
    have hszN : D + 2 ≤ N := by omega
    have f0 := prC_cells (.v (.slice none 0 0)) (.v (.slice none 0 0)) zT rfl rfl
    have n0 : (prC (.v (.slice none 0 0)) (.v (.slice none 0 0)) zT).length = 146 := by rw [prC_len]; rfl
    have n1 : (prC lx ly tb).length = 146 := by rw [prC_len, hT.len]
    have d0 : (prC (.v (.slice none 0 0)) (.v (.slice none 0 0)) zT).drop 146 = [] := List.drop_of_length_le (by omega)
    have hfl := prC_cells lx ly tb hx1.flat hx2.flat
    have hbo := prC_bound hx1 hx2 tb
    rw [show stp22 fnd s [placeA i k 0, .agg (prC lx ly tb)] = (.normal, s ++ foundL i k 0 a c) by unfold stp22; rw [fI_at, hf]]
    rw [← plus_nil X]
    simp -implicitDefEqProofs only [go_sem, ↓reduceIte, Int.reduceEq, Int.reduceLT, Int.reduceLE, List.reduceReplicate, intA, setT_nil, setT_cons, ↓boolP_bool, ↓iteB_true, ↓iteB_false, placeA, List.zip_cons_cons, List.zip_nil_right, List.zip_nil_left, zero104, f0, n0, n1, d0, hfl, hbo, sizeP hN, putP0 hN, putP hN, settleP0 hN, settleP hN, rowP0 hN, rowP hN, storeP0 hN hlkN, storeP hN hlkN, List.length_nil, Nat.add_zero]
    refine ⟨rfl, ?_, ?_⟩
    · refine get_loopObj ?_
      rw [plus_get _ (by omega)]; exact loopObj_getI hl1
    · rw [putLo (by omega), plus_nil X]
      have hfr := R22_free hD7 (ch := ch) (ch' := ch') (id := id) s _ ⟨lv, m2, rows, hl, rfl⟩
      have hHY := hH.put (.loop L') (b := D + 1) (by omega) hfr.2
      have hNY : (X.put (D + 1) (.loop L')).size = N := by rw [put_sizeI _ (by omega)]; exact hN
      have hlkY : (X.put (D + 1) (.loop L')).lock = 0 := hlk
      have hlY : (X.put (D + 1) (.loop L')).get (D + 1) = some (.loop L') := put_get_eq _ (by omega)
      have hsmY : ∀ b, b ≠ D + 1 → (X.put (D + 1) (.loop L')).get b = X.get b := fun b hb => put_get_ne _ (by omega) hb
      generalize X.put (D + 1) (.loop L') = Y at *
      have hlkYN : Y.lock ≤ N := by rw [hlkY]; exact Nat.zero_le _
      have h4' : Y.row 4 0 = some (m2, 53, 1, false, [.v (.int .i64 id), lv]) := get_row (hHY (4, .cells 0 m2 53 1 false [intA id, lv]) (List.mem_append_left _ (by unfold base22; simp)))
      have hr4 : ∀ E, (Y.plus E).row 4 0 = some (m2, 53, 1, false, [.v (.int .i64 id), lv]) := fun E => by rw [rowLo (by omega)]; exact h4'
      have hst := fun (w : AV) (hw : w.flat = true) E => storeLoK (X := Y) (b := 4) (v := 0) (k := 1) (x := w) (by omega) (by omega) h4' (Nat.le_refl _) hw E
      have hst := fun b' v' l' c' E => hst (.sl b' v' 0 l' c') rfl E
      have g4 : ltB 4 (N + 2) = true := by unfold ltB; simp; omega
      have gN : ltB N (N + 2) = true := by unfold ltB; simp
      simp -implicitDefEqProofs only [go_sem, ↓reduceIte, Int.reduceEq, Int.reduceLT, Int.reduceLE, List.reduceReplicate, intA, setT_nil, setT_cons, ↓boolP_bool, ↓iteB_true, ↓iteB_false, sizeP hNY, putP0 hNY, putP hNY, settleP0 hNY, settleP hNY, rowP0 hNY, rowP hNY, storeP0 hNY hlkYN, storeP hNY hlkYN, List.length_nil, Nat.add_zero]
      refine wp_drawX [([], [], false), ([], [], false), ([1], [], false), ([1], [], true), ([], [], false), ([], [], false), ([], [4], false)] (by kernel_rfl) (by kernel_rfl) ?_
      simp -implicitDefEqProofs only [go_sem, ↓reduceIte, Int.reduceEq, Int.reduceLT, Int.reduceLE, List.reduceReplicate, intA, setT_nil, setT_cons, ↓boolP_bool, ↓iteB_true, ↓iteB_false, hr4, g4, gN, List.isEmpty_nil, List.isEmpty_cons, sizeP hNY, putP0 hNY, putP hNY, settleP0 hNY, settleP hNY, rowP0 hNY, rowP hNY, storeP0 hNY hlkYN, storeP hNY hlkYN, List.length_nil, Nat.add_zero]
      have hPr : PrH (Y.plus [some (.cells 0 0 32 1 false [.v (.int .i64 i), .v (.int .i64 k), .v (.int .i64 0)]), some (.cells 0 0 104 1 false (prC lx ly tb)), none, none, none, none, none, none, none]) (N + 1) lx ly a c tb := ⟨by rw [plus_size, hNY]; simp, ⟨0, false, by rw [rowP hNY]; rfl⟩, hx1, hx2, hT.len⟩
      refine stillV_53 he hPr (by omega) ha hc hT _ _ _ ?_
      show AtO (contP _ _ _ _ _ _ _ _ _ _ _) _ _
      have hfl20 : (foundL (i : Int) (k : Int) 0 a c).length ≤ 20 := by rw [found_len]; have := dist_sum a c; omega
      clear hPr hT hf hx1 hx2 hfl hbo f0 n0 n1 d0 hfr
      generalize foundL (i : Int) (k : Int) 0 a c = fd at hfl20 ⊢
      have hcl : ∀ H : Heap, cellsFrom H 5 (ofV fd) = some (fd.length, rdCells fd) := fun H => by
        rw [cells_of (ofV_rds fd) H, List.length_map, List.flatMap_map]; rfl
      have hob : objsOf (ofV fd) = [] := by cases fd <;> rfl
      have hrf := rdCells_flat fd
      have hrb := rdCells_bound fd
      rcases Nat.eq_zero_or_pos fd.length with hz | hz
      · obtain rfl : fd = [] := List.length_eq_zero_iff.1 hz
        have hst0 := fun E => storeLoK (X := Y) (b := 4) (v := 0) (k := 1) (x := .v (.slice none 0 0)) (by omega) (by omega) h4' (Nat.le_refl _) rfl E
        rcases hl with ⟨rfl, rfl, rfl⟩ | ⟨b, v, hs0, rfl, hb5, hbm, rfl⟩
        · simp -implicitDefEqProofs only [go_sem, ↓reduceIte, Int.reduceEq, Int.reduceLT, Int.reduceLE, List.reduceReplicate, intA, setT_nil, setT_cons, ↓boolP_bool, ↓iteB_true, ↓iteB_false, hr4, g4, gN, hst0, ofV_nil, boundL_nil, List.all_nil, List.append_nil, List.nil_append, sizeP hNY, putP0 hNY, putP hNY, settleP0 hNY, settleP hNY, rowP0 hNY, rowP hNY, storeP0 hNY hlkYN, storeP hNY hlkYN, List.length_nil, Nat.add_zero, bd2K_at]
          have hm2 : (if m2 ≤ 0 then 0 else m2) = m2 := by split <;> omega
          rw [hm2]
          have hfin := finW hD7 (rows := []) hN hlk hszN hH hsmY hlY (Or.inl ⟨rfl, rfl, rfl⟩) (P := Y.put 4 (.cells 0 m2 53 1 false [.v (.int .i64 id), .v (.slice none 0 0)])) (by rw [put_sizeI _ (by omega)]; exact hNY) hlkY (put_get_eq _ (by omega)) (fun b _ h4 _ => put_get_ne _ (by omega) h4) [some (.cells 0 0 32 1 false [.v (.int .i64 i), .v (.int .i64 k), .v (.int .i64 0)]), some (.cells 0 0 104 1 false (prC lx ly tb)), none, none, none, none, none, none, none] (by simp) (fun p hp => nomatch hp) (fun p hp => nomatch hp)
          rw [List.append_nil] at hfin
          exact hfin
        · have hgb : Y.get b = some (.cells v 0 65 5 true (rdCells s)) := hHY _ (List.mem_append_right _ (List.mem_singleton.2 rfl))
          have hbN : b < N := by have := get_ltS hgb; omega
          have gb : ltB b (N + 2) = true := by unfold ltB; simp; omega
          simp -implicitDefEqProofs only [go_sem, ↓reduceIte, Int.reduceEq, Int.reduceLT, Int.reduceLE, List.reduceReplicate, intA, setT_nil, setT_cons, ↓boolP_bool, ↓iteB_true, ↓iteB_false, hr4, g4, gN, gb, hst, ofV_nil, appTo_none, boundL_nil, List.all_nil, List.append_nil, List.nil_append, sizeP hNY, putP0 hNY, putP hNY, settleP0 hNY, settleP hNY, rowP0 hNY, rowP hNY, storeP0 hNY hlkYN, storeP hNY hlkYN, List.length_nil, Nat.add_zero, bd2K_at]
          have hm2 : b < (if m2 ≤ bound (AV.sl b v 0 s.length none) then bound (AV.sl b v 0 s.length none) else m2) := by rw [bound_sl]; split <;> omega
          generalize (if m2 ≤ bound (AV.sl b v 0 s.length none) then bound (AV.sl b v 0 s.length none) else m2) = m2' at *
          exact finW hD7 hN hlk hszN hH hsmY hlY (Or.inr ⟨b, v, hs0, rfl, hb5, hm2, rfl⟩) (P := Y.put 4 (.cells 0 m2' 53 1 false [.v (.int .i64 id), .sl b v 0 s.length none])) (by rw [put_sizeI _ (by omega)]; exact hNY) hlkY (put_get_eq _ (by omega)) (fun b _ h4 _ => put_get_ne _ (by omega) h4) _ (by simp) (fun p hp => by rw [List.mem_singleton.1 hp, plus_get _ (by rw [put_sizeI _ (by omega)]; omega), put_get_ne _ (by omega) (by omega)]; exact hgb) (fun p hp => Or.inr ⟨p, hp, rfl⟩)
      · have hz' : (fd.length = 0) = False := eq_false (by omega)
        have hfit : fitsA 48 fd.length = true := by unfold fitsA; exact decide_eq_true (by omega)
        have n6 : N + 2 + 4 = N + 6 := rfl
        rcases hl with ⟨rfl, rfl, rfl⟩ | ⟨b, v, hs0, rfl, hb5, hbm, rfl⟩
        · simp -implicitDefEqProofs only [go_sem, ↓reduceIte, Int.reduceEq, Int.reduceLT, Int.reduceLE, List.reduceReplicate, intA, setT_nil, setT_cons, ↓boolP_bool, ↓iteB_true, ↓iteB_false, hr4, g4, gN, hst, hcl, hob, hrf, hrb, hz', hfit, n6, List.append_nil, List.nil_append, sizeP hNY, putP0 hNY, putP hNY, settleP0 hNY, settleP hNY, rowP0 hNY, rowP hNY, storeP0 hNY hlkYN, storeP hNY hlkYN, List.length_nil, Nat.add_zero, bd2K_at]
          have hm2 : N + 6 < (if m2 ≤ bound (AV.sl (N + 6) 0 0 fd.length none) then bound (AV.sl (N + 6) 0 0 fd.length none) else m2) := by rw [bound_sl]; split <;> omega
          generalize (if m2 ≤ bound (AV.sl (N + 6) 0 0 fd.length none) then bound (AV.sl (N + 6) 0 0 fd.length none) else m2) = m2' at *
          have hP : (Y.put 4 (.cells 0 m2' 53 1 false [.v (.int .i64 id), .sl (N + 6) 0 0 fd.length none])).size = N := by rw [put_sizeI _ (by omega)]; exact hNY
          have hfin := finW hD7 (rows := []) hN hlk hszN hH hsmY hlY (Or.inr ⟨N + 6, 0, (fun h => by rw [h] at hz; exact absurd hz (by simp)), rfl, by omega, hm2, rfl⟩) (P := Y.put 4 (.cells 0 m2' 53 1 false [.v (.int .i64 id), .sl (N + 6) 0 0 fd.length none])) hP hlkY (put_get_eq _ (by omega)) (fun b _ h4 _ => put_get_ne _ (by omega) h4) [some (.cells 0 0 32 1 false [.v (.int .i64 i), .v (.int .i64 k), .v (.int .i64 0)]), some (.cells 0 0 104 1 false (prC lx ly tb)), none, none, none, none, some (.cells 0 0 65 5 true (rdCells fd)), none, none] (by simp) (fun p hp => by rw [List.mem_singleton.1 hp, plus_get_hi _ (by simp only; omega), hP, Nat.add_sub_cancel_left]; rfl) (fun p hp => Or.inl (by rw [List.mem_singleton.1 hp]; simp only; omega))
          rw [List.append_nil] at hfin
          exact hfin
        · have hgb : Y.get b = some (.cells v 0 65 5 true (rdCells s)) := hHY _ (List.mem_append_right _ (List.mem_singleton.2 rfl))
          have hbN : b < N := by have := get_ltS hgb; omega
          have gb : ltB b (N + 2) = true := by unfold ltB; simp; omega
          have hrb' : ∀ E, (Y.plus E).row b v = some (0, 65, 5, true, rdCells s) := fun E => by rw [rowLo (by omega)]; exact get_row hgb
          have happ := fun E slot => appTo_own (H := Y.plus E) (slot := slot) (e := 65) (sz := 5) (b' := 48) (n := fd.length) (new := rdCells fd) (hrb' E) (by rw [rdCells_len]) (by show Y.lock ≤ _; omega) (by unfold fitsA; exact decide_eq_true (by omega)) hz (by omega)
          have hpl := fun E o => putLo (X := Y) (b := b) (by omega) E o
          have hsto := fun o (w : AV) (hw : w.flat = true) E => storeLoK (X := Y.put b o) (b := 4) (v := 0) (k := 1) (x := w) (by rw [put_sizeI _ (by omega)]; omega) (by show Y.lock ≤ 4; omega) (get_row ((put_get_ne o (by omega) (by omega)).trans (row_of_get h4'))) (Nat.le_refl _) hw E
          have hsto := fun o b' v' l' c' E => hsto o (.sl b' v' 0 l' c') rfl E
          rw [hrb] at happ
          simp -implicitDefEqProofs only [go_sem, ↓reduceIte, Int.reduceEq, Int.reduceLT, Int.reduceLE, List.reduceReplicate, intA, setT_nil, setT_cons, ↓boolP_bool, ↓iteB_true, ↓iteB_false, hr4, g4, gN, gb, hcl, hob, hrf, happ, hpl, hsto, List.append_nil, List.nil_append, sizeP hNY, putP0 hNY, putP hNY, settleP0 hNY, settleP hNY, rowP0 hNY, rowP hNY, storeP0 hNY hlkYN, storeP hNY hlkYN, List.length_nil, Nat.add_zero, bd2K_at]
          have hm2 : b < (if m2 ≤ bound (AV.sl b (v + 1) 0 (s.length + fd.length) none) then bound (AV.sl b (v + 1) 0 (s.length + fd.length) none) else m2) := by rw [bound_sl]; split <;> omega
          generalize (if m2 ≤ bound (AV.sl b (v + 1) 0 (s.length + fd.length) none) then bound (AV.sl b (v + 1) 0 (s.length + fd.length) none) else m2) = m2' at *
          have hP1 : (Y.put b (.cells (v + 1) 0 65 5 true (rdCells s ++ rdCells fd))).size = N := by rw [put_sizeI _ (by omega)]; exact hNY
          have hP : ((Y.put b (.cells (v + 1) 0 65 5 true (rdCells s ++ rdCells fd))).put 4 (.cells 0 m2' 53 1 false [.v (.int .i64 id), .sl b (v + 1) 0 (s.length + fd.length) none])).size = N := by rw [put_sizeI _ (by omega)]; exact hP1
          refine finW hD7 hN hlk hszN hH hsmY hlY (rows' := [(b, .cells (v + 1) 0 65 5 true (rdCells (s ++ fd)))]) (Or.inr ⟨b, v + 1, (fun h => hs0 (List.append_eq_nil_iff.1 h).1), by rw [List.length_append], hb5, hm2, rfl⟩) hP hlkY (put_get_eq _ (by omega)) (fun b' _ h4 h5 => ?_) _ (by simp) (fun p hp => ?_) (fun p hp => ?_)
          · rw [put_get_ne _ (by omega) h4, put_get_ne _ (by omega) (fun he => h5 ⟨_, List.mem_singleton.2 rfl, he.symm⟩)]
          · rw [List.mem_singleton.1 hp, plus_get _ (by rw [hP]; exact hbN), put_get_ne _ (by omega) (by simp only; omega), put_get_eq _ (by omega), rdCells_append]
          · rw [List.mem_singleton.1 hp]; exact Or.inr ⟨_, List.mem_singleton.2 rfl, rfl⟩
  · intro q hq
    unfold base22 at hq
    simp only [List.mem_cons, List.not_mem_nil, or_false] at hq
    rcases hq with rfl | rfl | rfl | rfl <;> rfl
  · intro m' H' hR hH hd hdead hmv hsz
    have hlk : H'.lock = 0 := hmv.lock
    have hsz : F.length + 7 + 2 ≤ H'.size := hsz
    have hd : H'.get (F.length + 7) = some .dfr := hd
    rw [hrun.2] at hR ⊢
    obtain ⟨lv, m2, rows, hl, rfl⟩ := hR
    simp only at hl
    have hr4 : H'.row 4 0 = some (m2, 53, 1, false, [.v (.int .i64 id), lv]) := get_row (hH (4, .cells 0 m2 53 1 false [intA id, lv]) (List.mem_append_left _ (by unfold base22; simp)))
    have hr2 : H'.row 2 0 = some (0, 53, 1, false, [.v (.int .i64 0), .v (.slice none 0 0)]) := get_row (hH (2, .cells 0 0 53 1 false [intA 0, .v (.slice none 0 0)]) (List.mem_append_left _ (by unfold base22; simp)))
    have hsl : slLen lv = some (.v (.int .i64 ((foundT 0 t u).length : Nat))) := by
      rcases hl with ⟨h0, rfl, -⟩ | ⟨b, v, -, rfl, -⟩
      · rw [h0]; rfl
      · rfl
    have hgt : ¬ (20 : Int) < ((foundT 0 t u).length : Nat) := by omega
    have hfl : lv.flat = true := by
      rcases hl with ⟨h0, rfl, -⟩ | ⟨b, v, -, rfl, -⟩ <;> rfl
    obtain ⟨m5, hst2⟩ : ∃ m5, storeCells H' 2 0 0 [.v (.int .i64 id), lv] = some (H'.put 2 (.cells 0 m5 53 1 false [.v (.int .i64 id), lv])) := by
      refine ⟨Nat.max 0 (boundL [.v (.int .i64 id), lv]), ?_⟩
      unfold storeCells
      rw [hr2]
      simp only
      rw [if_pos ⟨by omega, by simp, by simp [hfl]; rfl⟩]
      rfl
    have hP : (H'.put 2 (.cells 0 m5 53 1 false [.v (.int .i64 id), lv])).size = H'.size := put_sizeI _ (by omega)
    have hset := settle_eqN hP
    have hrowP : (H'.put 2 (.cells 0 m5 53 1 false [.v (.int .i64 id), lv])).row 2 0 = some (m5, 53, 1, false, [.v (.int .i64 id), lv]) := get_row (put_get_eq _ (by omega))
    have hkill : killAll [F.length + 1 + 1 + 1 + 1 + 1 + 1 + 1] (H'.put 2 (.cells 0 m5 53 1 false [.v (.int .i64 id), lv])) = some ((H'.put 2 (.cells 0 m5 53 1 false [.v (.int .i64 id), lv])).put (F.length + 7) .dead) := by
      show killAll [F.length + 7] _ = _
      unfold killAll
      rw [put_get_ne _ (by omega) (by omega), hd]
      show (if H'.lock ≤ F.length + 7 then killAll [] _ else none) = _
      rw [if_pos (by omega)]; rfl
    have hr2' : ((H'.put 2 (.cells 0 m5 53 1 false [.v (.int .i64 id), lv])).put (F.length + 7) .dead).row 2 0 = some (m5, 53, 1, false, [.v (.int .i64 id), lv]) := get_row ((put_get_ne _ (by omega) (by omega)).trans (put_get_eq _ (by omega)))
    have hrows : ∀ p ∈ rows, ((H'.put 2 (.cells 0 m5 53 1 false [.v (.int .i64 id), lv])).put (F.length + 7) .dead).get p.1 = some p.2 := fun p hp => by
      have h7 := hl.lo hp
      rw [put_get_ne _ (by omega) (by omega), put_get_ne _ (by omega) (by omega)]
      exact hH p (List.mem_append_right _ hp)
    have hlk2 : ((H'.put 2 (.cells 0 m5 53 1 false [.v (.int .i64 id), lv])).put (F.length + 7) .dead).lock = 0 := hlk
    clear hmv hdead hy hitems hall22 h52
    simp -implicitDefEqProofs only [go_sem, ↓reduceIte, Int.reduceEq, Int.reduceLT, Int.reduceLE, List.reduceReplicate, intA, setT_nil, setT_cons, ↓boolP_bool, ↓iteB_true, ↓iteB_false, hr4, hr2, hsl, hgt, hst2, hset, hkill, hr2']
    generalize (H'.put 2 (.cells 0 m5 53 1 false [.v (.int .i64 id), lv])).put (F.length + 7) .dead = W at hrows hlk2 ⊢
    exact freeze22 hl hrows hlk2 id
end Go.Ev
namespace Go.Ev
open Go.Proofs
set_option maxRecDepth 100000
set_option linter.unusedSimpArgs false
attribute [local irreducible] Wp WpS
/-! ### the copy that is found -/
theorem wordB_size {s : ByteArray} (h : wordB s = true) : s.size ≤ 12 := by
  unfold wordB withinB at h
  simp only [List.all_cons, List.all_nil, Bool.and_true, Bool.and_eq_true, decide_eq_true_eq] at h
  omega
theorem not_great {t : Txt} (hs : Small t) : greatT t = false := by
  unfold greatT
  rw [Bool.or_eq_false_iff]
  refine ⟨decide_eq_false (by have := hs.chs; omega), List.any_eq_false.2 fun c hc h => ?_⟩
  unfold greatC at h
  rw [Bool.or_eq_true] at h
  rcases h with h | h
  · have := of_decide_eq_true h
    have := hs.lines c hc; omega
  · obtain ⟨l, hl, h⟩ := List.any_eq_true.1 h
    unfold greatL at h
    rw [Bool.or_eq_true] at h
    rcases h with h | h
    · have := of_decide_eq_true h
      have := hs.words c hc l hl; omega
    · obtain ⟨s, hm, h⟩ := List.any_eq_true.1 h
      have := of_decide_eq_true h
      have := wordB_size (hs.word c hc l hl s hm); omega
theorem ready_of {t : Txt} (h : textB t = true) : readyB t = true := by unfold readyB; rw [not_great (small_of h), h]; rfl
theorem found_sp {t v : Txt} (hs : shapeT t = shapeT v) {i : Nat} {p : Chap} (hp : t[i]? = some p) : ∃ q, v[i]? = some q ∧ p.1 = q.1 ∧ p.2.length = q.2.length := alike_get (decide_eq_true hs) hp
theorem found_read' {t v : Txt} (_hst : Small t) (hsv : Small v) {r : Rd} (hr : r ∈ foundT 0 t v) : readB t r = true ∧ RdF r := by
  obtain ⟨i, j, p, q, a, c, h1, h2, h3, h4, h5⟩ := foundT_mem r t v 0 hr
  rw [Nat.zero_add] at h5
  have hF := found_ok _ _ _ _ _ r h5
  have hLA := lineAt_nat h1 h3
  have hw : ∀ s ∈ c, wordB s = true := hsv.word q (List.mem_of_getElem? h2) c (List.mem_of_getElem? h4)
  have hlo := hF.lo
  have hhi := hF.hi
  have hwd : ∀ s ∈ c, s.size < 2 ^ 63 := fun s hm => by
    have := wordB_size (hw s hm)
    omega
  refine ⟨?_, ?_⟩
  · unfold readB
    rw [hF.ch, hF.ln, hLA]
    simp only
    rcases hF.kind with hk | hk | hk
    · rw [if_pos hk]
      rw [if_neg (by rw [hk]; decide)] at hhi
      unfold fits1
      rw [hF.none hk]
      simp; omega
    · rw [if_neg (by rw [hk]; decide), if_pos hk]
      rw [if_pos hk] at hhi
      unfold fits2 withinB
      rw [hw _ (hF.word (by rw [hk]; decide))]
      simp; omega
    · rw [if_neg (by rw [hk]; decide), if_neg (by rw [hk]; decide), if_pos hk]
      rw [if_neg (by rw [hk]; decide)] at hhi
      have ho := hF.other hk
      unfold fits3
      rw [hw _ (hF.word (by rw [hk]; decide))]
      have hwn : r.wd = (r.wd.toNat : Int) := by omega
      have hlt : r.wd.toNat < a.length := by omega
      have h9 : at0 a r.wd = a[r.wd.toNat] := by
        unfold at0; rw [List.getElem?_eq_getElem hlt]; rfl
      have h10 := ho a[r.wd.toNat] (by rw [Nat.sub_zero]; exact List.getElem?_eq_getElem hlt)
      rw [h9]
      simp [h10]; omega
  · refine ⟨?_, ?_, ?_⟩
    · rcases hF.kind with hk | hk | hk <;> omega
    · rcases hF.kind with hk | hk | hk <;> omega
    · rcases hF.kind with hk | hk | hk
      · rw [hF.none hk]; decide
      · exact hwd _ (hF.word (by rw [hk]; decide))
      · exact hwd _ (hF.word (by rw [hk]; decide))
theorem found_cpy {t v : Txt} (hst : Small t) (hsv : Small v) : Cpy t (foundT 0 t v) := ⟨fun _ hr => (found_read' hst hsv hr).1, foundT_ord t v 0⟩
theorem found_text {t v : Txt} (hst : Small t) (hsv : Small v) (hs : shapeT t = shapeT v) : readT t (foundT 0 t v) = v := by
  have hl : t.length = v.length := by
    have := congrArg List.length hs
    unfold shapeT at this
    simpa using this
  apply List.ext_getElem?
  intro i
  cases hp : t[i]? with
  | none =>
    have h1 : (readT t (foundT 0 t v))[i]? = none := by unfold readT; rw [List.getElem?_mapIdx, hp]; rfl
    rw [h1, List.getElem?_eq_none_iff.2 (by rw [← hl]; exact List.getElem?_eq_none_iff.1 hp)]
  | some p =>
    obtain ⟨q, hq, e1, e2⟩ := found_sp hs hp
    rw [readT_get hp, hq]
    congr 1
    have hlines : (p.2.mapIdx fun n l => refLine l (foundT 0 t v) i n) = q.2 := by
      apply List.ext_getElem?
      intro j
      rw [List.getElem?_mapIdx]
      cases ha : p.2[j]? with
      | none => rw [List.getElem?_eq_none_iff.2 (by rw [← e2]; exact List.getElem?_eq_none_iff.1 ha)]; rfl
      | some a =>
        obtain ⟨c, hc⟩ := at_lt q.2 j (by rw [← e2]; exact (List.getElem?_eq_some_iff.1 ha).1)
        have hLA := lineAt_nat hp ha
        rw [hc, Option.map_some, (found_cpy hst hsv).line hLA (hst.ne hLA)]
        have := foundT_of t v 0 i j p q a c hp hq ha hc
        rw [Nat.zero_add] at this
        rw [this, found_line]
    rw [hlines, e1]
theorem foundT_right {t v : Txt} (hst : Small t) (hsv : Small v) (hs : shapeT t = shapeT v) {id : Int} (hid : withinB 0 9999 [id] = true) (hlen : (foundT 0 t v).length ≤ 20) : Right t id (foundT 0 t v) := by
  refine ⟨hid, by omega, found_cpy hst hsv, fun k n c l hc hl => ?_⟩
  obtain ⟨d, h1, h2⟩ := readT_line (rs := foundT 0 t v) hc hl
  rw [found_text hst hsv hs] at h1
  exact hsv.words d (List.mem_of_getElem? h1) _ (List.mem_of_getElem? h2)
end Go.Ev
namespace Go.Ev
open Go.Proofs
set_option maxRecDepth 100000
set_option linter.unusedSimpArgs false
attribute [local irreducible] Wp WpS
theorem call22 {e : Exts} (he : Quiet e) {t u : Txt} (ht : Fits t) (hu : Fits u) {ch ch' : AV} {xs xs' : List AV} (hch : SlOf 2 xs ch) (hall : All2 ChapA t xs) (hch' : SlOf 2 xs' ch') (hall' : All2 ChapA u xs') (h1 : textB t = true) (h2 : textB u = true) (h3 : alikeB t u = true) {id : Int} (hid : withinB 0 9999 [id] = true) (hlen : (foundT 0 t u).length ≤ 20) (me : FuncId) (d : Option Tmp) (H : Heap) : callA (Cx e) (lim (Cx e)) me 22 d [.agg [ch], .agg [ch'], .v (.int .i64 id)] H = some (.tup [.agg [.v (.int .i64 id), ofV (foundT 0 t u)], .v (.int .i64 0)], H) :=
  (ans22 he t u ht hu ch ch' xs xs' hch hall hch' hall' h1 h2 h3 id hid hlen).call (ext_22 he) (pure_22 _ _ _) (by simp only [boundL_cons, bound_agg, hch.bound, hch'.bound, boundL_nil, intA, bound_v]; rfl) H
set_option maxHeartbeats 4000000 in
theorem ans6 {e : Exts} (he : Quiet e) (hx12 : e 12 = some (atArgs [] (.v (.bool true)))) (t : Txt) (ht : Fits t) (ch : AV) (xs : List AV) (hch : SlOf 2 xs ch) (hall : All2 ChapA t xs) (id : Int) (rs : List Rd) (x : AV) (hx : RdsA rs x) (hrd : ∀ r ∈ rs, RdF r) :
    Ans (Cx e) 6 [.agg [ch], .agg [intA id, x]] (.v (.bool true)) := by
  have h13 := call13 he t ht _ ⟨ch, rfl, xs, hch, hall⟩
  have hxr := hx
  have hx : SlOf 5 (rs.map rdV) x := hx
  unfold Ans
  rw [fn_step (fn_6 e) (show Tryz.f6.body = some _ from rfl)]
  cases h1 : readyB t
  · rw [h1] at h13
    simp -implicitDefEqProofs only [Tryz.f6, go_sem, ↓reduceIte, Int.reduceEq, Int.reduceLT, Int.reduceLE, List.reduceReplicate, intA, setT_nil, setT_cons, ↓boolP_bool, ↓iteB_true, ↓iteB_false, hch.cells, hch.flat, hch.bound, hx.cells, hx.flat, hx.bound, call12 hx12, h13]
  rw [h1] at h13
  have htx := ready_text h1
  have hs := small_of htx
  have h28 := call28 he t ht (fun c hc l hl => by have := (hs.words c hc l hl).2; omega) ch xs hch hall id rs x hxr hrd
  cases h2 : rightB t id rs
  · rw [h2] at h28
    simp -implicitDefEqProofs only [Tryz.f6, go_sem, ↓reduceIte, Int.reduceEq, Int.reduceLT, Int.reduceLE, List.reduceReplicate, intA, setT_nil, setT_cons, ↓boolP_bool, ↓iteB_true, ↓iteB_false, hch.cells, hch.flat, hch.bound, hx.cells, hx.flat, hx.bound, call12 hx12, h13, h28]
  rw [h2] at h28
  have hR : Right t id rs := Right.of (by unfold rightB at h2; simp only [Bool.and_eq_true] at h2; exact h2.2)
  obtain ⟨ys, o, ho, hys, -, h25a⟩ := copyW he t hs ht htx ch xs hch hall id rs x hxr hrd hR
  have h25 := call25 he (by simp only [boundL_cons, bound_agg, hch.bound, intA, bound_v, hx.bound, boundL_nil]; rfl) h25a
  have hv := hR.fits ht hrd
  have hvx := hR.text htx
  have hvs := small_of hvx
  have s2 : shapeT t = shapeT (readT t rs) := (readT_shape t rs).symm
  have a2 : alikeB t (readT t rs) = true := decide_eq_true s2
  have c2 := call23 he ht hv hch hall ho hys htx hvx a2
  have e5 := readT_near hs hR.cpy
  have e6 := foundT_len t (readT t rs) 0
  have hlen := hR.len
  have hl20 : (foundT 0 t (readT t rs)).length ≤ 20 := by omega
  have c22 := call22 he ht hv hch hall ho hys htx hvx a2 hR.id hl20
  have hRf := foundT_right hs hvs s2 hR.id hl20
  have hfx := found_text hs hvs s2
  obtain ⟨ys2, o2, ho2, hys2, -, h25b⟩ := copyW he t hs ht htx ch xs hch hall id (foundT 0 t (readT t rs)) (ofV _) (ofV_rds _) (fun r hr => (found_read' hs hvs hr).2) hRf
  have h25c := call25 he (by simp only [boundL_cons, bound_agg, hch.bound, intA, bound_v, ofV_bound, boundL_nil]; rfl) h25b
  rw [hfx] at hys2
  have h13' := call13 he _ hv _ ⟨o, rfl, ys, ho, hys⟩
  rw [ready_of hvx] at h13'
  have h24 := call24 he t _ ht _ _ ⟨ch, rfl, xs, hch, hall⟩ ⟨o, rfl, ys, ho, hys⟩
  rw [a2] at h24
  have c5 := call27 he hv hv ho hys ho2 hys2
  have hof : SlOf 5 ((foundT 0 t (readT t rs)).map rdV) (ofV (foundT 0 t (readT t rs))) := ofV_rds _
  rw [← e6] at c2
  generalize foundT 0 t (readT t rs) = fd at *
  have q1 : ((fd.length : Nat) : Int) ≤ ((rs.length : Nat) : Int) := by omega
  simp -implicitDefEqProofs only [Tryz.f6, go_sem, ↓reduceIte, Int.reduceEq, Int.reduceLT, Int.reduceLE, List.reduceReplicate, intA, setT_nil, setT_cons, ↓boolP_bool, ↓iteB_true, ↓iteB_false, hch.cells, hch.flat, hch.bound, hx.cells, hx.flat, hx.bound, ho.cells, ho.flat, ho.bound, ho2.cells, ho2.flat, ho2.bound, hof.cells, hof.flat, hof.bound, hof.len, call12 hx12, h13, h28, h25, h13', h24, c2, c22, h25c, c5, q1, hx.len, List.length_map, eq_self, decide_true]
end Go.Ev
