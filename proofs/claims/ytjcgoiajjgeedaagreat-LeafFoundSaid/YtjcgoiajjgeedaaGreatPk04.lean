/- What the proof of this claim stands on, part 5: an evaluator of the model, proved right, and what it answers for functions of the program. -/
import Derived.Test.YtjcgoiajjgeedaaGreatPk03
set_option linter.unusedSimpArgs false
namespace Go.Ev
open Go.Proofs
set_option maxRecDepth 100000
set_option linter.unusedSimpArgs false
attribute [local irreducible] Wp WpS
/-! ### the lengths of the lines of a copy -/
def lenIt (x : List AV) : Int := match x with | [_, z] => ((slElems z).length : Int) | _ => 0
def lensOf (ys : List AV) : List Int := ys.flatMap fun y => (linesOf y).map fun z => ((slElems z).length : Int)
theorem lineIts_lens (i : Nat) : ∀ (k : Nat) (zs : List AV), (lineIts i k zs).map lenIt = zs.map fun z => ((slElems z).length : Int)
  | _, [] => rfl
  | k, z :: r => by
    show lenIt _ :: (lineIts i (k + 1) r).map lenIt = _
    rw [lineIts_lens i (k + 1) r]; rfl
theorem chapIts_lens : ∀ (i : Nat) (ys : List AV), (chapIts i ys).map lenIt = lensOf ys
  | _, [] => rfl
  | i, y :: r => by
    show (lineIts i 0 (linesOf y) ++ chapIts (i + 1) r).map lenIt = _
    rw [List.map_append, lineIts_lens, chapIts_lens (i + 1) r]; rfl
def stp58 (s : List Int) (x : List AV) : AExit × List Int := (.normal, s ++ [lenIt x])
/-- an item that is a place and a line -/
def Item58 (x : List AV) : Prop := ∃ p z els, x = [p, z] ∧ SlOf 1 els z
def ok58 (s : List Int) (x : List AV) : Prop := Item58 x ∧ s.length < 2 ^ 32
theorem run58 : ∀ (T : List (List AV)) (s : List Int), (∀ x ∈ T, Item58 x) → s.length + T.length ≤ 2 ^ 32 →
    okRun (fun s x => (isGo (stp58 s x).1, (stp58 s x).2)) ok58 T s ∧ foldE stp58 T s = (.normal, s ++ T.map lenIt)
  | [], s, _, _ => ⟨trivial, by simp [foldE]⟩
  | x :: r, s, h, hl => by
    have ih := run58 r (s ++ [lenIt x]) (fun z hz => h z (List.mem_cons_of_mem _ hz)) (by simp only [List.length_append, List.length_cons, List.length_nil] at hl ⊢; omega)
    refine ⟨⟨⟨h x (List.mem_cons_self ..), by simp only [List.length_cons] at hl; omega⟩, fun _ => ih.1⟩, ?_⟩
    rw [foldE_go rfl]
    show foldE stp58 r (s ++ [lenIt x]) = _
    rw [ih.2, List.map_cons, List.append_assoc]; rfl
/-- where the lengths lie -/
def L58 (s : List Int) (lv : AV) (m2 : Nat) (rows : Fm) : Prop := (s = [] ∧ lv = .v (.slice none 0 0) ∧ rows = []) ∨ ∃ b v, lv = .sl b v 0 s.length none ∧ 5 ≤ b ∧ b < m2 ∧ rows = [(b, .cells v 0 3 1 true (s.map intA))]
def base58 (ch : AV) (id : Int) (x lv : AV) (m2 : Nat) : Fm := [(0, .cells 0 0 79 1 false [ch]), (1, .cells 0 0 53 1 false [intA id, x]), (2, .cells 0 m2 133 1 false [lv])]
def R58 (ch : AV) (id : Int) (x : AV) (s : List Int) (m : Fm) : Prop := ∃ lv m2 rows, L58 s lv m2 rows ∧ m = base58 ch id x lv m2 ++ rows
theorem R58_anch {ch : AV} {id : Int} {x : AV} (s : List Int) (m : Fm) (h : R58 ch id x s m) : Anch 3 m := by
  obtain ⟨lv, m2, rows, hl, rfl⟩ := h
  rintro n hn ⟨p, hp, hnp⟩
  refine ⟨(2, .cells 0 m2 133 1 false [lv]), List.mem_append_left _ (by unfold base58; simp), by show 2 < n; omega, ?_⟩
  show n < m2
  rcases List.mem_append.1 hp with hp | hp
  · unfold base58 at hp
    simp only [List.mem_cons, List.not_mem_nil, or_false] at hp
    rcases hp with rfl | rfl | rfl <;> simp only at hnp <;> omega
  · rcases hl with ⟨-, -, rfl⟩ | ⟨b, v, -, h5, hb, rfl⟩
    · exact nomatch hp
    · rw [List.mem_singleton.1 hp] at hnp
      simp only at hnp; omega
theorem R58_free {ch : AV} {id : Int} {x : AV} (s : List Int) (m : Fm) (h : R58 ch id x s m) : ¬ keyIn 3 m ∧ ¬ keyIn 4 m := by
  obtain ⟨lv, m2, rows, hl, rfl⟩ := h
  have key : ∀ p ∈ base58 ch id x lv m2 ++ rows, p.1 ≠ 3 ∧ p.1 ≠ 4 := by
    intro p hp
    rcases List.mem_append.1 hp with hp | hp
    · unfold base58 at hp
      simp only [List.mem_cons, List.not_mem_nil, or_false] at hp
      rcases hp with rfl | rfl | rfl <;> exact ⟨by simp, by simp⟩
    · rcases hl with ⟨-, -, rfl⟩ | ⟨b, v, -, h5, hb, rfl⟩
      · exact nomatch hp
      · rw [List.mem_singleton.1 hp]
        exact ⟨by show b ≠ 3; omega, by show b ≠ 4; omega⟩
  exact ⟨fun ⟨p, hp, h⟩ => (key p hp).1 h, fun ⟨p, hp, h⟩ => (key p hp).2 h⟩
theorem fin58 {ch : AV} {id : Int} {x : AV} {s : List Int} {lv : AV} {m2 : Nat} {rows : Fm} {X Y W : Heap} {N : Nat} {L' : ALoop} (hXY : ∀ b, b ≠ 4 → Y.get b = X.get b) (hl4 : Y.get 4 = some (.loop L')) (hXN : X.size = N) (hlk : X.lock = 0) (hsz : 5 ≤ N)
    (hH : Has (base58 ch id x lv m2 ++ rows) Y) (n : Int) (b' v' m2' : Nat) (hW2 : W.get 2 = some (.cells 0 m2' 133 1 false [.sl b' v' 0 (s.length + 1) none])) (hWb : W.get b' = some (.cells v' 0 3 1 true ((s ++ [n]).map intA)))
    (hWo : ∀ b, b < N → b ≠ 2 → b ≠ b' → W.get b = Y.get b) (hWl : W.lock = 0) (hWs : N ≤ W.size) (h5 : 5 ≤ b') (hb : N ≤ b' ∨ keyIn b' rows) (hbm : b' < m2') :
    ∃ m', R58 ch id x (s ++ [n]) m' ∧ Has m' W ∧ loopObj W 4 = some L' ∧ Moves ((4, .loop L') :: (base58 ch id x lv m2 ++ rows)) X ((4, .loop L') :: m') W := by
  have hb0 : W.get 0 = some (.cells 0 0 79 1 false [ch]) := (hWo 0 (by omega) (by omega) (by omega)).trans (hH (0, _) (List.mem_append_left _ (by unfold base58; simp)))
  have hb1 : W.get 1 = some (.cells 0 0 53 1 false [intA id, x]) := (hWo 1 (by omega) (by omega) (by omega)).trans (hH (1, _) (List.mem_append_left _ (by unfold base58; simp)))
  have hb4 : W.get 4 = some (.loop L') := (hWo 4 (by omega) (by omega) (by omega)).trans hl4
  refine ⟨base58 ch id x (.sl b' v' 0 (s.length + 1) none) m2' ++ [(b', .cells v' 0 3 1 true ((s ++ [n]).map intA))], ⟨_, m2', _, Or.inr ⟨b', v', by rw [List.length_append]; rfl, h5, hbm, rfl⟩, rfl⟩, ?_, get_loopObj hb4, ⟨hWl.trans hlk.symm, by omega, ?_, ?_⟩⟩
  · intro p hp
    rcases List.mem_append.1 hp with hp | hp
    · unfold base58 at hp
      simp only [List.mem_cons, List.not_mem_nil, or_false] at hp
      rcases hp with rfl | rfl | rfl
      · exact hb0
      · exact hb1
      · exact hW2
    · rw [List.mem_singleton.1 hp]; exact hWb
  · intro b hbn hk
    have h4 : b ≠ 4 := fun h => hk ⟨_, List.mem_cons_self .., h.symm⟩
    have h2 : b ≠ 2 := fun h => hk ⟨(2, .cells 0 m2 133 1 false [lv]), List.mem_cons_of_mem _ (List.mem_append_left _ (by unfold base58; simp)), h.symm⟩
    have hbb : b ≠ b' := fun h => by
      rcases hb with hb | ⟨p, hp, he⟩
      · omega
      · exact hk ⟨p, List.mem_cons_of_mem _ (List.mem_append_right _ hp), by omega⟩
    rw [hWo b (by omega) h2 hbb, hXY b h4]
  · intro p hp
    rcases List.mem_cons.1 hp with rfl | hp
    · exact Or.inl ⟨_, List.mem_cons_self .., rfl⟩
    · rcases List.mem_append.1 hp with hp | hp
      · unfold base58 at hp
        simp only [List.mem_cons, List.not_mem_nil, or_false] at hp
        have hm : ∀ q ∈ base58 ch id x lv m2, keyIn q.1 ((4, AObj.loop L') :: (base58 ch id x lv m2 ++ rows)) := fun q hq => ⟨q, List.mem_cons_of_mem _ (List.mem_append_left _ hq), rfl⟩
        rcases hp with rfl | rfl | rfl
        · exact Or.inl (hm (0, .cells 0 0 79 1 false [ch]) (by unfold base58; simp))
        · exact Or.inl (hm (1, .cells 0 0 53 1 false [intA id, x]) (by unfold base58; simp))
        · exact Or.inl (hm (2, .cells 0 m2 133 1 false [lv]) (by unfold base58; simp))
      · rw [List.mem_singleton.1 hp]
        rcases hb with hb | ⟨q, hq, he⟩
        · exact Or.inr (by rw [hXN]; exact hb)
        · exact Or.inl ⟨q, List.mem_cons_of_mem _ (List.mem_append_right _ hq), he⟩
end Go.Ev
namespace Go.Ev
open Go.Proofs
set_option maxRecDepth 100000
set_option linter.unusedSimpArgs false
attribute [local irreducible] Wp WpS
theorem call80 {e : Exts} (he : Quiet e) (t : Txt) (ht : Fits t) (ch : AV) (xs : List AV) (hch : SlOf 2 xs ch) (hall : All2 ChapA t xs) (l : List Rd) (x : AV) (hx : RdsA l x) (hn : l.length < 2 ^ 63) (hrd : ∀ r ∈ l, RdF r) (me : FuncId) (d : Option Tmp) (H : Heap) : callA (Cx e) (lim (Cx e)) me 80 d [.agg [ch], x] H = some (.v (.bool (l.all (fitOne t))), H) :=
  (ans80 he t ht ch xs hch hall l x hx hn hrd).call (ext_80 he) (pure_80 _ _ _) (by simp only [boundL_cons, bound_agg, hch.bound, SlOf.bound hx, boundL_nil]; rfl) H
theorem fitsA8 : fitsA 8 1 = true := by decide
set_option maxHeartbeats 4000000 in
theorem ans58 {e : Exts} (he : Quiet e) (t : Txt) (ht : Fits t) (ch : AV) (xs : List AV) (hch : SlOf 2 xs ch) (hall : All2 ChapA t xs) (id : Int) (hid : withinB 0 9999 [id] = true) (rs : List Rd) (x : AV) (hx : RdsA rs x) (hrs : ¬ 20 < (rs.length : Int)) (hrd : ∀ r ∈ rs, RdF r) (hfit : rs.all (fitOne t) = true) (hord : ordB rs = true) (ys : List AV) (o : AV) (ho : SlOf 2 ys o) (hys : ∀ y ∈ ys, OkCh y) (hyl : ys.length < 2 ^ 63) (hit : ∀ z ∈ chapIts 0 ys, Item58 z) (hcnt : (chapIts 0 ys).length < 2 ^ 32) (h55 : Ans (Cx e) 55 [.agg [ch], .agg [intA id, x]] (.agg [o])) : Ans (Cx e) 58 [.agg [ch], .agg [intA id, x]] (.v (.bool (withinB 1 10 (lensOf ys)))) := by
  have hxr := hx
  have hx : SlOf 5 (rs.map rdV) x := hx
  have hc55 : ∀ (me : FuncId) (d : Option Tmp) (H : Heap), callA (Cx e) (lim (Cx e)) me 55 d [.agg [ch], .agg [.v (.int .i64 id), x]] H = some (.agg [o], H) := fun me d H =>
    h55.call (ext_55 he) (pure_55 _ _ _) (by simp only [boundL_cons, bound_agg, hch.bound, intA, bound_v, hx.bound, boundL_nil]; rfl) H
  have h51 := call51 he id
  rw [hid] at h51
  have h80 := call80 he t ht ch xs hch hall rs x hxr (by omega) hrd
  rw [hfit] at h80
  have h81 := call81 he rs x hxr (by omega)
  rw [hord] at h81
  unfold Ans
  rw [fn_step (fn_58 e) (show Tryz.f58.body = some _ from rfl)]
  simp -implicitDefEqProofs only [Tryz.f58, go_sem, ↓reduceIte, Int.reduceEq, Int.reduceLT, Int.reduceLE, List.reduceReplicate, intA, setT_nil, setT_cons, ↓boolP_bool, ↓iteB_true, ↓iteB_false, hch.cells, hch.flat, hch.bound, hx.cells, hx.flat, hx.bound, hx.len, List.length_map, h51, h80, h81, hrs, hc55, ho.cells, ho.flat, ho.bound, call64 he o ys ho]
  refine wp_range2 (yields2_88 o ys ho hys hyl) rfl (R58 ch id x) stp58 (fun _ => True) ok58 (n0 := 3) (k := 0) (Nat.le_refl _) (Nat.zero_le _) ?_ (fun s m h => R58_anch s m h) (fun s m h => R58_free s m h) ?_ ?_ [] (base58 ch id x (.v (.slice none 0 0)) 0) ?_ ?_ ?_ ?_ ?_ ?_
  · intro z hz
    obtain ⟨p, z, els, rfl, -⟩ := hit z hz
    rfl
  · intro _ _ _ _ _; trivial
  · intro L L' s m z X hL hs hok hxl hR hH hd0 hl1 hlk hsz
    obtain ⟨⟨p, z, els, rfl, hz⟩, hsl⟩ := hok
    obtain ⟨lv, m2, rows, hl, rfl⟩ := hR
    have hsz : 5 ≤ X.size := hsz
    have hl1 : loopObj X 4 = some L := hl1
    have hd0 : X.get 3 = some .dfr := hd0
    generalize hN : X.size = N at *
    have hlkN : X.lock ≤ N := by rw [hlk]; exact Nat.zero_le _
    rw [← plus_nil X]
    simp -implicitDefEqProofs only [go_sem, ↓reduceIte, Int.reduceEq, Int.reduceLT, Int.reduceLE, List.reduceReplicate, intA, setT_nil, setT_cons, sizeP hN, putP0 hN, putP hN, settleP0 hN, settleP hN, rowP0 hN, rowP hN, storeP0 hN hlkN, storeP hN hlkN]
    refine ⟨rfl, ?_, ?_⟩
    · refine get_loopObj ?_
      rw [plus_get _ (by omega)]; exact loopObj_getI hl1
    · rw [putLo (by omega)]
      have hf := R58_free (ch := ch) (id := id) (x := x) s _ ⟨lv, m2, rows, hl, rfl⟩
      have hH4 := hH.put (.loop L') (b := 4) (by omega) hf.2
      have hN4 : (X.put 4 (.loop L')).size = N := by rw [put_sizeI _ (by omega)]; exact hN
      have hlk4 : (X.put 4 (.loop L')).lock = 0 := hlk
      have hl4 : (X.put 4 (.loop L')).get 4 = some (.loop L') := put_get_eq _ (by omega)
      have hsm4 : ∀ b, b ≠ 4 → (X.put 4 (.loop L')).get b = X.get b := fun b hb => put_get_ne _ (by omega) hb
      generalize X.put 4 (.loop L') = Y at *
      have hlkY : Y.lock ≤ N := by rw [hlk4]; exact Nat.zero_le _
      have h2' : Y.row 2 0 = some (m2, 133, 1, false, [lv]) := get_row (hH4 (2, _) (List.mem_append_left _ (by unfold base58; simp)))
      have hr2 : ∀ E, (Y.plus E).row 2 0 = some (m2, 133, 1, false, [lv]) := fun E => by rw [rowLo (by omega)]; exact h2'
      have hst := fun (w : AV) (hw : w.flat = true) E => storeLoK (X := Y) (b := 2) (v := 0) (k := 0) (x := w) (by omega) (by omega) h2' (Nat.le_refl _) hw E
      have hst := fun b' v' l' c' E => hst (.sl b' v' 0 l' c') rfl E
      have hn : lenIt [p, z] = (els.length : Int) := by show ((slElems z).length : Int) = _; rw [hz.elems]
      rcases hl with ⟨rfl, rfl, rfl⟩ | ⟨b, v, rfl, hb5, hbm, rfl⟩
      · simp -implicitDefEqProofs only [go_sem, ↓reduceIte, Int.reduceEq, Int.reduceLT, Int.reduceLE, List.reduceReplicate, intA, setT_nil, setT_cons, sizeP hN4, putP0 hN4, putP hN4, settleP0 hN4, settleP hN4, rowP0 hN4, rowP hN4, storeP0 hN4 hlkY, storeP hN4 hlkY, hr2, hz.len, fitsA8, hst, List.flatMap_cons, List.flatMap_nil]
        rw [show stp58 [] [p, z] = (.normal, [] ++ [(els.length : Int)]) by unfold stp58; rw [hn]]
        rw [plus_nil]
        refine ⟨rfl, ?_⟩
        have hmm : N < (if m2 ≤ bound (AV.sl N 0 0 1 none) then bound (AV.sl N 0 0 1 none) else m2) := by rw [bound_sl]; split <;> omega
        generalize (if m2 ≤ bound (AV.sl N 0 0 1 none) then bound (AV.sl N 0 0 1 none) else m2) = m2' at *
        have hP : (Y.put 2 (.cells 0 m2' 133 1 false [.sl N 0 0 1 none])).size = N := by rw [put_sizeI _ (by omega)]; exact hN4
        have hH5 : Has (base58 ch id x (.v (.slice none 0 0)) m2 ++ []) Y := hH4
        have hfin := fin58 (W := settleH N ((Y.put 2 (.cells 0 m2' 133 1 false [.sl N 0 0 1 none])).plus [some (.cells 0 0 3 1 true [.v (.int .i64 els.length)])])) (s := []) hsm4 hl4 hN hlk hsz hH5 (els.length : Int) N 0 m2' ?_ ?_ ?_ ?_ ?_ hsz (Or.inl (Nat.le_refl _)) hmm
        · simpa using hfin
        · rw [settle_lo (by omega), plus_get _ (by omega)]; exact put_get_eq _ (by omega)
        · refine settle_some ?_
          rw [plus_get_hi _ (by omega), hP, Nat.sub_self]; rfl
        · intro b hb h2 hbb
          rw [settle_lo (by omega), plus_get _ (by omega), put_get_ne _ (by omega) (by omega)]
        · rw [settle_lock]; exact hlk4
        · exact settle_size' (by rw [plus_size, hP]; omega)
      · have hgb : Y.get b = some (.cells v 0 3 1 true (s.map intA)) := hH4 _ (List.mem_append_right _ (List.mem_singleton.2 rfl))
        have hbN : b < N := by have := get_ltS hgb; omega
        have hrb : ∀ E, (Y.plus E).row b v = some (0, 3, 1, true, s.map intA) := fun E => by rw [rowLo (by omega)]; exact get_row hgb
        have happ := fun E slot => appTo_own (H := Y.plus E) (slot := slot) (e := 3) (sz := 1) (b' := 8) (n := 1) (new := [.v (.int .i64 els.length)]) (hrb E) (by rw [Nat.mul_one, List.length_map]) (by show Y.lock ≤ _; omega) (by unfold fitsA; exact decide_eq_true (by omega)) (by omega) (by omega)
        have hpl := fun E o => putLo (X := Y) (b := b) (by omega) E o
        have hsto := fun o (w : AV) (hw : w.flat = true) E => storeLoK (X := Y.put b o) (b := 2) (v := 0) (k := 0) (x := w) (by rw [put_sizeI _ (by omega)]; omega) (by show Y.lock ≤ 2; omega) (get_row ((put_get_ne o (by omega) (by omega)).trans (row_of_get h2'))) (Nat.le_refl _) hw E
        have hsto := fun o b' v' l' c' E => hsto o (.sl b' v' 0 l' c') rfl E
        simp -implicitDefEqProofs only [go_sem, ↓reduceIte, Int.reduceEq, Int.reduceLT, Int.reduceLE, List.reduceReplicate, intA, setT_nil, setT_cons, sizeP hN4, putP0 hN4, putP hN4, settleP0 hN4, settleP hN4, rowP0 hN4, rowP hN4, storeP0 hN4 hlkY, storeP hN4 hlkY, hr2, hz.len, hst, List.flatMap_cons, List.flatMap_nil, happ, hpl, hsto]
        rw [show stp58 s [p, z] = (.normal, s ++ [(els.length : Int)]) by unfold stp58; rw [hn]]
        rw [plus_nil X]
        refine ⟨rfl, ?_⟩
        have hmm : b < (if m2 ≤ bound (AV.sl b (v + 1) 0 (s.length + 1) none) then bound (AV.sl b (v + 1) 0 (s.length + 1) none) else m2) := by rw [bound_sl]; split <;> omega
        generalize (if m2 ≤ bound (AV.sl b (v + 1) 0 (s.length + 1) none) then bound (AV.sl b (v + 1) 0 (s.length + 1) none) else m2) = m2' at *
        have hP1 : (Y.put b (.cells (v + 1) 0 3 1 true (s.map intA ++ [.v (.int .i64 els.length)]))).size = N := by rw [put_sizeI _ (by omega)]; exact hN4
        have hP : ((Y.put b (.cells (v + 1) 0 3 1 true (s.map intA ++ [.v (.int .i64 els.length)]))).put 2 (.cells 0 m2' 133 1 false [.sl b (v + 1) 0 (s.length + 1) none])).size = N := by rw [put_sizeI _ (by omega)]; exact hP1
        have hfin := fin58 (W := settleH N (((Y.put b (.cells (v + 1) 0 3 1 true (s.map intA ++ [.v (.int .i64 els.length)]))).put 2 (.cells 0 m2' 133 1 false [.sl b (v + 1) 0 (s.length + 1) none])).plus [])) (s := s) hsm4 hl4 hN hlk hsz hH4 (els.length : Int) b (v + 1) m2' ?_ ?_ ?_ ?_ ?_ hb5 (Or.inr ⟨_, List.mem_singleton.2 rfl, rfl⟩) hmm
        · exact hfin
        · rw [settle_lo (by omega), plus_get _ (by omega)]; exact put_get_eq _ (by omega)
        · rw [settle_lo (by omega), plus_get _ (by omega), put_get_ne _ (by omega) (by omega), put_get_eq _ (by omega), List.map_append]; rfl
        · intro b' hb h2 hbb
          rw [settle_lo (by omega), plus_get _ (by omega), put_get_ne _ (by omega) (by omega), put_get_ne _ (by omega) (by omega)]
        · rw [settle_lock]; exact hlk4
        · exact settle_size' (by rw [plus_size, hP]; omega)
  · exact (run58 _ _ hit (by simp only [List.length_nil]; omega)).1
  · trivial
  · exact ⟨_, 0, [], Or.inl ⟨rfl, rfl, rfl⟩, by rw [List.append_nil]⟩
  · intro q hq
    unfold base58 at hq
    simp only [List.mem_cons, List.not_mem_nil, or_false] at hq
    rcases hq with rfl | rfl | rfl <;> rfl
  · rfl
  · intro m' H' hR hH hd hdead hmv hsz
    rw [(run58 _ _ hit (by simp only [List.length_nil]; omega)).2] at hR ⊢
    obtain ⟨lv, m2, rows, hl, rfl⟩ := hR
    have hlk : H'.lock = 0 := hmv.lock
    have hsz : 5 ≤ H'.size := hsz
    have hd : H'.get 3 = some .dfr := hd
    simp only [List.nil_append, chapIts_lens] at hl
    have hr2 : H'.row 2 0 = some (m2, 133, 1, false, [lv]) := get_row (hH (2, _) (List.mem_append_left _ (by unfold base58; simp)))
    have hcl : (lensOf ys).length < 2 ^ 63 := by rw [← chapIts_lens 0 ys, List.length_map]; omega
    have hslh : SlH H' ((lensOf ys).map intA) lv := by
      rcases hl with ⟨h0, rfl, -⟩ | ⟨b, v, rfl, hb5, hbm, rfl⟩
      · exact Or.inl (Or.inl ⟨rfl, by rw [h0]; rfl⟩)
      · have hgb : H'.get b = some (.cells v 0 3 1 true ((lensOf ys).map intA)) := hH _ (List.mem_append_right _ (List.mem_singleton.2 rfl))
        exact Or.inr ⟨b, v, none, 0, 3, true, _, by rw [List.length_map], get_size hgb, get_row hgb, List.take_length, Nat.le_refl _⟩
    have hc82 := callP82 he (lensOf ys) lv hslh hcl
    have hkill : killAll [3] H' = some (H'.put 3 .dead) := by
      unfold killAll
      rw [hd]
      show (if H'.lock ≤ 3 then killAll [] (H'.put 3 .dead) else none) = _
      rw [if_pos (by omega)]; rfl
    clear hmv hdead
    simp -implicitDefEqProofs only [go_sem, ↓reduceIte, Int.reduceEq, Int.reduceLT, Int.reduceLE, List.reduceReplicate, intA, setT_nil, setT_cons, hr2, hc82, hkill]
theorem has58 {e : Exts} (he : Quiet e) (t : Txt) (ht : Fits t) (ch : AV) (xs : List AV) (hch : SlOf 2 xs ch) (hall : All2 ChapA t xs) (id : Int) (hid : withinB 0 9999 [id] = true) (rs : List Rd) (x : AV) (hx : RdsA rs x) (hrs : ¬ 20 < (rs.length : Int)) (hrd : ∀ r ∈ rs, RdF r) (hfit : rs.all (fitOne t) = true) (hord : ordB rs = true) (ys : List AV) (o : AV) (ho : SlOf 2 ys o) (hys : ∀ y ∈ ys, OkCh y) (hyl : ys.length < 2 ^ 63) (hit : ∀ z ∈ chapIts 0 ys, Item58 z) (hcnt : (chapIts 0 ys).length < 2 ^ 32) (h55 : Ans (Cx e) 55 [.agg [ch], .agg [intA id, x]] (.agg [o])) : Has58 e ch id x (withinB 1 10 (lensOf ys)) := fun me d H =>
  (ans58 he t ht ch xs hch hall id hid rs x hx hrs hrd hfit hord ys o ho hys hyl hit hcnt h55).call (ext_58 he) (pure_58 _ _ _) (by simp only [boundL_cons, bound_agg, hch.bound, intA, bound_v, SlOf.bound hx, boundL_nil]; rfl) H
end Go.Ev
namespace Go.Ev
open Go.Proofs
set_option maxRecDepth 100000
set_option linter.unusedSimpArgs false
/-! ### a line of a copy, read in either way -/
/-- how readings of one line stand one behind the other -/
def Bhd (a b : Rd) : Prop := a.wd ≤ b.wd ∧ (a.kind ≠ 2 → a.wd < b.wd)
/-- a way to write a copy's line word by word -/
structure Way (ls : Line) (on : Rd → Prop) (W : List Rd → List ByteArray → Nat → List ByteArray) : Prop where
  none : ∀ ds w s, ls[w]? = some s → W [] ds w = ds ++ [s]
  last : ∀ ds, W [] ds ls.length = ds
  skip : ∀ (r : Rd) (l : List Rd) (ds : List ByteArray) (w : Nat), r.wd ≠ (w : Nat) → W (r :: l) ds w = W l ds w
  put : ∀ (r : Rd) (l : List Rd) (ds : List ByteArray) (w : Nat), on r → r.wd = (w : Nat) → r.kind = 2 → W (r :: l) ds w = W l (ds ++ [r.word]) w
  other : ∀ (r : Rd) (l : List Rd) (ds : List ByteArray) (w : Nat), on r → r.wd = (w : Nat) → r.kind ≠ 2 → w < ls.length → (∀ q ∈ l, q.wd ≠ (w : Nat)) → W (r :: l) ds w = ds ++ if r.word = emp then [] else [r.word]
theorem Way.far {ls : Line} {on : Rd → Prop} {W : List Rd → List ByteArray → Nat → List ByteArray} (hW : Way ls on W) (ds : List ByteArray) (w : Nat) : ∀ l : List Rd, (∀ r ∈ l, r.wd ≠ (w : Nat)) → W l ds w = W [] ds w
  | [], _ => rfl
  | r :: l, h => by rw [hW.skip r l ds w (h r (List.mem_cons_self ..)), hW.far ds w l fun q hq => h q (List.mem_cons_of_mem _ hq)]
theorem drop_take_succ (ls : Line) (p n : Nat) (s : ByteArray) (h : ls[p]? = some s) : (ls.drop p).take (n + 1) = s :: (ls.drop (p + 1)).take n := by
  obtain ⟨hp, rfl⟩ := List.getElem?_eq_some_iff.1 h
  rw [List.drop_eq_getElem_cons hp, List.take_succ_cons]
theorem Way.free {ls : Line} {on : Rd → Prop} {W : List Rd → List ByteArray → Nat → List ByteArray} (hW : Way ls on W) (l : List Rd) : ∀ (n p : Nat) (ds : List ByteArray), p + n ≤ ls.length → (∀ r ∈ l, ((p + n : Nat) : Int) ≤ r.wd) → (List.range' p n).foldl (W l) ds = ds ++ (ls.drop p).take n
  | 0, p, ds, _, _ => by simp
  | n + 1, p, ds, h1, h2 => by
    obtain ⟨s, hs⟩ := at_lt ls p (by omega)
    rw [List.range'_succ, List.foldl_cons, hW.far ds p l (fun r hr => by have := h2 r hr; omega), hW.none ds p s hs, hW.free l n (p + 1) (ds ++ [s]) (by omega) (fun r hr => by have := h2 r hr; omega), drop_take_succ ls p n s hs, List.append_assoc]
    rfl
theorem foldl_eq {α β : Type} {f g : α → β → α} : ∀ (l : List β) (a : α), (∀ b ∈ l, ∀ a, f a b = g a b) → l.foldl f a = l.foldl g a
  | [], _, _ => rfl
  | b :: l, a, h => by rw [List.foldl_cons, List.foldl_cons, h b (List.mem_cons_self ..) a, foldl_eq l _ fun c hc => h c (List.mem_cons_of_mem _ hc)]
theorem range'_split (p q n : Nat) (h1 : p ≤ q) (h2 : q ≤ n) : List.range' p (n - p) = List.range' p (q - p) ++ List.range' q (n - q) := by
  have h := List.range'_append (s := p) (m := q - p) (n := n - q) (step := 1)
  rw [Nat.one_mul, show p + (q - p) = q by omega, show q - p + (n - q) = n - p by omega] at h
  exact h.symm
/-- the word is what the kind says -/
structure RdW (ls : Line) (r : Rd) : Prop where
  kind : r.kind = 1 ∨ r.kind = 2 ∨ r.kind = 3
  word : r.kind = 1 ↔ r.word = emp
  hi : r.wd + (if r.kind = 2 then 0 else 1) ≤ ls.length
theorem way_read {ls : Line} {on : Rd → Prop} {W : List Rd → List ByteArray → Nat → List ByteArray} (hW : Way ls on W) : ∀ (l : List Rd) (p : Nat) (ds : List ByteArray), p ≤ ls.length → (∀ r ∈ l, on r ∧ RdW ls r ∧ (p : Int) ≤ r.wd) → l.Pairwise Bhd →
    (List.range' p (ls.length + 1 - p)).foldl (W l) ds = (l.foldl (rdOne ls) (p, ds)).2 ++ ls.drop (l.foldl (rdOne ls) (p, ds)).1
  | [], p, ds, hp, _, _ => by
    rw [range'_split p ls.length (ls.length + 1) hp (Nat.le_succ _), List.foldl_append, hW.free [] (ls.length - p) p ds (by omega) (fun r hr => nomatch hr), Nat.add_sub_cancel_left]
    show W [] _ ls.length = _
    rw [hW.last]
    show _ = ds ++ ls.drop p
    rw [List.take_of_length_le (by rw [List.length_drop]; exact Nat.le_refl _)]
  | r :: l, p, ds, hp, hr, hs => by
    obtain ⟨hon, hrw, hpw⟩ := hr r (List.mem_cons_self ..)
    obtain ⟨hb, hs'⟩ := List.pairwise_cons.1 hs
    obtain ⟨q, hq⟩ : ∃ q : Nat, r.wd = q := ⟨r.wd.toNat, by omega⟩
    have hhi := hrw.hi
    have hql : q ≤ ls.length := by split at hhi <;> omega
    have hqt : r.wd.toNat = q := by omega
    have hall : ∀ x ∈ r :: l, (q : Int) ≤ x.wd := fun x hx => by
      rcases List.mem_cons.1 hx with rfl | hx
      · omega
      · have := (hb x hx).1; omega
    have hf := hW.free (r :: l) (q - p) p ds (by omega) (fun x hx => by have := hall x hx; omega)
    rw [range'_split p q (ls.length + 1) (by omega) (by omega), List.foldl_append, hf]
    have hrest : ∀ (a : List ByteArray) (n : Nat), (List.range' (q + 1) n).foldl (W (r :: l)) a = (List.range' (q + 1) n).foldl (W l) a := fun a n =>
      foldl_eq _ a fun w hw a => hW.skip r l a w (by have := (List.mem_range'_1.1 hw).1; omega)
    by_cases hk : r.kind = 2
    · have hd : (r :: l).foldl (rdOne ls) (p, ds) = l.foldl (rdOne ls) (q, ds ++ (ls.drop p).take (q - p) ++ [r.word]) := by
        rw [List.foldl_cons]; unfold rdOne
        simp only [hk, hqt, if_true]
        rw [if_neg (by omega)]
      rw [hd, ← way_read hW l q _ hql (fun x hx => ⟨(hr x (List.mem_cons_of_mem _ hx)).1, (hr x (List.mem_cons_of_mem _ hx)).2.1, hall x (List.mem_cons_of_mem _ hx)⟩) hs']
      rw [show ls.length + 1 - q = (ls.length - q) + 1 by omega, List.range'_succ, List.foldl_cons, List.foldl_cons, hW.put r l _ q hon hq hk, hrest]
    · have hlt : q < ls.length := by rw [if_neg hk] at hhi; omega
      have hne : ∀ x ∈ l, x.wd ≠ (q : Nat) := fun x hx => by have := (hb x hx).2 hk; omega
      have hw : (if r.kind = 1 then ([] : List ByteArray) else [r.word]) = if r.word = emp then [] else [r.word] := by
        by_cases h1 : r.kind = 1
        · rw [if_pos h1, if_pos (hrw.word.1 h1)]
        · rw [if_neg h1, if_neg (fun h => h1 (hrw.word.2 h))]
      have hd : (r :: l).foldl (rdOne ls) (p, ds) = l.foldl (rdOne ls) (q + 1, ds ++ (ls.drop p).take (q - p) ++ if r.word = emp then [] else [r.word]) := by
        rw [List.foldl_cons]; unfold rdOne
        simp only [hk, hqt, if_false, hw]
      rw [hd, ← way_read hW l (q + 1) _ hlt (fun x hx => ⟨(hr x (List.mem_cons_of_mem _ hx)).1, (hr x (List.mem_cons_of_mem _ hx)).2.1, by have := (hb x hx).2 hk; omega⟩) hs']
      rw [show ls.length + 1 - q = (ls.length + 1 - (q + 1)) + 1 by omega, List.range'_succ, List.foldl_cons, hW.other r l _ q hon hq hk hlt hne, hrest]
theorem way_line {ls : Line} {on : Rd → Prop} {W : List Rd → List ByteArray → Nat → List ByteArray} (hW : Way ls on W) (l : List Rd) (hr : ∀ r ∈ l, on r ∧ RdW ls r ∧ 0 ≤ r.wd) (hs : l.Pairwise Bhd) : (List.range (ls.length + 1)).foldl (W l) [] = readLineL ls l := by
  rw [List.range_eq_range']
  exact way_read hW l 0 [] (Nat.zero_le _) hr hs
/-- readings of a line, one behind the other, are read -/
theorem rdsOk_of {ls : Line} : ∀ (l : List Rd) (p : Nat), (∀ r ∈ l, RdW ls r ∧ (p : Int) ≤ r.wd) → l.Pairwise Bhd → RdsOk ls p l
  | [], _, _, _ => trivial
  | r :: l, p, hr, hs => by
    obtain ⟨hrw, hpw⟩ := hr r (List.mem_cons_self ..)
    obtain ⟨hb, hs'⟩ := List.pairwise_cons.1 hs
    refine ⟨⟨hpw, hrw.kind, hrw.hi⟩, rdsOk_of l _ (fun x hx => ⟨(hr x (List.mem_cons_of_mem _ hx)).1, ?_⟩) hs'⟩
    have h := hb x hx
    have h0 : 0 ≤ r.wd := by omega
    by_cases hk : r.kind = 2
    · rw [if_pos hk]; have := h.1; omega
    · rw [if_neg hk]; have := h.2 hk; omega
/-! ### the reference's way -/
theorem refI_far (k n : Int) (w : Nat) (l : List Rd) (h : ∀ q ∈ l, q.wd ≠ (w : Nat)) (s : List ByteArray × ByteArray) : l.foldl (refI k n w) s = s := by
  induction l generalizing s with
  | nil => rfl
  | cons r l ih =>
    have : refI k n w s r = s := by unfold refI; rw [if_neg (fun hh => h r (List.mem_cons_self ..) hh.2.2)]
    rw [List.foldl_cons, this, ih fun q hq => h q (List.mem_cons_of_mem _ hq)]
theorem way_ref (ls : Line) (hne : ∀ s ∈ ls, s ≠ emp) (k n : Int) : Way ls (fun r => r.ch = k ∧ r.ln = n) (fun l => refW ls l k n) := by
  refine ⟨fun ds w s hs => ?_, fun ds => ?_, fun r l ds w h => ?_, fun r l ds w ho h hk => ?_, fun r l ds w ho h hk hw hf => ?_⟩
  · unfold refW
    simp only [List.foldl_nil, hs, Option.getD_some]
    rw [if_neg (hne s (List.mem_of_getElem? hs))]
  · unfold refW
    simp only [List.foldl_nil, List.getElem?_eq_none_iff.2 (Nat.le_refl _), Option.getD_none, if_true]
  · unfold refW
    rw [List.foldl_cons, show refI k n w (ds, (ls[w]?).getD emp) r = (ds, (ls[w]?).getD emp) by unfold refI; rw [if_neg (fun hh => h hh.2.2)]]
  · unfold refW
    rw [List.foldl_cons, show refI k n w (ds, (ls[w]?).getD emp) r = (ds ++ [r.word], (ls[w]?).getD emp) by unfold refI; rw [if_pos ⟨ho.1, ho.2, h⟩, if_pos hk]]
  · unfold refW
    rw [List.foldl_cons, show refI k n w (ds, (ls[w]?).getD emp) r = (ds, r.word) by unfold refI; rw [if_pos ⟨ho.1, ho.2, h⟩, if_neg hk], refI_far k n w l hf]
    simp only
    split
    · rw [List.append_nil]
    · rfl
theorem atLine_iff {k n : Int} {r : Rd} : atLine k n 0 r = true ↔ r.ch = k ∧ r.ln = n := by
  unfold atLine eqP; simp
theorem refW_filter (ls : Line) (rs : List Rd) (k n : Int) (ds : List ByteArray) (w : Nat) : refW ls rs k n ds w = refW ls (rs.filter (atLine k n 0)) k n ds w := by
  have h : ∀ (l : List Rd) (s : List ByteArray × ByteArray), l.foldl (refI k n w) s = (l.filter (atLine k n 0)).foldl (refI k n w) s := by
    intro l
    induction l with
    | nil => intro s; rfl
    | cons r l ih =>
      intro s
      cases ha : atLine k n 0 r
      · have : refI k n w s r = s := by unfold refI; rw [if_neg (fun hh => by rw [atLine_iff.2 ⟨hh.1, hh.2.1⟩] at ha; cases ha)]
        rw [List.foldl_cons, this, ih, List.filter_cons_of_neg (by rw [ha]; simp)]
      · rw [List.filter_cons_of_pos ha, List.foldl_cons, List.foldl_cons, ih]
  unfold refW; rw [h rs]
/-! ### the law's way -/
def putAt (k n w : Int) (r : Rd) : Bool := decide (r.kind = 2) && eqP r.ch r.ln r.wd k n w
def lawW (ls : Line) (rs : List Rd) (k n : Int) (ds : List ByteArray) (w : Nat) : List ByteArray :=
  let d := ds ++ (rs.filter (putAt k n w)).map Rd.word
  match ls[w]? with
  | none => d
  | some s => if standL rs k n w s = emp then d else d ++ [standL rs k n w s]
theorem eqP_wd {r : Rd} {k n : Int} {w : Nat} (h : r.wd ≠ (w : Nat)) : eqP r.ch r.ln r.wd k n w = false := by
  unfold eqP; simp; intro _ _ h2; exact h h2
theorem eqP_on {r : Rd} {k n : Int} {w : Nat} (h : r.ch = k ∧ r.ln = n) (hw : r.wd = (w : Nat)) : eqP r.ch r.ln r.wd k n w = true := by
  unfold eqP; simp [h.1, h.2, hw]
theorem stand_cons_no {r : Rd} {l : List Rd} {k n w : Int} {s : ByteArray} (h : takesB k n w r = false) : standL (r :: l) k n w s = standL l k n w s := by unfold standL; rw [List.find?_cons, h]
theorem stand_cons_yes {r : Rd} {l : List Rd} {k n w : Int} {s : ByteArray} (h : takesB k n w r = true) : standL (r :: l) k n w s = r.word := by unfold standL; rw [List.find?_cons, h]
theorem way_law (ls : Line) (hne : ∀ s ∈ ls, s ≠ emp) (k n : Int) : Way ls (fun r => r.ch = k ∧ r.ln = n) (fun l => lawW ls l k n) := by
  refine ⟨fun ds w s hs => ?_, fun ds => ?_, fun r l ds w h => ?_, fun r l ds w ho h hk => ?_, fun r l ds w ho h hk hw hf => ?_⟩
  · unfold lawW
    have h0 : standL [] k n w s = s := rfl
    simp only [hs, List.filter_nil, List.map_nil, List.append_nil, h0]
    rw [if_neg (hne s (List.mem_of_getElem? hs))]
  · unfold lawW
    simp only [List.getElem?_eq_none_iff.2 (Nat.le_refl _), List.filter_nil, List.map_nil, List.append_nil]
  · have h1 : putAt k n w r = false := by unfold putAt; rw [eqP_wd h, Bool.and_false]
    have h2 : takesB k n w r = false := by unfold takesB; rw [eqP_wd h]; rfl
    unfold lawW
    rw [List.filter_cons_of_neg (by rw [h1]; simp)]
    simp only [stand_cons_no h2]
  · have h1 : putAt k n w r = true := by unfold putAt; rw [eqP_on ho h, Bool.and_true]; exact decide_eq_true hk
    have h2 : takesB k n w r = false := by unfold takesB; rw [decide_eq_true hk, Bool.not_true, Bool.and_false]
    unfold lawW
    rw [List.filter_cons_of_pos h1]
    simp only [stand_cons_no h2, List.map_cons, List.append_assoc, List.singleton_append]
  · have h1 : putAt k n w r = false := by unfold putAt; rw [decide_eq_false hk]; rfl
    have h2 : takesB k n w r = true := by unfold takesB; rw [eqP_on ho h, decide_eq_false hk]; rfl
    have h3 : l.filter (putAt k n w) = [] := List.filter_eq_nil_iff.2 fun q hq => by unfold putAt; rw [eqP_wd (hf q hq), Bool.and_false]; simp
    obtain ⟨s, hs⟩ := at_lt ls w hw
    unfold lawW
    rw [List.filter_cons_of_neg (by rw [h1]; simp), h3]
    simp only [hs, stand_cons_yes h2, List.map_nil, List.append_nil]
    split
    · rw [List.append_nil]
    · rfl
theorem lawW_filter (ls : Line) (rs : List Rd) (k n : Int) (ds : List ByteArray) (w : Nat) : lawW ls rs k n ds w = lawW ls (rs.filter (atLine k n 0)) k n ds w := by
  have ha : ∀ r : Rd, eqP r.ch r.ln r.wd k n w = true → atLine k n 0 r = true := fun r h => by
    unfold eqP at h; simp at h; exact atLine_iff.2 ⟨h.1, h.2.1⟩
  have h1 : rs.filter (putAt k n w) = (rs.filter (atLine k n 0)).filter (putAt k n w) := by
    rw [List.filter_filter]
    refine List.filter_congr fun r _ => ?_
    cases hp : putAt k n w r
    · rfl
    · have : eqP r.ch r.ln r.wd k n w = true := by unfold putAt at hp; simp only [Bool.and_eq_true] at hp; exact hp.2
      rw [ha r this]; rfl
  have h2 : ∀ s, standL rs k n w s = standL (rs.filter (atLine k n 0)) k n w s := fun s => by
    induction rs with
    | nil => rfl
    | cons r l ih =>
      cases hl : atLine k n 0 r
      · have ht : takesB k n w r = false := by
          cases ht : takesB k n w r
          · rfl
          · unfold takesB at ht; simp only [Bool.and_eq_true] at ht; rw [ha r ht.1] at hl; cases hl
        rw [stand_cons_no ht, List.filter_cons_of_neg (by rw [hl]; simp)]
        exact ih (by rw [List.filter_filter]; refine List.filter_congr fun r _ => ?_; cases hp : putAt k n w r
                     · rfl
                     · have : eqP r.ch r.ln r.wd k n w = true := by unfold putAt at hp; simp only [Bool.and_eq_true] at hp; exact hp.2
                       rw [ha r this]; rfl)
      · rw [List.filter_cons_of_pos hl]
        unfold standL
        rw [List.find?_cons, List.find?_cons]
        cases ht : takesB k n w r
        · exact ih (by rw [List.filter_filter]; refine List.filter_congr fun r _ => ?_; cases hp : putAt k n w r
                       · rfl
                       · have : eqP r.ch r.ln r.wd k n w = true := by unfold putAt at hp; simp only [Bool.and_eq_true] at hp; exact hp.2
                         rw [ha r this]; rfl)
        · rfl
  unfold lawW; rw [← h1]; simp only [← h2]
end Go.Ev
namespace Go.Ev
open Go.Proofs
set_option maxRecDepth 100000
set_option linter.unusedSimpArgs false
/-! ### readings in order -/
def Ahd (a b : Rd) : Prop := a.ch < b.ch ∨ (a.ch = b.ch ∧ (a.ln < b.ln ∨ (a.ln = b.ln ∧ a.wd ≤ b.wd ∧ (a.kind ≠ 2 → a.wd < b.wd))))
theorem Ahd.trans {a b c : Rd} (h1 : Ahd a b) (h2 : Ahd b c) : Ahd a c := by
  unfold Ahd at *; omega
theorem pairR_ahd {a b : Rd} (h : pairR a b = true) : Ahd a b := by
  unfold pairR beforeB eqP at h
  unfold Ahd
  simp only [Bool.not_eq_true', Bool.or_eq_false_iff, Bool.and_eq_false_iff, Bool.not_eq_false', decide_eq_false_iff_not, decide_eq_true_eq, ne_eq] at h
  obtain ⟨h1, h2⟩ := h
  split at h1
  · simp only [decide_eq_false_iff_not] at h1; omega
  · split at h1
    · simp only [decide_eq_false_iff_not] at h1; omega
    · simp only [decide_eq_false_iff_not] at h1; omega
theorem cmpI_pos (a b : Int) : 0 < cmpI a b ↔ b < a := by unfold cmpI; split <;> (try split) <;> omega
theorem cmpI_zero (a b : Int) : cmpI a b = 0 ↔ a = b := by unfold cmpI; split <;> (try split) <;> omega
theorem cmpP_pos (a b c a' b' c' : Int) : 0 < cmpP a b c a' b' c' ↔ a' < a ∨ (a = a' ∧ (b' < b ∨ (b = b' ∧ c' < c))) := by
  unfold cmpP
  simp only [orI]
  have h1 := cmpI_pos a a'; have h2 := cmpI_pos b b'; have h3 := cmpI_pos c c'
  have e1 := cmpI_zero a a'; have e2 := cmpI_zero b b'; have e3 := cmpI_zero c c'
  split
  · split
    · split <;> omega
    · omega
  · omega
theorem ahd_pairB {a b : Rd} (h : Ahd a b) : pairB a b = true := by
  unfold Ahd at h
  have hc : ¬ 0 < cmpP a.ch a.ln a.wd b.ch b.ln b.wd := by rw [cmpP_pos]; omega
  have he : (eqP a.ch a.ln a.wd b.ch b.ln b.wd && !decide (a.kind = 2)) = false := by
    unfold eqP
    simp only [Bool.and_eq_false_iff, Bool.not_eq_false', decide_eq_false_iff_not, decide_eq_true_eq]
    omega
  unfold pairB
  rw [he, decide_eq_false hc]; rfl
theorem rdsB_all (t : Txt) : ∀ (l : List Rd) (p : Option Rd), rdsB t p l = true → (∀ r ∈ l, readB t r = true) ∧ l.Pairwise Ahd ∧ (∀ q, p = some q → ∀ r ∈ l, Ahd q r)
  | [], _, _ => ⟨(fun r h => nomatch h), List.Pairwise.nil, (fun _ _ r h => nomatch h)⟩
  | r :: l, p, h => by
    unfold rdsB at h
    simp only [Bool.and_eq_true] at h
    obtain ⟨⟨h1, h2⟩, h3⟩ := h
    obtain ⟨i1, i2, i3⟩ := rdsB_all t l (some r) h3
    have i3 := i3 r rfl
    refine ⟨fun x hx => ?_, List.pairwise_cons.2 ⟨i3, i2⟩, fun q hq x hx => ?_⟩
    · rcases List.mem_cons.1 hx with rfl | hx
      · exact h1
      · exact i1 x hx
    · subst hq
      have hr := pairR_ahd h2
      rcases List.mem_cons.1 hx with rfl | hx
      · exact hr
      · exact hr.trans (i3 x hx)
theorem ordB_of : ∀ (l : List Rd), l.Pairwise Ahd → ordB l = true
  | [], _ => rfl
  | [a], _ => rfl
  | a :: b :: r, h => by
    obtain ⟨h1, h2⟩ := List.pairwise_cons.1 h
    show (pairB a b && ordB (b :: r)) = true
    rw [ahd_pairB (h1 b (List.mem_cons_self ..)), ordB_of (b :: r) h2]; rfl
theorem wordB_ne {s : ByteArray} (h : wordB s = true) : s ≠ emp := by
  rintro rfl
  unfold wordB at h
  simp only [Bool.and_eq_true] at h
  have := h.1
  revert this; decide
/-- a copy whose readings fit, in order -/
structure Cpy (t : Txt) (rs : List Rd) : Prop where
  fit : ∀ r ∈ rs, readB t r = true
  ord : rs.Pairwise Ahd
theorem Cpy.of {t : Txt} {rs : List Rd} (h : rdsB t none rs = true) : Cpy t rs := ⟨(rdsB_all t rs none h).1, (rdsB_all t rs none h).2.1⟩
/-- the readings of one line -/
def ofLn (rs : List Rd) (k n : Int) : List Rd := rs.filter (atLine k n 0)
theorem ofLn_mem {rs : List Rd} {k n : Int} {r : Rd} : r ∈ ofLn rs k n ↔ r ∈ rs ∧ r.ch = k ∧ r.ln = n := by
  unfold ofLn; rw [List.mem_filter, atLine_iff]
theorem Cpy.bhd {t : Txt} {rs : List Rd} (h : Cpy t rs) (k n : Int) : (ofLn rs k n).Pairwise Bhd := by
  have h1 : (ofLn rs k n).Pairwise Ahd := h.ord.sublist List.filter_sublist
  refine h1.imp_of_mem fun ha hb hr => ?_
  have h2 := (ofLn_mem.1 ha).2
  have h3 := (ofLn_mem.1 hb).2
  unfold Ahd at hr
  unfold Bhd
  omega
theorem Cpy.rdw {t : Txt} {rs : List Rd} (h : Cpy t rs) {k n : Int} {ls : Line} (hl : lineAt t k n = some ls) {r : Rd} (hr : r ∈ ofLn rs k n) : RdW ls r ∧ 0 ≤ r.wd := by
  obtain ⟨hm, h1, h2⟩ := ofLn_mem.1 hr
  have hf := h.fit r hm
  unfold readB at hf
  rw [h1, h2, hl] at hf
  simp only at hf
  split at hf
  · rename_i hk
    unfold fits1 at hf
    simp only [Bool.and_eq_true, decide_eq_true_eq] at hf
    exact ⟨⟨Or.inl hk, ⟨fun _ => hf.2, fun _ => hk⟩, by rw [if_neg (by omega)]; omega⟩, hf.1.1⟩
  · split at hf
    · rename_i hk1 hk
      unfold fits2 withinB at hf
      simp only [List.all_cons, List.all_nil, Bool.and_true, Bool.and_eq_true, decide_eq_true_eq] at hf
      exact ⟨⟨Or.inr (Or.inl hk), ⟨fun h => absurd h hk1, fun h => absurd h (wordB_ne hf.2)⟩, by rw [if_pos hk]; omega⟩, hf.1.1⟩
    · split at hf
      · rename_i hk1 hk2 hk
        unfold fits3 at hf
        simp only [Bool.and_eq_true, decide_eq_true_eq] at hf
        exact ⟨⟨Or.inr (Or.inr hk), ⟨fun h => absurd h hk1, fun h => absurd h (wordB_ne hf.1.2)⟩, by rw [if_neg hk2]; omega⟩, hf.1.1.1⟩
      · cases hf
theorem Cpy.rdsOk {t : Txt} {rs : List Rd} (h : Cpy t rs) {k n : Int} {ls : Line} (hl : lineAt t k n = some ls) : RdsOk ls 0 (ofLn rs k n) :=
  rdsOk_of _ 0 (fun r hr => ⟨(h.rdw hl hr).1, by have := (h.rdw hl hr).2; omega⟩) (h.bhd k n)
theorem foldl_same {α β : Type} {f g : α → β → α} (h : ∀ a b, f a b = g a b) (l : List β) (a : α) : l.foldl f a = l.foldl g a := foldl_eq l a fun b _ a => h a b
theorem Cpy.line {t : Txt} {rs : List Rd} (h : Cpy t rs) {k n : Int} {ls : Line} (hl : lineAt t k n = some ls) (hne : ∀ s ∈ ls, s ≠ emp) : refLine ls rs k n = readLineL ls (ofLn rs k n) := by
  unfold refLine
  rw [foldl_same (g := refW ls (ofLn rs k n) k n) (fun a b => refW_filter ls rs k n a b)]
  exact way_line (way_ref ls hne k n) (ofLn rs k n) (fun r hr => ⟨(ofLn_mem.1 hr).2, h.rdw hl hr⟩) (h.bhd k n)
theorem Cpy.law {t : Txt} {rs : List Rd} (h : Cpy t rs) {k n : Int} {ls : Line} (hl : lineAt t k n = some ls) (hne : ∀ s ∈ ls, s ≠ emp) : (List.range (ls.length + 1)).foldl (lawW ls rs k n) [] = refLine ls rs k n := by
  rw [h.line hl hne, foldl_same (g := lawW ls (ofLn rs k n) k n) (fun a b => lawW_filter ls rs k n a b)]
  exact way_line (way_law ls hne k n) (ofLn rs k n) (fun r hr => ⟨(ofLn_mem.1 hr).2, h.rdw hl hr⟩) (h.bhd k n)
/-! ### the text of a copy -/
def readT (t : Txt) (rs : List Rd) : Txt := t.mapIdx fun k c => (c.1, c.2.mapIdx fun n l => refLine l rs k n)
theorem readT_get {t : Txt} {rs : List Rd} {k : Nat} {c : Chap} (h : t[k]? = some c) : (readT t rs)[k]? = some (c.1, c.2.mapIdx fun n l => refLine l rs k n) := by
  unfold readT; rw [List.getElem?_mapIdx, h]; rfl
theorem readT_line {t : Txt} {rs : List Rd} {k n : Nat} {c : Chap} {l : Line} (h : t[k]? = some c) (hl : c.2[n]? = some l) : ∃ d, (readT t rs)[k]? = some d ∧ d.2[n]? = some (refLine l rs k n) := by
  refine ⟨_, readT_get h, ?_⟩
  simp only
  rw [List.getElem?_mapIdx, hl]; rfl
theorem lineAt_nat {t : Txt} {k n : Nat} {c : Chap} {l : Line} (h : t[k]? = some c) (hl : c.2[n]? = some l) : lineAt t k n = some l := by
  unfold lineAt
  rw [if_pos (by omega)]
  simp only [Int.toNat_natCast, h, Option.bind_some, hl]
end Go.Ev
namespace Go.Ev
open Go.Proofs
set_option maxRecDepth 100000
set_option linter.unusedSimpArgs false
attribute [local irreducible] Wp WpS
/-! ### the text of a copy, as read answers it -/
theorem ofV_rds (l : List Rd) : RdsA l (ofV l) := by
  cases l with
  | nil => exact Or.inl ⟨rfl, rfl⟩
  | cons r f => exact Or.inr ⟨none, rfl⟩
theorem lnOf_sl (ls : List AV) : SlOf 1 ls (lnOf ls) := by
  unfold lnOf
  split
  · rename_i h; exact Or.inl ⟨rfl, h⟩
  · exact Or.inr ⟨none, rfl⟩
theorem Small.ne {t : Txt} (hs : Small t) {k n : Int} {ls : Line} (h : lineAt t k n = some ls) : ∀ s ∈ ls, s ≠ emp := fun s hm => by
  obtain ⟨c, hc, hl⟩ := lineAt_mem h
  exact wordB_ne (hs.word c hc ls hl s hm)
set_option maxHeartbeats 1000000 in
theorem readW {e : Exts} (he : Quiet e) (t : Txt) (hs : Small t) (ht : Fits t) (ch : AV) (xs : List AV) (hch : SlOf 2 xs ch) (hall : All2 ChapA t xs) (id : Int) (rs : List Rd) (x : AV) (hx : RdsA rs x) (hrs : rs.length < 2 ^ 32) (hc : Cpy t rs) :
    ∃ ys o, SlOf 2 ys o ∧ All2 ChapA (readT t rs) ys ∧ Ans (Cx e) 55 [.agg [ch], .agg [intA id, x]] (.agg [o]) := by
  have hQ : ∀ i k : Nat, ∃ w : AV, (w.flat = true ∧ w.cells = [w] ∧ bound w = 0) ∧ ∀ y z, xs[i]? = some y → (linesOf y)[k]? = some z → ∃ c l, t[i]? = some c ∧ c.2[k]? = some l ∧ LineA (refLine l rs i k) w ∧ Ans (Cx e) 76 [z, ofV (rs.filter (atLine i k 0))] w := by
    intro i k
    cases hy : xs[i]? with
    | none => exact ⟨.v (.slice none 0 0), ⟨rfl, rfl, rfl⟩, fun y z h => nomatch h⟩
    | some y =>
      cases hz : (linesOf y)[k]? with
      | none => exact ⟨.v (.slice none 0 0), ⟨rfl, rfl, rfl⟩, fun y' z h1 h2 => by cases h1; rw [hz] at h2; cases h2⟩
      | some z =>
        obtain ⟨c, hc1⟩ := at_lt t i (by rw [hall.1]; exact (List.getElem?_eq_some_iff.1 hy).1)
        obtain ⟨y', hy', l, rfl, lxs, hl, hls⟩ := hall.get hc1
        rw [hy] at hy'
        cases hy'
        have hlo : linesOf (.agg [intA c.1, l]) = lxs := hl.elems
        have hz' := hz
        rw [hlo] at hz'
        obtain ⟨ln, hln⟩ := at_lt c.2 k (by rw [hls.1]; exact (List.getElem?_eq_some_iff.1 hz').1)
        have hla : LineA ln z := hls.2 k ln z hln hz'
        have hLA := lineAt_nat hc1 hln
        have hlen := (hs.words c (List.mem_of_getElem? hc1) ln (List.mem_of_getElem? hln)).2
        have hfl : (rs.filter (atLine i k 0)).length < 2 ^ 32 := Nat.lt_of_le_of_lt (List.length_filter_le _ _) hrs
        obtain ⟨w, hw1, hw2⟩ := ans76 he ln (by omega) z hla (rs.filter (atLine i k 0)) (ofV (rs.filter (atLine i k 0))) (ofV_rds _) hfl (hc.rdsOk hLA)
        refine ⟨w, ⟨hw1.flat, hw1.cells, hw1.bound⟩, fun y z' h1 h2 => ?_⟩
        cases h1
        rw [hz] at h2
        cases h2
        refine ⟨c, ln, hc1, hln, ?_, hw2⟩
        show SlOf 1 (strs (refLine ln rs i k)) w
        rw [hc.line hLA (hs.ne hLA)]
        exact hw1
  have hwf := fun i k => Classical.choose_spec (hQ i k)
  generalize hW : (fun i k => Classical.choose (hQ i k)) = wf
  have hwf : ∀ i k : Nat, ((wf i k).flat = true ∧ (wf i k).cells = [wf i k] ∧ bound (wf i k) = 0) ∧ ∀ y z, xs[i]? = some y → (linesOf y)[k]? = some z → ∃ c l, t[i]? = some c ∧ c.2[k]? = some l ∧ LineA (refLine l rs i k) (wf i k) ∧ Ans (Cx e) 76 [z, ofV (rs.filter (atLine i k 0))] (wf i k) := by
    intro i k
    rw [← hW]
    exact hwf i k
  clear hW
  have hx6 := hs.chs
  have hxl := hall.1
  have hok := okCh2_of ht hall
  have hlines : ∀ y ∈ xs, ∃ c l lxs, c ∈ t ∧ y = .agg [intA c.1, l] ∧ linesOf y = lxs ∧ All2 LineA c.2 lxs := fun y hy => by
    obtain ⟨i, hi⟩ := List.getElem?_of_mem hy
    obtain ⟨c, hc1⟩ := at_lt t i (by rw [hall.1]; exact (List.getElem?_eq_some_iff.1 hi).1)
    obtain ⟨l, rfl, lxs, hl, hls⟩ := hall.2 i c y hc1 hi
    exact ⟨c, l, lxs, List.mem_of_getElem? hc1, rfl, hl.elems, hls⟩
  refine ⟨(stAt xs wf xs.length 0).map (fun c : AV × List AV => AV.agg [c.1, lnOf c.2]), .vs 2 _ none, Or.inr ⟨none, rfl⟩, ⟨?_, ?_⟩, ans55x he xs ch hch (fun y hy => (hok y hy).ok) (by omega) (by omega) id rs x hx hrs wf (fun i k y z h1 h2 => ?_) (fun i k => (hwf i k).1) (fun y hy => ?_) (fun y hy z hz => ?_) (by omega)⟩
  · unfold readT stAt
    rw [List.length_mapIdx, List.length_map, List.length_mapIdx, hall.1]
  · intro i c y h1 h2
    rw [List.getElem?_map, stAt_get] at h2
    have hil : i < t.length := by
      have := (List.getElem?_eq_some_iff.1 h1).1
      unfold readT at this; rwa [List.length_mapIdx] at this
    obtain ⟨c0, hc0⟩ := at_lt t i hil
    rw [readT_get hc0] at h1
    cases h1
    obtain ⟨y0, hy0, l, rfl, lxs, hl, hls⟩ := hall.get hc0
    have hlo : linesOf (.agg [intA c0.1, l]) = lxs := hl.elems
    rw [hy0, Option.map_some, Option.map_some, if_pos (by omega), hlo] at h2
    cases h2
    refine ⟨_, rfl, _, lnOf_sl _, ?_, ?_⟩
    · simp only [List.length_mapIdx, List.length_map, List.length_range]; exact hls.1
    · intro k a b h3 h4
      simp only at h3
      rw [List.getElem?_mapIdx] at h3
      rw [List.getElem?_map] at h4
      cases hk : c0.2[k]? with
      | none => rw [hk] at h3; cases h3
      | some ln =>
        rw [hk] at h3
        cases h3
        have hkl : k < lxs.length := by rw [← hls.1]; exact (List.getElem?_eq_some_iff.1 hk).1
        obtain ⟨z, hz⟩ := at_lt lxs k hkl
        rw [List.getElem?_range hkl] at h4
        cases h4
        obtain ⟨c', l', h5, h6, h7, -⟩ := (hwf i k).2 _ z hy0 (by rw [hlo]; exact hz)
        rw [hc0] at h5
        cases h5
        rw [hk] at h6
        cases h6
        exact h7
  · obtain ⟨_, _, -, -, -, h⟩ := (hwf i k).2 y z h1 h2
    exact h
  · obtain ⟨c, l, lxs, hm, -, hlo, hls⟩ := hlines y hy
    rw [hlo, ← hls.1]
    have := (hs.lines c hm).2
    omega
  · obtain ⟨c, l, lxs, hm, -, hlo, hls⟩ := hlines y hy
    rw [hlo] at hz
    obtain ⟨k, hk⟩ := List.getElem?_of_mem hz
    obtain ⟨ln, hln⟩ := at_lt c.2 k (by rw [hls.1]; exact (List.getElem?_eq_some_iff.1 hk).1)
    exact (hls.2 k ln z hln hk : SlOf 1 (strs ln) z).bound
/-! ### the lines of a copy are lines -/
theorem linesN_get (rs : List Rd) (k : Nat) : ∀ (ls : List Line) (n j : Nat) (l : Line), linesN rs k n ls = true → ls[j]? = some l → withinB 1 10 [((refLine l rs k ((n + j : Nat) : Int)).length : Int)] = true
  | [], _, _, _, _, h => by simp at h
  | x :: r, n, j, l, h1, h2 => by
    unfold linesN at h1
    simp only [Bool.and_eq_true] at h1
    cases j with
    | zero => simp at h2; subst h2; exact h1.1
    | succ j =>
      have := linesN_get rs k r (n + 1) j l h1.2 (by simpa using h2)
      rwa [show n + 1 + j = n + (j + 1) by omega] at this
theorem chapsN_get (rs : List Rd) : ∀ (t : Txt) (k i : Nat) (c : Chap), chapsN rs k t = true → t[i]? = some c → linesN rs (k + i) 0 c.2 = true
  | [], _, _, _, _, h => by simp at h
  | x :: r, k, i, c, h1, h2 => by
    unfold chapsN at h1
    simp only [Bool.and_eq_true] at h1
    cases i with
    | zero => simp at h2; subst h2; exact h1.1
    | succ i =>
      have := chapsN_get rs r (k + 1) i c h1.2 (by simpa using h2)
      rwa [show k + 1 + i = k + (i + 1) by omega] at this
/-- whatever a copy's line has is a word of the base's, or of a reading -/
theorem refI_mem (k n w : Int) (s : ByteArray) : ∀ (rs : List Rd) (st : List ByteArray × ByteArray), (s ∈ (rs.foldl (refI k n w) st).1 → s ∈ st.1 ∨ ∃ r ∈ rs, s = r.word) ∧ ((rs.foldl (refI k n w) st).2 = st.2 ∨ ∃ r ∈ rs, (rs.foldl (refI k n w) st).2 = r.word)
  | [], st => ⟨fun h => Or.inl h, Or.inl rfl⟩
  | r :: rs, st => by
    obtain ⟨h1, h2⟩ := refI_mem k n w s rs (refI k n w st r)
    rw [List.foldl_cons]
    have hq : refI k n w st r = st ∨ refI k n w st r = (st.1 ++ [r.word], st.2) ∨ refI k n w st r = (st.1, r.word) := by
      unfold refI; split
      · split
        · exact Or.inr (Or.inl rfl)
        · exact Or.inr (Or.inr rfl)
      · exact Or.inl rfl
    refine ⟨fun h => ?_, ?_⟩
    · rcases h1 h with h3 | ⟨q, hq1, hq2⟩
      · rcases hq with hq | hq | hq
        · rw [hq] at h3; exact Or.inl h3
        · rw [hq] at h3
          rcases List.mem_append.1 h3 with h3 | h3
          · exact Or.inl h3
          · exact Or.inr ⟨r, List.mem_cons_self .., List.mem_singleton.1 h3⟩
        · rw [hq] at h3; exact Or.inl h3
      · exact Or.inr ⟨q, List.mem_cons_of_mem _ hq1, hq2⟩
    · rcases h2 with h3 | ⟨q, hq1, hq2⟩
      · rcases hq with hq | hq | hq
        · rw [hq] at h3 ⊢; exact Or.inl h3
        · rw [hq] at h3 ⊢; exact Or.inl h3
        · rw [hq] at h3 ⊢; exact Or.inr ⟨r, List.mem_cons_self .., h3⟩
      · exact Or.inr ⟨q, List.mem_cons_of_mem _ hq1, hq2⟩
theorem refW_mem (l : Line) (rs : List Rd) (k n : Int) (s : ByteArray) (ds : List ByteArray) (w : Nat) (h : s ∈ refW l rs k n ds w) : s ∈ ds ∨ s ∈ l ∨ ∃ r ∈ rs, s = r.word := by
  obtain ⟨h1, h2⟩ := refI_mem k n w s rs (ds, (l[w]?).getD emp)
  unfold refW at h
  simp only at h
  split at h
  · rcases h1 h with h | h
    · exact Or.inl h
    · exact Or.inr (Or.inr h)
  · rename_i hne
    rcases List.mem_append.1 h with h | h
    · rcases h1 h with h | h
      · exact Or.inl h
      · exact Or.inr (Or.inr h)
    · have hs := List.mem_singleton.1 h
      rcases h2 with h3 | ⟨r, hr, h3⟩
      · rw [h3] at hs hne
        simp only at hs hne
        cases hw : l[w]? with
        | none => rw [hw] at hne; exact absurd rfl hne
        | some y => rw [hw] at hs; exact Or.inr (Or.inl (hs ▸ List.mem_of_getElem? hw))
      · exact Or.inr (Or.inr ⟨r, hr, hs.trans h3⟩)
theorem refLine_mem (l : Line) (rs : List Rd) (k n : Int) (s : ByteArray) : ∀ w : Nat, s ∈ (List.range w).foldl (refW l rs k n) [] → s ∈ l ∨ ∃ r ∈ rs, s = r.word
  | 0, h => by simp at h
  | w + 1, h => by
    rw [List.range_succ, List.foldl_append] at h
    rcases refW_mem l rs k n s _ w h with h | h
    · exact refLine_mem l rs k n s w h
    · exact h
theorem readT_mem {t : Txt} {rs : List Rd} {c : Chap} {l : Line} (hc : c ∈ readT t rs) (hl : l ∈ c.2) : ∃ (k n : Nat) (d : Chap) (ln : Line), t[k]? = some d ∧ d.2[n]? = some ln ∧ l = refLine ln rs k n ∧ c.2.length = d.2.length := by
  obtain ⟨k, hk⟩ := List.getElem?_of_mem hc
  have hil : k < t.length := by
    have := (List.getElem?_eq_some_iff.1 hk).1
    unfold readT at this; rwa [List.length_mapIdx] at this
  obtain ⟨d, hd⟩ := at_lt t k hil
  rw [readT_get hd] at hk
  cases hk
  obtain ⟨n, hn⟩ := List.getElem?_of_mem hl
  simp only at hn
  rw [List.getElem?_mapIdx] at hn
  cases hk : d.2[n]? with
  | none => rw [hk] at hn; cases hn
  | some ln => rw [hk] at hn; cases hn; exact ⟨k, n, d, ln, hd, hk, rfl, by simp⟩
theorem readT_chap {t : Txt} {rs : List Rd} {c : Chap} (hc : c ∈ readT t rs) : ∃ d ∈ t, c.1 = d.1 ∧ c.2.length = d.2.length := by
  obtain ⟨k, hk⟩ := List.getElem?_of_mem hc
  have hil : k < t.length := by
    have := (List.getElem?_eq_some_iff.1 hk).1
    unfold readT at this; rwa [List.length_mapIdx] at this
  obtain ⟨d, hd⟩ := at_lt t k hil
  rw [readT_get hd] at hk
  cases hk
  exact ⟨d, List.mem_of_getElem? hd, rfl, by simp⟩
theorem rdOnes_mem {ls : Line} {s : ByteArray} : ∀ (l : List Rd) (st : Nat × List ByteArray), s ∈ (l.foldl (rdOne ls) st).2 → s ∈ st.2 ∨ s ∈ ls ∨ ∃ r ∈ l, r.kind ≠ 1 ∧ s = r.word
  | [], st, h => Or.inl h
  | r :: l, st, h => by
    rw [List.foldl_cons] at h
    rcases rdOnes_mem l _ h with h | h | ⟨q, hq, h⟩
    · unfold rdOne at h
      simp only at h
      rcases List.mem_append.1 h with h | h
      · rcases List.mem_append.1 h with h | h
        · exact Or.inl h
        · exact Or.inr (Or.inl (List.mem_of_mem_drop (List.mem_of_mem_take h)))
      · split at h
        · exact nomatch h
        · rename_i hk
          exact Or.inr (Or.inr ⟨r, List.mem_cons_self .., hk, List.mem_singleton.1 h⟩)
    · exact Or.inr (Or.inl h)
    · exact Or.inr (Or.inr ⟨q, List.mem_cons_of_mem _ hq, h⟩)
theorem readLineL_mem {ls : Line} {l : List Rd} {s : ByteArray} (h : s ∈ readLineL ls l) : s ∈ ls ∨ ∃ r ∈ l, r.kind ≠ 1 ∧ s = r.word := by
  unfold readLineL at h
  rcases List.mem_append.1 h with h | h
  · rcases rdOnes_mem l _ h with h | h | h
    · exact nomatch h
    · exact Or.inl h
    · exact Or.inr h
  · exact Or.inl (List.mem_of_mem_drop h)
theorem Cpy.wordB {t : Txt} {rs : List Rd} (h : Cpy t rs) {r : Rd} (hr : r ∈ rs) (hk : r.kind ≠ 1) : wordB r.word = true := by
  have hf := h.fit r hr
  unfold readB at hf
  split at hf
  · cases hf
  · rw [if_neg hk] at hf
    split at hf
    · unfold fits2 at hf; simp only [Bool.and_eq_true] at hf; exact hf.2
    · split at hf
      · unfold fits3 at hf; simp only [Bool.and_eq_true] at hf; exact hf.1.2
      · cases hf
/-- what the reference's Copy says of a copy -/
structure Right (t : Txt) (id : Int) (rs : List Rd) : Prop where
  id : withinB 0 9999 [id] = true
  len : ¬ 20 < (rs.length : Int)
  cpy : Cpy t rs
  lines : ∀ (k n : Nat) (c : Chap) (l : Line), t[k]? = some c → c.2[n]? = some l → 1 ≤ (refLine l rs k n).length ∧ (refLine l rs k n).length ≤ 10
theorem Right.of {t : Txt} {id : Int} {rs : List Rd} (h : copyB t id rs = true) : Right t id rs := by
  unfold copyB at h
  simp only [Bool.and_eq_true, Bool.not_eq_true', decide_eq_false_iff_not] at h
  obtain ⟨⟨h1, h2⟩, h3, h4⟩ := h
  refine ⟨h1, h2, Cpy.of h3, fun k n c l hc hl => ?_⟩
  have := linesN_get rs (0 + k) c.2 0 n l (chapsN_get rs t 0 k c h4 hc) hl
  rw [Nat.zero_add, Nat.zero_add] at this
  unfold withinB at this
  simp only [List.all_cons, List.all_nil, Bool.and_true, Bool.and_eq_true, decide_eq_true_eq] at this
  omega
theorem Right.small {t : Txt} {id : Int} {rs : List Rd} (h : Right t id rs) (hs : Small t) : Small (readT t rs) := by
  refine ⟨?_, fun c hc => ?_, fun c hc l hl => ?_, fun c hc l hl s hm => ?_⟩
  · unfold readT; rw [List.length_mapIdx]; exact hs.chs
  · obtain ⟨d, hd, -, h2⟩ := readT_chap hc
    rw [h2]; exact hs.lines d hd
  · obtain ⟨k, n, d, ln, h1, h2, rfl, -⟩ := readT_mem hc hl
    exact h.lines k n d ln h1 h2
  · obtain ⟨k, n, d, ln, h1, h2, rfl, -⟩ := readT_mem hc hl
    have hLA := lineAt_nat h1 h2
    rw [h.cpy.line hLA (hs.ne hLA)] at hm
    rcases readLineL_mem hm with hm | ⟨r, hr, hk, rfl⟩
    · exact hs.word d (List.mem_of_getElem? h1) ln (List.mem_of_getElem? h2) s hm
    · exact h.cpy.wordB ((ofLn_mem.1 hr).1) hk
theorem Right.fits {t : Txt} {id : Int} {rs : List Rd} (h : Right t id rs) (ht : Fits t) (hr : ∀ r ∈ rs, RdF r) : Fits (readT t rs) := by
  refine ⟨?_, fun c hc => ?_, fun c hc l hl => ?_, fun c hc l hl s hm => ?_⟩
  · unfold readT; rw [List.length_mapIdx]; exact ht.chs
  · obtain ⟨d, hd, -, h2⟩ := readT_chap hc
    rw [h2]; exact ht.lines d hd
  · obtain ⟨k, n, d, ln, h1, h2, rfl, -⟩ := readT_mem hc hl
    have := (h.lines k n d ln h1 h2).2
    omega
  · obtain ⟨k, n, d, ln, h1, h2, rfl, -⟩ := readT_mem hc hl
    rcases refLine_mem ln rs k n s _ hm with h | ⟨r, h3, rfl⟩
    · exact ht.size d (List.mem_of_getElem? h1) ln (List.mem_of_getElem? h2) s h
    · exact (hr r h3).word
end Go.Ev
namespace Go.Ev
open Go.Proofs
set_option maxRecDepth 100000
set_option linter.unusedSimpArgs false
attribute [local irreducible] Wp WpS
/-! ### a copy that is right, by both -/
theorem lensOf_mem {t : Txt} {ys : List AV} (h : All2 ChapA t ys) {n : Int} (hn : n ∈ lensOf ys) : ∃ c ∈ t, ∃ l ∈ c.2, n = (l.length : Int) := by
  unfold lensOf at hn
  obtain ⟨y, hy, hz⟩ := List.mem_flatMap.1 hn
  obtain ⟨z, hzm, rfl⟩ := List.mem_map.1 hz
  obtain ⟨i, hi⟩ := List.getElem?_of_mem hy
  obtain ⟨c, hc⟩ := at_lt t i (by rw [h.1]; exact (List.getElem?_eq_some_iff.1 hi).1)
  obtain ⟨l, rfl, lxs, hl, hls⟩ := h.2 i c y hc hi
  have hlo : linesOf (.agg [intA c.1, l]) = lxs := hl.elems
  rw [hlo] at hzm
  obtain ⟨k, hk⟩ := List.getElem?_of_mem hzm
  obtain ⟨ln, hln⟩ := at_lt c.2 k (by rw [hls.1]; exact (List.getElem?_eq_some_iff.1 hk).1)
  have hla : SlOf 1 (strs ln) z := hls.2 k ln z hln hk
  exact ⟨c, List.mem_of_getElem? hc, ln, List.mem_of_getElem? hln, by rw [hla.elems, strs_len]⟩
theorem lensOf_len : ∀ (ys : List AV), (∀ y ∈ ys, (linesOf y).length ≤ 10) → (lensOf ys).length ≤ 10 * ys.length
  | [], _ => Nat.le_refl _
  | y :: r, h => by
    have ih := lensOf_len r fun z hz => h z (List.mem_cons_of_mem _ hz)
    have h1 := h y (List.mem_cons_self ..)
    unfold lensOf at ih ⊢
    rw [List.flatMap_cons, List.length_append, List.length_map, List.length_cons]; omega
theorem linesOf_len {t : Txt} {ys : List AV} (h : All2 ChapA t ys) (hs : Small t) : ∀ y ∈ ys, (linesOf y).length ≤ 10 := fun y hy => by
  obtain ⟨i, hi⟩ := List.getElem?_of_mem hy
  obtain ⟨c, hc⟩ := at_lt t i (by rw [h.1]; exact (List.getElem?_eq_some_iff.1 hi).1)
  obtain ⟨l, rfl, lxs, hl, hls⟩ := h.2 i c y hc hi
  have hlo : linesOf (.agg [intA c.1, l]) = lxs := hl.elems
  rw [hlo, ← hls.1]; exact (hs.lines c (List.mem_of_getElem? hc)).2
theorem item58_of {t : Txt} {ys : List AV} (h : All2 ChapA t ys) : ∀ z ∈ chapIts 0 ys, Item58 z := fun z hz => by
  obtain ⟨i, y, j, w, hi, hj, rfl⟩ := chapIts_of ys 0 z hz
  obtain ⟨c, hc⟩ := at_lt t i (by rw [h.1]; exact (List.getElem?_eq_some_iff.1 hi).1)
  obtain ⟨l, rfl, lxs, hl, hls⟩ := h.2 i c y hc hi
  have hlo : linesOf (.agg [intA c.1, l]) = lxs := hl.elems
  rw [hlo] at hj
  obtain ⟨ln, hln⟩ := at_lt c.2 j (by rw [hls.1]; exact (List.getElem?_eq_some_iff.1 hj).1)
  exact ⟨_, w, strs ln, rfl, hls.2 j ln w hln hj⟩
theorem copyW {e : Exts} (he : Quiet e) (t : Txt) (hs : Small t) (ht : Fits t) (htx : textB t = true) (ch : AV) (xs : List AV) (hch : SlOf 2 xs ch) (hall : All2 ChapA t xs) (id : Int) (rs : List Rd) (x : AV) (hx : RdsA rs x) (hrd : ∀ r ∈ rs, RdF r) (hR : Right t id rs) :
    ∃ ys o, SlOf 2 ys o ∧ All2 ChapA (readT t rs) ys ∧ Has58 e ch id x true ∧ Ans (Cx e) 25 [.agg [ch], .agg [intA id, x]] (.tup [.agg [o], intA 0]) := by
  have hlen := hR.len
  obtain ⟨ys, o, ho, hys, h55⟩ := readW he t hs ht ch xs hch hall id rs x hx (by omega) hR.cpy
  have hs2 := hR.small hs
  have ht2 := hR.fits ht hrd
  have hyl : ys.length ≤ 6 := by rw [← hys.1]; exact hs2.chs.2
  have hfit : rs.all (fitOne t) = true := List.all_eq_true.2 fun r hr => by
    rw [fit_read (fun l hl => ?_)]
    · exact hR.cpy.fit r hr
    · obtain ⟨c, hc, hlc⟩ := lineAt_mem hl
      have := (hs.words c hc l hlc).1
      omega
  have hcnt : (chapIts 0 ys).length < 2 ^ 32 := by
    have h1 := lensOf_len ys (linesOf_len hys hs2)
    rw [← chapIts_lens 0 ys, List.length_map] at h1
    omega
  have hw : withinB 1 10 (lensOf ys) = true := List.all_eq_true.2 fun n hn => by
    obtain ⟨c, hc, l, hl, rfl⟩ := lensOf_mem hys hn
    have := hs2.words c hc l hl
    simp only [Bool.and_eq_true, decide_eq_true_eq]; omega
  have h58 := has58 he t ht ch xs hch hall id hR.id rs x hx hlen hrd hfit (ordB_of rs hR.cpy.ord) ys o ho (fun y hy => (okCh2_of ht2 hys y hy).ok) (by omega) (item58_of hys) hcnt h55
  rw [hw] at h58
  exact ⟨ys, o, ho, hys, h58, ans25 he t ht htx ch xs hch hall id rs x hx h58 ys o ho h55⟩
/-! ### memory with a list of words that grows over what stays -/
structure MB (B : Nat) (base : Fm) (H : Heap) (ds : List ByteArray) (out : AV) : Prop where
  lock : H.lock = 0
  size : B ≤ H.size
  base : Has base H
  done : DoneR H ds out
/-- what stays is no list that grows, and lies in front -/
def Stay (B : Nat) (base : Fm) : Prop := ∀ p ∈ base, p.1 < B ∧ ∀ v m e sz cs, p.2 ≠ .cells v m e sz true cs
theorem MB.row {B : Nat} {base : Fm} {H : Heap} {ds : List ByteArray} {out : AV} (h : MB B base H ds out) {b v m e sz : Nat} {g : Bool} {cs : List AV} (hb : (b, AObj.cells v m e sz g cs) ∈ base) (E : List (Option AObj)) : (H.plus E).row b v = some (m, e, sz, g, cs) := by
  have hg := h.base _ hb
  rw [rowLo (get_ltS hg)]; exact get_row hg
theorem MB.plus {B : Nat} {base : Fm} {H : Heap} {ds : List ByteArray} {out : AV} (h : MB B base H ds out) (E : List (Option AObj)) : MB B base (H.plus E) ds out :=
  ⟨h.lock, by have := h.size; rw [plus_size]; omega, h.base.plus E, h.done.plus E⟩
theorem MB.trim {B : Nat} {base : Fm} {H : Heap} {ds : List ByteArray} {out : AV} (h : MB B base H ds out) (hS : Stay B base) {n : Nat} (hn : B ≤ n) (vs : List AV) (ms : List Nat) (hv : bound out ≤ boundL vs) : MB B base (H.trim n vs ms) ds out := by
  by_cases hn2 : n ≤ H.size
  · refine ⟨trim_lock.trans h.lock, Nat.le_trans hn (trim_size' hn2), fun p hp => (trim_lo (by have := (hS p hp).1; omega)).trans (h.base p hp), ?_⟩
    rcases h.done with hd | ⟨b, v, h1, h2, rfl, h4⟩
    · exact Or.inl hd
    · unfold Heap.trim
      split
      · rename_i hq
        rw [Bool.and_eq_true, Bool.and_eq_true, Bool.and_eq_true, Nat.ble_eq] at hq
        have h5 := hq.1.1.1
        have hb : b < n := by simp only [bound] at hv; omega
        have hg := (takeH_get (H := H) hb).trans (row_of_get h4)
        exact Or.inr ⟨b, v, h1, get_size hg, rfl, get_row hg⟩
      · exact Or.inr ⟨b, v, h1, h2, rfl, h4⟩
  · rw [trim_whole (by omega)]; exact h
theorem MB.more {B : Nat} {base : Fm} {H : Heap} {ds : List ByteArray} {b v : Nat} (h : MB B base H ds (.sl b v 0 ds.length none)) (hS : Stay B base) (hb : b < H.size) (hr : H.row b v = some (0, 9, 1, true, strs ds)) (s : List ByteArray) (n : Nat) (hn : n = ds.length + s.length) : MB B base (H.put b (.cells (v + 1) 0 9 1 true (strs (ds ++ s)))) (ds ++ s) (.sl b (v + 1) 0 n none) := by
  refine ⟨h.lock, by rw [put_sizeI _ hb]; exact h.size, fun p hp => ?_, Or.inr ⟨b, v + 1, ?_, by rw [put_sizeI _ hb]; exact hb, by rw [hn, List.length_append], row_put_same hb⟩⟩
  · have hne : p.1 ≠ b := by
      rintro rfl
      have h1 := (row_of_get hr).symm.trans (h.base p hp)
      exact (hS p hp).2 v 0 9 1 (strs ds) (Option.some.inj h1).symm
    exact (put_get_ne _ (by omega) hne).trans (h.base p hp)
  · have := h.lock
    show H.lock ≤ b
    omega
theorem MB.new {B : Nat} {base : Fm} {H : Heap} {ds : List ByteArray} {out : AV} (h : MB B base H ds out) {N : Nat} (hN : H.size = N) (E : List (Option AObj)) (k : Nat) (ds' : List ByteArray) (hE : E[k]? = some (some (.cells 0 0 9 1 true (strs ds')))) : MB B base (H.plus E) ds' (.sl (N + k) 0 0 ds'.length none) := by
  have hk := (List.getElem?_eq_some_iff.1 hE).1
  refine ⟨h.lock, by have := h.size; rw [plus_size]; omega, h.base.plus E, Or.inr ⟨N + k, 0, ?_, by rw [plus_size]; omega, rfl, ?_⟩⟩
  · have := h.lock
    show H.lock ≤ _
    omega
  · rw [rowP hN, hE]; rfl
end Go.Ev
namespace Go.Ev
open Go.Proofs
set_option maxRecDepth 100000
set_option linter.unusedSimpArgs false
attribute [local irreducible] Wp WpS
end Go.Ev
namespace Go.Ev
open Go.Proofs
set_option maxRecDepth 100000
set_option linter.unusedSimpArgs false
attribute [local irreducible] Wp WpS
end Go.Ev
namespace Go.Ev
open Go.Proofs
set_option maxRecDepth 100000
set_option linter.unusedSimpArgs false
attribute [local irreducible] Wp WpS
theorem call25 {e : Exts} (he : Quiet e) {ch : AV} {id : Int} {x o : AV} (hb : boundL [.agg [ch], .agg [intA id, x]] = 0) (h : Ans (Cx e) 25 [.agg [ch], .agg [intA id, x]] (.tup [.agg [o], intA 0])) (me : FuncId) (d : Option Tmp) (H : Heap) : callA (Cx e) (lim (Cx e)) me 25 d [.agg [ch], .agg [.v (.int .i64 id), x]] H = some (.tup [.agg [o], .v (.int .i64 0)], H) :=
  h.call (ext_25 he) (pure_25 _ _ _) hb H
theorem MB.drop {B : Nat} {base : Fm} {H : Heap} {ds : List ByteArray} {out : AV} (h : MB B base H ds out) : MB B base H [] (.v (.slice none 0 0)) := ⟨h.lock, h.size, h.base, Or.inl ⟨rfl, rfl⟩⟩
theorem MB.sub {B B' : Nat} {base base' : Fm} {H : Heap} {ds : List ByteArray} {out : AV} (h : MB B base H ds out) (hB : B' ≤ B) (hb : ∀ p ∈ base', p ∈ base) : MB B' base' H ds out := ⟨h.lock, Nat.le_trans hB h.size, fun p hp => h.base p (hb p hp), h.done⟩
theorem MB.lay {B : Nat} {base : Fm} {H : Heap} {ds : List ByteArray} {out : AV} (h : MB B base H ds out) {N : Nat} (hN : H.size = N) (o : AObj) (E : List (Option AObj)) : MB (N + 1) (base ++ [(N, o)]) (H.plus (some o :: E)) ds out := by
  refine ⟨h.lock, by rw [plus_size, hN, List.length_cons]; omega, fun p hp => ?_, h.done.plus _⟩
  rcases List.mem_append.1 hp with hp | hp
  · exact h.base.plus _ p hp
  · obtain rfl := List.mem_singleton.1 hp
    rw [plus_get_hi _ (by omega), hN, Nat.sub_self]; rfl
theorem Stay.lay {B N : Nat} {base : Fm} (h : Stay B base) (hB : B ≤ N) {o : AObj} (ho : ∀ v m e sz cs, o ≠ .cells v m e sz true cs) : Stay (N + 1) (base ++ [(N, o)]) := by
  intro p hp
  rcases List.mem_append.1 hp with hp | hp
  · exact ⟨by have := (h p hp).1; omega, (h p hp).2⟩
  · obtain rfl := List.mem_singleton.1 hp
    exact ⟨Nat.lt_succ_self _, ho⟩
end Go.Ev
namespace Go.Ev
open Go.Proofs
set_option maxRecDepth 100000
set_option linter.unusedSimpArgs false
attribute [local irreducible] Wp WpS
@[go_sem] theorem nilCk_ptr (b w k : Nat) : nilCk (.ptr b w k) = some (.ptr b w k) := rfl
/-! ### a line of two texts, and the fewest readings -/
def prC (lx ly : AV) (tb : List Int) : List AV := lx :: ly :: tb.map intA
theorem prC_0 (lx ly : AV) (tb : List Int) : (prC lx ly tb)[0]? = some lx := rfl
theorem prC_1 (lx ly : AV) (tb : List Int) : (prC lx ly tb)[1]? = some ly := rfl
theorem prC_len (lx ly : AV) (tb : List Int) : (prC lx ly tb).length = tb.length + 2 := by simp [prC]
theorem prC_get (lx ly : AV) {tb : List Int} {k : Nat} {v : Int} (h : tb[k]? = some v) : (prC lx ly tb)[2 + k]? = some (.v (.int .i64 v)) := by
  unfold prC
  rw [show 2 + k = k + 2 by omega]
  simp [h, intA]
theorem prC_set (lx ly : AV) {tb : List Int} {k : Nat} (h : k < tb.length) (v : Int) : splice (2 + k) [.v (.int .i64 v)] (prC lx ly tb) = prC lx ly (tb.set k v) := by
  unfold splice prC
  apply List.ext_getElem?
  intro i
  match i with
  | 0 => rw [show 2 + k = (k + 1) + 1 by omega]; rfl
  | 1 => rw [show 2 + k = k + 2 by omega]; rfl
  | i + 2 =>
    rw [show 2 + k = k + 2 by omega]
    simp only [List.take_succ_cons, List.cons_append, List.getElem?_cons_succ, List.length_cons, List.length_nil, List.drop_succ_cons, Nat.zero_add]
    rw [List.map_set, List.append_assoc]
    have hk : ((tb.map intA).take k).length = k := by rw [List.length_take, List.length_map]; omega
    rw [List.getElem?_set]
    by_cases h1 : i < k
    · rw [if_neg (by omega), List.getElem?_append_left (by omega), List.getElem?_take_of_lt h1]
    · by_cases h2 : i = k
      · subst h2
        rw [if_pos rfl, List.getElem?_append_right (by omega), hk, Nat.sub_self, if_pos (by simpa using h)]; rfl
      · rw [if_neg (by omega), List.getElem?_append_right (by omega), hk, show i - k = (i - k - 1) + 1 by omega]
        show (List.drop (k + 1) (tb.map intA))[i - k - 1]? = _
        rw [List.getElem?_drop, show k + 1 + (i - k - 1) = i by omega]
theorem prC_cells (lx ly : AV) (tb : List Int) (h1 : lx.flat = true) (h2 : ly.flat = true) : (prC lx ly tb).all AV.flat = true := by
  unfold prC
  rw [List.all_cons, List.all_cons, h1, h2]
  simp only [List.all_map, Bool.true_and]
  exact List.all_eq_true.2 fun _ _ => rfl
theorem arP (b v k n s i : Nat) (h : i < n) : arIdx n s (.ptr b v k) (.v (.int .i64 (i : Int))) = some (.ptr b v (k + i * s)) := by
  show (if 0 ≤ (i : Int) ∧ (i : Int) < (n : Int) then some (AV.ptr b v (k + (i : Int).toNat * s)) else none) = _
  rw [if_pos (by omega), Int.toNat_natCast]
def sameB (a c : Line) (i j : Nat) : Bool := match a[i]?, c[j]? with
  | some s, some u => decide (s = u)
  | _, _ => false
theorem sameB_some {a c : Line} {i j : Nat} {s u : ByteArray} (h1 : a[i]? = some s) (h2 : c[j]? = some u) : sameB a c i j = decide (s = u) := by unfold sameB; rw [h1, h2]
theorem sameB_left {a c : Line} {i j : Nat} (h : ¬ i < a.length) : sameB a c i j = false := by unfold sameB; rw [List.getElem?_eq_none_iff.2 (by omega)]
theorem sameB_right {a c : Line} {i j : Nat} (h : ¬ j < c.length) : sameB a c i j = false := by unfold sameB; rw [List.getElem?_eq_none_iff.2 (show c.length ≤ j by omega)]; cases a[i]? <;> rfl
/-- a pair in memory -/
structure PrH (X : Heap) (b : Nat) (lx ly : AV) (a c : Line) (tb : List Int) : Prop where
  lt : b < X.size
  row : ∃ m g, X.row b 0 = some (m, 104, 1, g, prC lx ly tb)
  left : SlOf 1 (strs a) lx
  right : SlOf 1 (strs c) ly
  len : tb.length = 144
theorem PrH.lock {X : Heap} {b : Nat} {lx ly : AV} {a c : Line} {tb : List Int} (h : PrH X b lx ly a c tb) (k : Nat) : PrH { X with lock := k } b lx ly a c tb := ⟨h.lt, h.row, h.left, h.right, h.len⟩
theorem PrH.plus {X : Heap} {b : Nat} {lx ly : AV} {a c : Line} {tb : List Int} (h : PrH X b lx ly a c tb) (E : List (Option AObj)) : PrH (X.plus E) b lx ly a c tb := by
  obtain ⟨m, g, hr⟩ := h.row
  exact ⟨by have := h.lt; rw [plus_size]; omega, ⟨m, g, by rw [rowLo h.lt]; exact hr⟩, h.left, h.right, h.len⟩
set_option maxHeartbeats 2000000 in
theorem fn74 {e : Exts} {X : Heap} {b : Nat} {lx ly : AV} {a c : Line} {tb : List Int} (h : PrH X b lx ly a c tb) (i j : Nat) : Fn' (Cx e) 74 [.ptr b 0 0, intA i, intA j] X (fun v _ => v = .v (.bool (sameB a c i j))) := by
  obtain ⟨N, hN⟩ : ∃ N, X.size = N := ⟨_, rfl⟩
  obtain ⟨m, g, hr0⟩ := h.row
  have hb := h.lt
  have hr : ∀ E, (X.plus E).row b 0 = some (m, 104, 1, g, prC lx ly tb) := fun E => by rw [rowLo hb]; exact hr0
  have hlt : ltB b N = true := by unfold ltB; simp; omega
  have hl := h.left
  have hl2 := h.right
  rw [fn_step (fn_74 e) (show Tryz.f74.body = some _ from rfl), ← plus_nil X]
  simp -implicitDefEqProofs only [Tryz.f74, go_sem, ↓reduceIte, Int.reduceEq, Int.reduceLT, Int.reduceLE, List.reduceReplicate, intA, setT_nil, setT_cons, ↓boolP_bool, ↓iteB_true, ↓iteB_false, sizeP hN, settleP0 hN, settleP hN, List.length_nil, Nat.add_zero]
  refine wp_drawX [([], [], false), ([], [], false), ([], [], false), ([], [], false), ([], [], false), ([], [], false), ([], [], false), ([], [], false), ([], [], false), ([], [], false), ([], [], false), ([], [], false), ([], [], false), ([], [], false), ([], [], false), ([], [], false), ([], [], false), ([], [], false), ([], [], false), ([], [], false), ([], [], false), ([], [], false), ([], [], false), ([], [], false), ([], [], false), ([], [], false), ([], [], false), ([20, 23], [], false), ([], [], false), ([], [], false), ([20, 23], [], false), ([], [], false), ([], [], false), ([], [], false)] (by kernel_rfl) (by kernel_rfl) ?_
  by_cases h1 : (i : Int) < (a.length : Int)
  · by_cases h2 : (j : Int) < (c.length : Int)
    · obtain ⟨s, hs⟩ := at_lt a i (by omega)
      obtain ⟨u, hu⟩ := at_lt c j (by omega)
      simp -implicitDefEqProofs only [go_sem, ↓reduceIte, Int.reduceEq, Int.reduceLT, Int.reduceLE, List.reduceReplicate, intA, setT_nil, setT_cons, ↓boolP_bool, ↓iteB_true, ↓iteB_false, hr, prC_0, prC_1, hlt, hl.len, hl2.len, strs_len, h1, h2, hl.lenI, hl2.lenI, hl.idx (strs_get hs), hl2.idx (strs_get hu), hl.objs, hl2.objs, bin_seq, sizeP hN, settleP0 hN, settleP hN, List.length_nil, Nat.add_zero]
      show AV.v (.bool (decide (s = u))) = _
      rw [sameB_some hs hu]
    · simp -implicitDefEqProofs only [go_sem, ↓reduceIte, Int.reduceEq, Int.reduceLT, Int.reduceLE, List.reduceReplicate, intA, setT_nil, setT_cons, ↓boolP_bool, ↓iteB_true, ↓iteB_false, hr, prC_0, prC_1, hlt, hl.len, hl2.len, strs_len, h1, h2, hl.lenI, hl2.lenI, hl.objs, hl2.objs, bin_seq, sizeP hN, settleP0 hN, settleP hN, List.length_nil, Nat.add_zero]
      show AV.v (.bool false) = _
      rw [sameB_right (by omega)]
  · simp -implicitDefEqProofs only [go_sem, ↓reduceIte, Int.reduceEq, Int.reduceLT, Int.reduceLE, List.reduceReplicate, intA, setT_nil, setT_cons, ↓boolP_bool, ↓iteB_true, ↓iteB_false, hr, prC_0, prC_1, hlt, hl.len, hl2.len, strs_len, h1, hl.lenI, hl2.lenI, hl.objs, hl2.objs, bin_seq, sizeP hN, settleP0 hN, settleP hN, List.length_nil, Nat.add_zero]
    show AV.v (.bool false) = _
    rw [sameB_left (by omega)]
theorem callP74 {e : Exts} (he : Quiet e) {X : Heap} {b : Nat} {lx ly : AV} {a c : Line} {tb : List Int} (h : PrH X b lx ly a c tb) (i j : Nat) (me : FuncId) (d : Option Tmp) : callA (Cx e) (lim (Cx e)) me 74 d [.ptr b 0 0, .v (.int .i64 i), .v (.int .i64 j)] X = some (.v (.bool (sameB a c i j)), X) := by
  refine callA_still (ext_74 he) (pure_74 _ _ _) rfl (fun h0 => ?_) (fn74 (h.lock _) i j)
  have : Nat.max (b + 1) (Nat.max 0 (Nat.max 0 0)) = 0 := h0
  have h1 := Nat.le_max_left (b + 1) (Nat.max 0 (Nat.max 0 0))
  have h2 : b + 1 ≤ 0 := this ▸ h1
  omega
def atT (tb : List Int) (i j : Nat) : Int := (tb[i * 12 + j]?).getD 0
theorem atT_get {tb : List Int} (h : tb.length = 144) {i j : Nat} (hi : i < 12) (hj : j < 12) : tb[i * 12 + j]? = some (atT tb i j) := by
  unfold atT
  rw [List.getElem?_eq_getElem (by omega)]; rfl
theorem prT (lx ly : AV) {tb : List Int} (h : tb.length = 144) {i j : Nat} (hi : i < 12) (hj : j < 12) : (prC lx ly tb)[2 + i * 12 + j]? = some (.v (.int .i64 (atT tb i j))) := by
  rw [Nat.add_assoc]; exact prC_get lx ly (atT_get h hi hj)
theorem mm3 (x y z : Int) : minmaxA false (.v (.int .i64 x)) [.v (.int .i64 y), .v (.int .i64 z)] = some (.v (.int .i64 (min (min x y) z))) := by
  have h2 : ∀ u w : Int, minmax2 false (.v (.int .i64 u)) (.v (.int .i64 w)) = some (.v (.int .i64 (min u w))) := by
    intro u w
    unfold minmax2
    simp only [Bool.false_eq_true, if_false]
    by_cases h : w < u
    · simp [h, Int.min_def]; try omega
    · simp [h, Int.min_def]; try omega
  unfold minmaxA
  rw [h2]
  simp only
  unfold minmaxA
  rw [h2]; rfl
theorem impure_92 (e : Exts) (h : FuncId) (d : Option Tmp) : (Cx e).pure h 92 d = false := by simp [Cx, pureF, impF]
def newT (a c : Line) (tb : List Int) (i j : Nat) : Int := if sameB a c i j then atT tb (i + 1) (j + 1) else 1 + min (min (atT tb (i + 1) (j + 1)) (atT tb (i + 1) j)) (atT tb i (j + 1))
def fillT (a c : Line) (tb : List Int) (i j : Nat) : List Int := if i = a.length ∧ j = c.length then tb else tb.set (i * 12 + j) (newT a c tb i j)
theorem callA_rawAll {C : Cfg} {f : FuncId} {args : List AV} {H : Heap} {w : AV} {Q : Heap → Prop} (hx : C.ext f = none) (hp : ∀ me d, C.pure me f d = false) (h : Fn' C f args H (rawT H w Q)) : ∃ Y, (∀ (me : FuncId) (d : Option Tmp), callA C (lim C) me f d args H = some (w, Y)) ∧ Q Y := by
  unfold Fn' at h
  rw [bindO_iff] at h
  obtain ⟨o, h1, h2⟩ := h
  cases o with
  | ret v H' =>
    obtain ⟨rfl, hQ⟩ := h2
    refine ⟨_, fun me d => ?_, hQ⟩
    have hk : callKind C me f d args = 0 := by unfold callKind; rw [hp]; rfl
    unfold callA callB
    rw [hx]
    simp only [hk, h1]
  | _ => exact h2.elim
set_option maxHeartbeats 4000000 in
theorem call92 {e : Exts} (he : Quiet e) {X : Heap} {b : Nat} {lx ly : AV} {a c : Line} {tb : List Int} (h : PrH X b lx ly a c tb) (hlb : X.lock ≤ b) (i j : Nat) (hi : i ≤ a.length) (hj : j ≤ c.length) (ha : a.length ≤ 10) (hc : c.length ≤ 10) (hv : ∀ v ∈ tb, 0 ≤ v ∧ v < 2 ^ 32) :
    ∃ Y, (∀ (me : FuncId) (d : Option Tmp), callA (Cx e) (lim (Cx e)) me 92 d [.ptr b 0 0, .v (.int .i64 i), .v (.int .i64 j)] X = some (.tup [], Y)) ∧ PrH Y b lx ly a c (fillT a c tb i j) ∧ Y.size = X.size ∧ Y.lock = X.lock ∧ ∀ b', b' ≠ b → Y.get b' = X.get b' := by
  refine callA_rawAll (ext_92 he) (fun _ _ => impure_92 _ _ _) ?_
  obtain ⟨N, hN⟩ : ∃ N, X.size = N := ⟨_, rfl⟩
  obtain ⟨m, g, hr0⟩ := h.row
  have hb := h.lt
  have hr : ∀ E, (X.plus E).row b 0 = some (m, 104, 1, g, prC lx ly tb) := fun E => by rw [rowLo hb]; exact hr0
  have hlt : ltB b N = true := by unfold ltB; simp; omega
  have hl := h.left
  have hl2 := h.right
  have hw1 := wrap_succ i (by omega)
  have hw2 := wrap_succ j (by omega)
  have h74 := fun me d E => callP74 he (h.plus E) i j me d
  have hlkX : X.lock ≤ N := by omega
  generalize hKK : (rawT X (.tup []) fun Y => PrH Y b lx ly a c (fillT a c tb i j) ∧ Y.size = X.size ∧ Y.lock = X.lock ∧ ∀ b', b' ≠ b → Y.get b' = X.get b') = KK
  rw [fn_step (fn_92 e) (show Tryz.f92.body = some _ from rfl), ← plus_nil X]
  simp only [Tryz.f92]
  by_cases hend : i = a.length ∧ j = c.length
  · have hq : fillT a c tb i j = tb := by unfold fillT; rw [if_pos hend]
    obtain ⟨rfl, rfl⟩ := hend
    simp -implicitDefEqProofs only [go_sem, ↓reduceIte, Int.reduceEq, Int.reduceLT, Int.reduceLE, List.reduceReplicate, intA, setT_nil, setT_cons, ↓boolP_bool, ↓iteB_true, ↓iteB_false, hr, prC_0, prC_1, hl.len, hl2.len, strs_len, decide_true, sizeP hN, settleP0 hN, settleP hN, List.length_nil, Nat.add_zero]
    rw [← hKK, hq]
    refine ⟨rfl, ?_⟩
    rw [plus_nil, trim_whole (Nat.le_refl _)]
    exact ⟨h, rfl, rfl, fun _ _ => rfl⟩
  · have hq : fillT a c tb i j = tb.set (i * 12 + j) (newT a c tb i j) := by unfold fillT; rw [if_neg hend]
    have hlen := h.len
    have hst : ∀ (w : Int) E, storeCells (X.plus E) b 0 (2 + i * 12 + j) [.v (.int .i64 w)] = some ((X.put b (.cells 0 (Nat.max m 0) 104 1 g (prC lx ly (tb.set (i * 12 + j) w)))).plus E) := by
      intro w E
      have := storeLoK (X := X) (b := b) (v := 0) (k := 2 + i * 12 + j) (x := .v (.int .i64 w)) hb hlb hr0 (by rw [prC_len, hlen]; omega) rfl E
      rw [this]
      rw [show splice (2 + i * 12 + j) [AV.v (.int .i64 w)] (prC lx ly tb) = prC lx ly (tb.set (i * 12 + j) w) by rw [Nat.add_assoc]; exact prC_set lx ly (by omega) w]
      rfl
    have hNp : ∀ o, (X.put b o).size = N := fun o => by rw [put_sizeI _ hb]; exact hN
    have hszp : ∀ o E, ((X.put b o).plus E).size = N + E.length := fun o E => sizeP (hNp o) E
    have hstp : ∀ o E k, settleH (N + k) ((X.put b o).plus E) = if (E.drop k).all Option.isNone = true then (X.put b o).plus (E.take k) else (X.put b o).plus E := fun o E k => settleP (hNp o) E k
    have hstp0 : ∀ o E, settleH N ((X.put b o).plus E) = if (E.drop 0).all Option.isNone = true then (X.put b o).plus (E.take 0) else (X.put b o).plus E := fun o E => settleP0 (hNp o) E
    have hfin : ∀ w, w = newT a c tb i j → AtO KK (.tup []) ((X.put b (.cells 0 (Nat.max m 0) 104 1 g (prC lx ly (tb.set (i * 12 + j) w)))).plus []) := by
      rintro w rfl
      rw [← hKK, hq]
      refine ⟨rfl, ?_⟩
      rw [plus_nil, trim_whole (by rw [hNp, hN]; exact Nat.le_refl _)]
      exact ⟨⟨by rw [hNp]; omega, ⟨_, _, row_put_same hb⟩, hl, hl2, by rw [List.length_set]; exact hlen⟩, by rw [hNp, hN], rfl, fun b' hb' => put_get_ne _ (by omega) hb'⟩
    have hA : 0 ≤ atT tb (i + 1) (j + 1) ∧ atT tb (i + 1) (j + 1) < 2 ^ 32 := hv _ (List.mem_of_getElem? (atT_get hlen (i := i + 1) (j := j + 1) (by omega) (by omega)))
    have hB : 0 ≤ atT tb (i + 1) j ∧ atT tb (i + 1) j < 2 ^ 32 := hv _ (List.mem_of_getElem? (atT_get hlen (i := i + 1) (j := j) (by omega) (by omega)))
    have hC : 0 ≤ atT tb i (j + 1) ∧ atT tb i (j + 1) < 2 ^ 32 := hv _ (List.mem_of_getElem? (atT_get hlen (i := i) (j := j + 1) (by omega) (by omega)))
    have pA := prT lx ly hlen (i := i + 1) (j := j + 1) (by omega) (by omega)
    have pB := prT lx ly hlen (i := i + 1) (j := j) (by omega) (by omega)
    have pC := prT lx ly hlen (i := i) (j := j + 1) (by omega) (by omega)
    have rI := fun v k => arP b v k 12 12 i (by omega)
    have rI1 := fun v k => arP b v k 12 12 (i + 1) (by omega)
    have rJ := fun v k => arP b v k 12 1 j (by omega)
    have rJ1 := fun v k => arP b v k 12 1 (j + 1) (by omega)
    cases hs : sameB a c i j
    · rw [hs] at h74
      have hnew : newT a c tb i j = 1 + min (min (atT tb (i + 1) (j + 1)) (atT tb (i + 1) j)) (atT tb i (j + 1)) := by unfold newT; rw [hs]; rfl
      have hwr : IntKind.i64.wrap (1 + min (min (atT tb (i + 1) (j + 1)) (atT tb (i + 1) j)) (atT tb i (j + 1))) = 1 + min (min (atT tb (i + 1) (j + 1)) (atT tb (i + 1) j)) (atT tb i (j + 1)) := wrap_in _ (by omega) (by omega)
      cases d1 : decide ((i : Int) = (a.length : Int))
      · simp -implicitDefEqProofs only [go_sem, ↓reduceIte, Int.reduceEq, Int.reduceLT, Int.reduceLE, List.reduceReplicate, intA, setT_nil, setT_cons, ↓boolP_bool, ↓iteB_true, ↓iteB_false, hr, prC_0, prC_1, hl.len, hl2.len, strs_len, d1, h74, rI, rI1, rJ, rJ1, Nat.mul_one, Nat.zero_add, pA, pB, pC, mm3, hw1, hw2, hlt, hst, hszp, hstp, hstp0, sizeP hN, settleP0 hN, settleP hN, List.length_nil, Nat.add_zero]
        refine wp_drawX [([], [], false), ([], [], false), ([], [], false), ([], [], false), ([], [], false), ([], [], false), ([], [], false), ([], [], false), ([], [], false), ([], [], false), ([], [], false), ([], [], false), ([], [], false), ([], [], false), ([], [], false), ([], [], false), ([], [], false), ([], [], false), ([], [], false), ([], [], false), ([], [], false), ([12], [], false), ([], [], false), ([], [], false), ([], [], false), ([], [], false), ([], [], false), ([], [], false), ([], [], false), ([], [], false), ([12, 21], [], false), ([], [], false), ([], [], false), ([], [], false), ([], [], false), ([], [], false), ([], [], false), ([], [], false)] (by kernel_rfl) (by kernel_rfl) ?_
        simp -implicitDefEqProofs only [go_sem, ↓reduceIte, Int.reduceEq, Int.reduceLT, Int.reduceLE, List.reduceReplicate, intA, setT_nil, setT_cons, ↓boolP_bool, ↓iteB_true, ↓iteB_false, hr, prC_0, prC_1, hl.len, hl2.len, strs_len, hwr, rI, rI1, rJ, rJ1, Nat.mul_one, Nat.zero_add, pA, pB, pC, mm3, hw1, hw2, hlt, hst, hszp, hstp, hstp0, sizeP hN, settleP0 hN, settleP hN, List.length_nil, Nat.add_zero]
        exact hfin _ hnew.symm
      · cases d2 : decide ((j : Int) = (c.length : Int))
        · simp -implicitDefEqProofs only [go_sem, ↓reduceIte, Int.reduceEq, Int.reduceLT, Int.reduceLE, List.reduceReplicate, intA, setT_nil, setT_cons, ↓boolP_bool, ↓iteB_true, ↓iteB_false, hr, prC_0, prC_1, hl.len, hl2.len, strs_len, d1, d2, h74, rI, rI1, rJ, rJ1, Nat.mul_one, Nat.zero_add, pA, pB, pC, mm3, hw1, hw2, hlt, hst, hszp, hstp, hstp0, sizeP hN, settleP0 hN, settleP hN, List.length_nil, Nat.add_zero]
          refine wp_drawX [([], [], false), ([], [], false), ([], [], false), ([], [], false), ([], [], false), ([], [], false), ([], [], false), ([], [], false), ([], [], false), ([], [], false), ([], [], false), ([], [], false), ([], [], false), ([], [], false), ([], [], false), ([], [], false), ([], [], false), ([], [], false), ([], [], false), ([], [], false), ([], [], false), ([12], [], false), ([], [], false), ([], [], false), ([], [], false), ([], [], false), ([], [], false), ([], [], false), ([], [], false), ([], [], false), ([12, 21], [], false), ([], [], false), ([], [], false), ([], [], false), ([], [], false), ([], [], false), ([], [], false), ([], [], false)] (by kernel_rfl) (by kernel_rfl) ?_
          simp -implicitDefEqProofs only [go_sem, ↓reduceIte, Int.reduceEq, Int.reduceLT, Int.reduceLE, List.reduceReplicate, intA, setT_nil, setT_cons, ↓boolP_bool, ↓iteB_true, ↓iteB_false, hr, prC_0, prC_1, hl.len, hl2.len, strs_len, hwr, rI, rI1, rJ, rJ1, Nat.mul_one, Nat.zero_add, pA, pB, pC, mm3, hw1, hw2, hlt, hst, hszp, hstp, hstp0, sizeP hN, settleP0 hN, settleP hN, List.length_nil, Nat.add_zero]
          exact hfin _ hnew.symm
        · exact absurd ⟨by have := of_decide_eq_true d1; omega, by have := of_decide_eq_true d2; omega⟩ hend
    · rw [hs] at h74
      have hnew : newT a c tb i j = atT tb (i + 1) (j + 1) := by unfold newT; rw [hs]; rfl
      have hil : i < a.length := by
        by_cases h1 : i < a.length
        · exact h1
        · rw [sameB_left h1] at hs; cases hs
      have d1 : decide ((i : Int) = (a.length : Int)) = false := decide_eq_false (by omega)
      simp -implicitDefEqProofs only [go_sem, ↓reduceIte, Int.reduceEq, Int.reduceLT, Int.reduceLE, List.reduceReplicate, intA, setT_nil, setT_cons, ↓boolP_bool, ↓iteB_true, ↓iteB_false, hr, prC_0, prC_1, hl.len, hl2.len, strs_len, d1, h74, rI, rI1, rJ, rJ1, Nat.mul_one, Nat.zero_add, pA, pB, pC, mm3, hw1, hw2, hlt, hst, hszp, hstp, hstp0, sizeP hN, settleP0 hN, settleP hN, List.length_nil, Nat.add_zero]
      refine wp_drawX [([], [], false), ([], [], false), ([], [], false), ([], [], false), ([], [], false), ([], [], false), ([], [], false), ([], [], false), ([], [], false), ([], [], false), ([], [], false), ([], [], false), ([], [], false), ([], [], false), ([], [], false), ([], [], false), ([], [], false), ([], [], false)] (by kernel_rfl) (by kernel_rfl) ?_
      simp -implicitDefEqProofs only [go_sem, ↓reduceIte, Int.reduceEq, Int.reduceLT, Int.reduceLE, List.reduceReplicate, intA, setT_nil, setT_cons, ↓boolP_bool, ↓iteB_true, ↓iteB_false, hr, prC_0, prC_1, hl.len, hl2.len, strs_len, rI, rI1, rJ, rJ1, Nat.mul_one, Nat.zero_add, pA, pB, pC, mm3, hw1, hw2, hlt, hst, hszp, hstp, hstp0, sizeP hN, settleP0 hN, settleP hN, List.length_nil, Nat.add_zero]
      exact hfin _ hnew.symm
end Go.Ev
namespace Go.Ev
open Go.Proofs
set_option maxRecDepth 100000
set_option linter.unusedSimpArgs false
/-! ### the fewest readings between two lines -/
def distL : Line → Line → Nat
  | [], ys => ys.length
  | xs, [] => xs.length
  | x :: xs, y :: ys => if x = y then distL xs ys else 1 + min (distL xs ys) (min (distL xs (y :: ys)) (distL (x :: xs) ys))
termination_by xs ys => xs.length + ys.length
theorem distL_nil (ys : Line) : distL [] ys = ys.length := by unfold distL; rfl
theorem distL_nilr (xs : Line) : distL xs [] = xs.length := by cases xs <;> (unfold distL; rfl)
theorem distL_same (x : ByteArray) (xs ys : Line) : distL (x :: xs) (x :: ys) = distL xs ys := by rw [distL]; rw [if_pos rfl]
theorem distL_ne {x y : ByteArray} (h : x ≠ y) (xs ys : Line) : distL (x :: xs) (y :: ys) = 1 + min (distL xs ys) (min (distL xs (y :: ys)) (distL (x :: xs) ys)) := by rw [distL]; rw [if_neg h]
/-- a way from one line to another one, with so many readings -/
inductive Way2 : Nat → Line → Line → Prop
  | nil : Way2 0 [] []
  | keep {n xs ys} (x : ByteArray) : Way2 n xs ys → Way2 n (x :: xs) (x :: ys)
  | other {n xs ys} (x y : ByteArray) : Way2 n xs ys → Way2 (n + 1) (x :: xs) (y :: ys)
  | leave {n xs ys} (x : ByteArray) : Way2 n xs ys → Way2 (n + 1) (x :: xs) ys
  | put {n xs ys} (y : ByteArray) : Way2 n xs ys → Way2 (n + 1) xs (y :: ys)
theorem Way2.puts : ∀ ys : Line, Way2 ys.length [] ys
  | [] => .nil
  | y :: ys => .put y (Way2.puts ys)
theorem Way2.omits : ∀ xs : Line, Way2 xs.length xs []
  | [] => .nil
  | x :: xs => .leave x (Way2.omits xs)
theorem way_dist (xs ys : Line) : Way2 (distL xs ys) xs ys := by
  induction xs, ys using distL.induct with
  | case1 ys => rw [distL_nil]; exact Way2.puts ys
  | case2 xs h => rw [distL_nilr]; exact Way2.omits xs
  | case3 xs y ys ih => rw [distL_same]; exact .keep y ih
  | case4 x xs y ys h i1 i2 i3 =>
    rw [distL_ne h]
    by_cases h1 : distL xs ys ≤ min (distL xs (y :: ys)) (distL (x :: xs) ys)
    · rw [Nat.min_eq_left h1, Nat.add_comm]; exact .other x y i1
    · rw [Nat.min_eq_right (by omega)]
      by_cases h2 : distL xs (y :: ys) ≤ distL (x :: xs) ys
      · rw [Nat.min_eq_left h2, Nat.add_comm]; exact .leave x i2
      · rw [Nat.min_eq_right (by omega), Nat.add_comm]; exact .put y i3
theorem Way2.sym {n : Nat} {xs ys : Line} (h : Way2 n xs ys) : Way2 n ys xs := by
  induction h with
  | nil => exact .nil
  | keep x _ ih => exact .keep x ih
  | other x y _ ih => exact .other y x ih
  | leave x _ ih => exact .put x ih
  | put y _ ih => exact .leave y ih
theorem Way2.len {n : Nat} {xs ys : Line} (h : Way2 n xs ys) : ys.length ≤ xs.length + n ∧ xs.length ≤ ys.length + n := by
  induction h with
  | nil => exact ⟨Nat.le_refl _, Nat.le_refl _⟩
  | _ => simp only [List.length_cons]; omega
theorem Way2.zero {xs ys : Line} (h : Way2 0 xs ys) : xs = ys := by
  generalize hn : 0 = n at h
  induction h with
  | nil => rfl
  | keep x _ ih => rw [ih hn]
  | other x y _ ih => omega
  | leave x _ ih => omega
  | put y _ ih => omega
/-- without its first word, a line is not nearer by more than one -/
theorem Way2.tl {n : Nat} {x : ByteArray} {xs ys : Line} (h : Way2 n (x :: xs) ys) : ∃ m, m ≤ n + 1 ∧ Way2 m xs ys := by
  generalize hz : x :: xs = zs at h
  induction h with
  | nil => cases hz
  | keep y h _ => cases hz; exact ⟨_, Nat.le_refl _, .put _ h⟩
  | other x' y h _ => cases hz; exact ⟨_, by omega, .put _ h⟩
  | leave y h _ => cases hz; exact ⟨_, by omega, h⟩
  | put y h ih => obtain ⟨m, h1, h2⟩ := ih hz; exact ⟨m + 1, by omega, .put y h2⟩
theorem Way2.tlr {n : Nat} {y : ByteArray} {xs ys : Line} (h : Way2 n xs (y :: ys)) : ∃ m, m ≤ n + 1 ∧ Way2 m xs ys := by
  obtain ⟨m, h1, h2⟩ := h.sym.tl
  exact ⟨m, h1, h2.sym⟩
/-- words that are the same may be kept -/
theorem Way2.same {n : Nat} {x : ByteArray} {xs ys : Line} (h : Way2 n (x :: xs) (x :: ys)) : ∃ m, m ≤ n ∧ Way2 m xs ys := by
  generalize hz : x :: xs = zs at h
  generalize hu : x :: ys = us at h
  cases h with
  | nil => cases hz
  | keep y h => cases hz; cases hu; exact ⟨_, Nat.le_refl _, h⟩
  | other x' y h => cases hz; cases hu; exact ⟨_, by omega, h⟩
  | leave y h => cases hz; subst hu; obtain ⟨m, h1, h2⟩ := h.tlr; exact ⟨m, h1, h2⟩
  | put y h => cases hu; subst hz; obtain ⟨m, h1, h2⟩ := h.tl; exact ⟨m, h1, h2⟩
theorem dist_le (xs ys : Line) : ∀ n, Way2 n xs ys → distL xs ys ≤ n := by
  induction xs, ys using distL.induct with
  | case1 ys => intro n h; rw [distL_nil]; have := h.len.1; simpa using this
  | case2 xs hx => intro n h; rw [distL_nilr]; have := h.len.2; simpa using this
  | case3 xs y ys ih => intro n h; rw [distL_same]; obtain ⟨m, h1, h2⟩ := h.same; exact Nat.le_trans (ih m h2) h1
  | case4 x xs y ys hne i1 i2 i3 =>
    intro n h
    rw [distL_ne hne]
    generalize hz : x :: xs = zs at h
    generalize hu : y :: ys = us at h
    cases h with
    | nil => cases hz
    | keep w h => cases hz; cases hu; exact absurd rfl hne
    | other x' y' h => cases hz; cases hu; have := i1 _ h; omega
    | leave w h => cases hz; subst hu; have := i2 _ h; omega
    | put w h => cases hu; subst hz; have := i3 _ h; omega
/-- ways one behind the other -/
theorem Way2.trans {n m : Nat} {xs ys zs : Line} (h : Way2 n xs ys) (g : Way2 m ys zs) : ∃ k, k ≤ n + m ∧ Way2 k xs zs := by
  induction h generalizing m zs with
  | nil => exact ⟨m, by omega, g⟩
  | @put n xs ys y h ih =>
    generalize hu : y :: ys = us at g
    induction g with
    | nil => cases hu
    | keep w g _ => cases hu; obtain ⟨k, h1, h2⟩ := ih g; exact ⟨k + 1, by omega, .put _ h2⟩
    | other w y' g _ => cases hu; obtain ⟨k, h1, h2⟩ := ih g; exact ⟨k + 1, by omega, .put _ h2⟩
    | leave w g _ => cases hu; obtain ⟨k, h1, h2⟩ := ih g; exact ⟨k, by omega, h2⟩
    | put w g ig => obtain ⟨k, h1, h2⟩ := ig hu; exact ⟨k + 1, by omega, .put w h2⟩
  | @leave n xs ys x h ih => obtain ⟨k, h1, h2⟩ := ih g; exact ⟨k + 1, by omega, .leave x h2⟩
  | @keep n xs ys x h ih =>
    generalize hu : x :: ys = us at g
    induction g with
    | nil => cases hu
    | keep w g _ => cases hu; obtain ⟨k, h1, h2⟩ := ih g; exact ⟨k, by omega, .keep _ h2⟩
    | other w y' g _ => cases hu; obtain ⟨k, h1, h2⟩ := ih g; exact ⟨k + 1, by omega, .other _ _ h2⟩
    | leave w g _ => cases hu; obtain ⟨k, h1, h2⟩ := ih g; exact ⟨k + 1, by omega, .leave _ h2⟩
    | put w g ig => obtain ⟨k, h1, h2⟩ := ig hu; exact ⟨k + 1, by omega, .put w h2⟩
  | @other n xs ys x y h ih =>
    generalize hu : y :: ys = us at g
    induction g with
    | nil => cases hu
    | keep w g _ => cases hu; obtain ⟨k, h1, h2⟩ := ih g; exact ⟨k + 1, by omega, .other _ _ h2⟩
    | other w y' g _ => cases hu; obtain ⟨k, h1, h2⟩ := ih g; exact ⟨k + 1, by omega, .other _ _ h2⟩
    | leave w g _ => cases hu; obtain ⟨k, h1, h2⟩ := ih g; exact ⟨k + 1, by omega, .leave _ h2⟩
    | put w g ig => obtain ⟨k, h1, h2⟩ := ig hu; exact ⟨k + 1, by omega, .put w h2⟩
theorem dist_zero (xs ys : Line) : distL xs ys = 0 ↔ xs = ys := by
  constructor
  · intro h; have := way_dist xs ys; rw [h] at this; exact this.zero
  · rintro rfl
    refine Nat.le_zero.1 (dist_le _ _ _ ?_)
    induction xs with
    | nil => exact .nil
    | cons x xs ih => exact .keep x ih
end Go.Ev
namespace Go.Ev
open Go.Proofs
set_option maxRecDepth 100000
set_option linter.unusedSimpArgs false
/-! ### the readings that are found -/
def foundL (k n : Int) : Nat → Line → Line → List Rd
  | i, x :: xs, y :: ys =>
    if x = y then foundL k n (i + 1) xs ys
    else if distL xs ys ≤ min (distL xs (y :: ys)) (distL (x :: xs) ys) then ⟨k, n, i, 3, y⟩ :: foundL k n (i + 1) xs ys
    else if distL xs (y :: ys) ≤ distL (x :: xs) ys then ⟨k, n, i, 1, emp⟩ :: foundL k n (i + 1) xs (y :: ys)
    else ⟨k, n, i, 2, y⟩ :: foundL k n i (x :: xs) ys
  | i, _ :: xs, [] => ⟨k, n, i, 1, emp⟩ :: foundL k n (i + 1) xs []
  | i, [], y :: ys => ⟨k, n, i, 2, y⟩ :: foundL k n i [] ys
  | _, [], [] => []
termination_by _ xs ys => xs.length + ys.length
theorem found_same (k n : Int) (i : Nat) (x : ByteArray) (xs ys : Line) : foundL k n i (x :: xs) (x :: ys) = foundL k n (i + 1) xs ys := by rw [foundL]; rw [if_pos rfl]
theorem found_other {k n : Int} {i : Nat} {x y : ByteArray} {xs ys : Line} (h : x ≠ y) (h1 : distL xs ys ≤ min (distL xs (y :: ys)) (distL (x :: xs) ys)) : foundL k n i (x :: xs) (y :: ys) = ⟨k, n, i, 3, y⟩ :: foundL k n (i + 1) xs ys := by rw [foundL]; rw [if_neg h, if_pos h1]
theorem found_leave {k n : Int} {i : Nat} {x y : ByteArray} {xs ys : Line} (h : x ≠ y) (h1 : ¬ distL xs ys ≤ min (distL xs (y :: ys)) (distL (x :: xs) ys)) (h2 : distL xs (y :: ys) ≤ distL (x :: xs) ys) : foundL k n i (x :: xs) (y :: ys) = ⟨k, n, i, 1, emp⟩ :: foundL k n (i + 1) xs (y :: ys) := by rw [foundL]; rw [if_neg h, if_neg h1, if_pos h2]
theorem found_put {k n : Int} {i : Nat} {x y : ByteArray} {xs ys : Line} (h : x ≠ y) (h1 : ¬ distL xs ys ≤ min (distL xs (y :: ys)) (distL (x :: xs) ys)) (h2 : ¬ distL xs (y :: ys) ≤ distL (x :: xs) ys) : foundL k n i (x :: xs) (y :: ys) = ⟨k, n, i, 2, y⟩ :: foundL k n i (x :: xs) ys := by rw [foundL]; rw [if_neg h, if_neg h1, if_neg h2]
theorem found_left (k n : Int) (i : Nat) (x : ByteArray) (xs : Line) : foundL k n i (x :: xs) [] = ⟨k, n, i, 1, emp⟩ :: foundL k n (i + 1) xs [] := by rw [foundL]
theorem found_right (k n : Int) (i : Nat) (y : ByteArray) (ys : Line) : foundL k n i [] (y :: ys) = ⟨k, n, i, 2, y⟩ :: foundL k n i [] ys := by rw [foundL]
theorem found_nil (k n : Int) (i : Nat) : foundL k n i [] [] = [] := by rw [foundL]
/-- by the ways that are taken -/
theorem found_ind {k n : Int} {P : Nat → Line → Line → List Rd → Prop} (h0 : ∀ i, P i [] [] [])
    (hs : ∀ i x xs ys, P (i + 1) xs ys (foundL k n (i + 1) xs ys) → P i (x :: xs) (x :: ys) (foundL k n (i + 1) xs ys))
    (h3 : ∀ i x xs y ys, x ≠ y → distL xs ys ≤ min (distL xs (y :: ys)) (distL (x :: xs) ys) → P (i + 1) xs ys (foundL k n (i + 1) xs ys) → P i (x :: xs) (y :: ys) (⟨k, n, i, 3, y⟩ :: foundL k n (i + 1) xs ys))
    (h1 : ∀ i x xs ys, (∀ y r, ys = y :: r → x ≠ y ∧ ¬ distL xs r ≤ min (distL xs (y :: r)) (distL (x :: xs) r) ∧ distL xs (y :: r) ≤ distL (x :: xs) r) → P (i + 1) xs ys (foundL k n (i + 1) xs ys) → P i (x :: xs) ys (⟨k, n, i, 1, emp⟩ :: foundL k n (i + 1) xs ys))
    (h2 : ∀ i xs y ys, (∀ x r, xs = x :: r → x ≠ y ∧ ¬ distL r ys ≤ min (distL r (y :: ys)) (distL (x :: r) ys) ∧ ¬ distL r (y :: ys) ≤ distL (x :: r) ys) → P i xs ys (foundL k n i xs ys) → P i xs (y :: ys) (⟨k, n, i, 2, y⟩ :: foundL k n i xs ys)) :
    ∀ (m i : Nat) (xs ys : Line), xs.length + ys.length ≤ m → P i xs ys (foundL k n i xs ys) := by
  intro m
  induction m with
  | zero =>
    intro i xs ys h
    obtain rfl : xs = [] := List.length_eq_zero_iff.1 (by omega)
    obtain rfl : ys = [] := List.length_eq_zero_iff.1 (by simpa using h)
    rw [found_nil]; exact h0 i
  | succ m ih =>
    intro i xs ys h
    match xs, ys, h with
    | [], [], _ => rw [found_nil]; exact h0 i
    | x :: xs, [], h =>
      rw [found_left]
      exact h1 i x xs [] (fun y r hh => by cases hh) (ih _ _ _ (by simp only [List.length_cons, List.length_nil] at h ⊢; omega))
    | [], y :: ys, h =>
      rw [found_right]
      exact h2 i [] y ys (fun x r hh => by cases hh) (ih _ _ _ (by simp only [List.length_cons, List.length_nil] at h ⊢; omega))
    | x :: xs, y :: ys, h =>
      simp only [List.length_cons] at h
      by_cases e : x = y
      · subst e; rw [found_same]; exact hs i x xs ys (ih _ _ _ (by omega))
      · by_cases e1 : distL xs ys ≤ min (distL xs (y :: ys)) (distL (x :: xs) ys)
        · rw [found_other e e1]; exact h3 i x xs y ys e e1 (ih _ _ _ (by omega))
        · by_cases e2 : distL xs (y :: ys) ≤ distL (x :: xs) ys
          · rw [found_leave e e1 e2]
            exact h1 i x xs (y :: ys) (fun y' r hh => by cases hh; exact ⟨e, e1, e2⟩) (ih _ _ _ (by simp only [List.length_cons]; omega))
          · rw [found_put e e1 e2]
            exact h2 i (x :: xs) y ys (fun x' r hh => by cases hh; exact ⟨e, e1, e2⟩) (ih _ _ _ (by simp only [List.length_cons]; omega))
theorem found_len (k n : Int) (i : Nat) (xs ys : Line) : (foundL k n i xs ys).length = distL xs ys := by
  refine found_ind (P := fun _ xs ys l => l.length = distL xs ys) (fun i => by rw [distL_nil]; rfl) (fun i x xs ys h => by rw [h, distL_same]) (fun i x xs y ys e e1 h => ?_) (fun i x xs ys hq h => ?_) (fun i xs y ys hq h => ?_) _ i xs ys (Nat.le_refl _)
  · rw [List.length_cons, h, distL_ne e, Nat.min_eq_left e1, Nat.add_comm]
  · rw [List.length_cons, h]
    cases ys with
    | nil => rw [distL_nilr, distL_nilr]; rfl
    | cons y r => obtain ⟨e, e1, e2⟩ := hq y r rfl; rw [distL_ne e, Nat.min_eq_right (by omega), Nat.min_eq_left e2, Nat.add_comm]
  · rw [List.length_cons, h]
    cases xs with
    | nil => rw [distL_nil, distL_nil]; rfl
    | cons x r => obtain ⟨e, e1, e2⟩ := hq x r rfl; rw [distL_ne e, Nat.min_eq_right (by omega), Nat.min_eq_right (by omega), Nat.add_comm]
/-- what is found makes the one line of the other one -/
theorem found_read (k n : Int) (a : Line) (i : Nat) (xs ys : Line) (hi : i ≤ a.length) (hx : xs = a.drop i) (p : Nat) (ds : List ByteArray) (hp : p ≤ i) :
    ((foundL k n i xs ys).foldl (rdOne a) (p, ds)).2 ++ a.drop ((foundL k n i xs ys).foldl (rdOne a) (p, ds)).1 = ds ++ (a.drop p).take (i - p) ++ ys := by
  have hgo : ∀ (i : Nat) (x : ByteArray) (xs : Line), x :: xs = a.drop i → i < a.length ∧ xs = a.drop (i + 1) ∧ a[i]? = some x := by
    intro i x xs h
    have hl : i < a.length := by
      have := congrArg List.length h
      simp only [List.length_cons, List.length_drop] at this; omega
    rw [List.drop_eq_getElem_cons hl] at h
    exact ⟨hl, (List.cons.inj h).2, by rw [List.getElem?_eq_getElem hl, (List.cons.inj h).1]⟩
  refine found_ind (k := k) (n := n) (P := fun i xs ys l => i ≤ a.length → xs = a.drop i → ∀ (p : Nat) (ds : List ByteArray), p ≤ i → (l.foldl (rdOne a) (p, ds)).2 ++ a.drop (l.foldl (rdOne a) (p, ds)).1 = ds ++ (a.drop p).take (i - p) ++ ys) (fun i hi hx p ds hp => ?_) (fun i x xs ys ih hi hx p ds hp => ?_) (fun i x xs y ys _ _ ih hi hx p ds hp => ?_) (fun i x xs ys _ ih hi hx p ds hp => ?_) (fun i xs y ys _ ih hi hx p ds hp => ?_) _ i xs ys (Nat.le_refl _) hi hx p ds hp
  · have hl : a.length = i := by
      have := congrArg List.length hx
      simp only [List.length_nil, List.length_drop] at this; omega
    show ds ++ a.drop p = _
    rw [List.append_nil, List.take_of_length_le (by rw [List.length_drop]; omega)]
  · obtain ⟨h1, h2, h3⟩ := hgo i x xs hx
    rw [ih h1 h2 p ds (by omega), show i + 1 - p = (i - p) + 1 by omega, List.take_add_one, List.getElem?_drop, show p + (i - p) = i by omega, h3]
    simp
  · obtain ⟨h1, h2, h3⟩ := hgo i x xs hx
    rw [List.foldl_cons]
    have hr : rdOne a (p, ds) ⟨k, n, i, 3, y⟩ = (i + 1, ds ++ (a.drop p).take (i - p) ++ [y]) := by unfold rdOne; simp
    rw [hr, ih h1 h2 (i + 1) _ (Nat.le_refl _), Nat.sub_self, List.take_zero, List.append_nil]; simp
  · obtain ⟨h1, h2, h3⟩ := hgo i x xs hx
    rw [List.foldl_cons]
    have hr : rdOne a (p, ds) ⟨k, n, i, 1, emp⟩ = (i + 1, ds ++ (a.drop p).take (i - p)) := by unfold rdOne; simp
    rw [hr, ih h1 h2 (i + 1) _ (Nat.le_refl _), Nat.sub_self, List.take_zero, List.append_nil]
  · rw [List.foldl_cons]
    have hr : rdOne a (p, ds) ⟨k, n, i, 2, y⟩ = (i, ds ++ (a.drop p).take (i - p) ++ [y]) := by unfold rdOne; simp
    rw [hr, ih hi hx i _ (Nat.le_refl _), Nat.sub_self, List.take_zero, List.append_nil]; simp
theorem found_line (k n : Int) (a c : Line) : readLineL a (foundL k n 0 a c) = c := by
  have := found_read k n a 0 a c (Nat.zero_le _) rfl 0 [] (Nat.le_refl _)
  unfold readLineL
  rw [this]; simp
/-- what each reading that is found is like -/
structure FndOk (k n : Int) (i : Nat) (xs ys : Line) (r : Rd) : Prop where
  ch : r.ch = k
  ln : r.ln = n
  lo : (i : Int) ≤ r.wd
  hi : r.wd + (if r.kind = 2 then 0 else 1) ≤ ((i + xs.length : Nat) : Int)
  kind : r.kind = 1 ∨ r.kind = 2 ∨ r.kind = 3
  none : r.kind = 1 → r.word = emp
  word : r.kind ≠ 1 → r.word ∈ ys
  other : r.kind = 3 → ∀ s, xs[r.wd.toNat - i]? = some s → r.word ≠ s
theorem FndOk.step {k n : Int} {i : Nat} {x : ByteArray} {xs ys : Line} {r : Rd} (h : FndOk k n (i + 1) xs ys r) (zs : Line) (hz : ∀ s ∈ ys, s ∈ zs) : FndOk k n i (x :: xs) zs r := by
  refine ⟨h.ch, h.ln, by have := h.lo; omega, by have := h.hi; simp only [List.length_cons]; omega, h.kind, h.none, fun hk => hz _ (h.word hk), fun hk s hs => ?_⟩
  have hlo := h.lo
  have : r.wd.toNat - i = (r.wd.toNat - (i + 1)) + 1 := by omega
  rw [this, List.getElem?_cons_succ] at hs
  exact h.other hk s hs
theorem found_ok (k n : Int) (i : Nat) (xs ys : Line) : ∀ r ∈ foundL k n i xs ys, FndOk k n i xs ys r := by
  refine found_ind (k := k) (n := n) (P := fun i xs ys l => ∀ r ∈ l, FndOk k n i xs ys r) (fun i r h => nomatch h) (fun i x xs ys ih r hr => (ih r hr).step _ fun s hs => List.mem_cons_of_mem _ hs) (fun i x xs y ys e _ ih r hr => ?_) (fun i x xs ys _ ih r hr => ?_) (fun i xs y ys _ ih r hr => ?_) _ i xs ys (Nat.le_refl _)
  · rcases List.mem_cons.1 hr with rfl | hr
    · refine ⟨rfl, rfl, Int.le_refl _, by simp only [List.length_cons]; rw [if_neg (by decide)]; omega, Or.inr (Or.inr rfl), (fun h => absurd (show (3 : Int) = 1 from h) (by decide)), fun _ => List.mem_cons_self .., fun _ s hs => ?_⟩
      simp at hs; subst hs; exact fun h => e h.symm
    · exact (ih r hr).step _ fun s hs => List.mem_cons_of_mem _ hs
  · rcases List.mem_cons.1 hr with rfl | hr
    · exact ⟨rfl, rfl, Int.le_refl _, by simp only [List.length_cons]; rw [if_neg (by decide)]; omega, Or.inl rfl, fun _ => rfl, fun h => absurd rfl h, (fun h => absurd (show (1 : Int) = 3 from h) (by decide))⟩
    · exact (ih r hr).step _ fun s hs => hs
  · rcases List.mem_cons.1 hr with rfl | hr
    · exact ⟨rfl, rfl, Int.le_refl _, by rw [if_pos rfl]; simp only; omega, Or.inr (Or.inl rfl), (fun h => absurd (show (2 : Int) = 1 from h) (by decide)), fun _ => List.mem_cons_self .., (fun h => absurd (show (2 : Int) = 3 from h) (by decide))⟩
    · have h := ih r hr
      exact ⟨h.ch, h.ln, h.lo, h.hi, h.kind, h.none, fun hk => List.mem_cons_of_mem _ (h.word hk), h.other⟩
theorem found_bhd (k n : Int) (i : Nat) (xs ys : Line) : (foundL k n i xs ys).Pairwise Bhd := by
  refine found_ind (k := k) (n := n) (P := fun i xs ys l => l.Pairwise Bhd) (fun i => List.Pairwise.nil) (fun i x xs ys ih => ih) (fun i x xs y ys e _ ih => ?_) (fun i x xs ys _ ih => ?_) (fun i xs y ys _ ih => ?_) _ i xs ys (Nat.le_refl _)
  · refine List.pairwise_cons.2 ⟨fun r hr => ?_, ih⟩
    have := (found_ok k n (i + 1) xs ys r hr).lo
    exact ⟨by show (i : Int) ≤ _; omega, fun _ => by show (i : Int) < _; omega⟩
  · refine List.pairwise_cons.2 ⟨fun r hr => ?_, ih⟩
    have := (found_ok k n (i + 1) xs ys r hr).lo
    exact ⟨by show (i : Int) ≤ _; omega, fun _ => by show (i : Int) < _; omega⟩
  · refine List.pairwise_cons.2 ⟨fun r hr => ?_, ih⟩
    have := (found_ok k n i xs ys r hr).lo
    exact ⟨this, fun h => absurd rfl h⟩
/-! ### of texts -/
def foundC (k : Nat) : Nat → List Line → List Line → List Rd
  | n, a :: bs, c :: cs => foundL k n 0 a c ++ foundC k (n + 1) bs cs
  | _, _, _ => []
def foundT : Nat → Txt → Txt → List Rd
  | k, a :: bs, c :: cs => foundC k 0 a.2 c.2 ++ foundT (k + 1) bs cs
  | _, _, _ => []
theorem foundC_mem (k : Nat) (r : Rd) : ∀ (bs cs : List Line) (n : Nat), r ∈ foundC k n bs cs → ∃ (j : Nat) (a c : Line), bs[j]? = some a ∧ cs[j]? = some c ∧ r ∈ foundL k ((n + j : Nat) : Int) 0 a c
  | [], _, _, h => by simp [foundC] at h
  | _ :: _, [], _, h => by simp [foundC] at h
  | a :: bs, c :: cs, n, h => by
    rw [foundC] at h
    rcases List.mem_append.1 h with h | h
    · exact ⟨0, a, c, rfl, rfl, h⟩
    · obtain ⟨j, a', c', h1, h2, h3⟩ := foundC_mem k r bs cs (n + 1) h
      exact ⟨j + 1, a', c', by simpa using h1, by simpa using h2, by rwa [show n + (j + 1) = n + 1 + j by omega]⟩
theorem foundT_mem (r : Rd) : ∀ (t u : Txt) (k : Nat), r ∈ foundT k t u → ∃ (i j : Nat) (p q : Chap) (a c : Line), t[i]? = some p ∧ u[i]? = some q ∧ p.2[j]? = some a ∧ q.2[j]? = some c ∧ r ∈ foundL ((k + i : Nat) : Int) (j : Int) 0 a c
  | [], _, _, h => by simp [foundT] at h
  | _ :: _, [], _, h => by simp [foundT] at h
  | p :: t, q :: u, k, h => by
    rw [foundT] at h
    rcases List.mem_append.1 h with h | h
    · obtain ⟨j, a, c, h1, h2, h3⟩ := foundC_mem k r p.2 q.2 0 h
      exact ⟨0, j, p, q, a, c, rfl, rfl, h1, h2, by rwa [Nat.zero_add] at h3⟩
    · obtain ⟨i, j, p', q', a, c, h1, h2, h3, h4, h5⟩ := foundT_mem r t u (k + 1) h
      exact ⟨i + 1, j, p', q', a, c, by simpa using h1, by simpa using h2, h3, h4, by rwa [show k + (i + 1) = k + 1 + i by omega]⟩
theorem foundC_ord (k : Nat) : ∀ (bs cs : List Line) (n : Nat), (foundC k n bs cs).Pairwise Ahd
  | [], _, _ => by rw [foundC]; exact List.Pairwise.nil; intros; simp at *
  | _ :: _, [], _ => by rw [foundC]; exact List.Pairwise.nil; intros; simp at *
  | a :: bs, c :: cs, n => by
    rw [foundC]
    refine List.pairwise_append.2 ⟨?_, foundC_ord k bs cs (n + 1), fun r hr q hq => ?_⟩
    · refine (found_bhd k n 0 a c).imp_of_mem fun {r q} hr hq h => ?_
      have h1 := found_ok k n 0 a c r hr
      have h2 := found_ok k n 0 a c q hq
      exact Or.inr ⟨h1.ch.trans h2.ch.symm, Or.inr ⟨h1.ln.trans h2.ln.symm, h.1, h.2⟩⟩
    · have h1 := found_ok k n 0 a c r hr
      obtain ⟨j, a', c', -, -, h3⟩ := foundC_mem k q bs cs (n + 1) hq
      have h2 := found_ok k _ 0 a' c' q h3
      exact Or.inr ⟨h1.ch.trans h2.ch.symm, Or.inl (by rw [h1.ln, h2.ln]; omega)⟩
theorem foundT_ord : ∀ (t u : Txt) (k : Nat), (foundT k t u).Pairwise Ahd
  | [], _, _ => by rw [foundT]; exact List.Pairwise.nil; intros; simp at *
  | _ :: _, [], _ => by rw [foundT]; exact List.Pairwise.nil; intros; simp at *
  | p :: t, q :: u, k => by
    rw [foundT]
    refine List.pairwise_append.2 ⟨foundC_ord k p.2 q.2 0, foundT_ord t u (k + 1), fun r hr s hs => ?_⟩
    obtain ⟨j, a, c, -, -, h3⟩ := foundC_mem k r p.2 q.2 0 hr
    obtain ⟨i, j', p', q', a', c', -, -, -, -, h5⟩ := foundT_mem s t u (k + 1) hs
    exact Or.inl (by rw [(found_ok k _ 0 a c r h3).ch, (found_ok _ _ 0 a' c' s h5).ch]; omega)
theorem ofLn_append (l m : List Rd) (k n : Int) : ofLn (l ++ m) k n = ofLn l k n ++ ofLn m k n := List.filter_append ..
theorem ofLn_none {l : List Rd} {k n : Int} (h : ∀ r ∈ l, ¬ (r.ch = k ∧ r.ln = n)) : ofLn l k n = [] := List.filter_eq_nil_iff.2 fun r hr ha => h r hr (atLine_iff.1 ha)
theorem ofLn_all {l : List Rd} {k n : Int} (h : ∀ r ∈ l, r.ch = k ∧ r.ln = n) : ofLn l k n = l := List.filter_eq_self.2 fun r hr => atLine_iff.2 (h r hr)
theorem foundC_of (k : Nat) : ∀ (bs cs : List Line) (n j : Nat) (a c : Line), bs[j]? = some a → cs[j]? = some c → ofLn (foundC k n bs cs) k ((n + j : Nat) : Int) = foundL k ((n + j : Nat) : Int) 0 a c
  | [], _, _, _, _, _, h, _ => by simp at h
  | _ :: _, [], _, _, _, _, _, h => by simp at h
  | x :: bs, y :: cs, n, j, a, c, h1, h2 => by
    rw [foundC, ofLn_append]
    cases j with
    | zero =>
      simp at h1 h2
      subst h1 h2
      rw [Nat.add_zero, ofLn_all (fun r hr => ⟨(found_ok k n 0 x y r hr).ch, (found_ok k n 0 x y r hr).ln⟩), ofLn_none (fun r hr => ?_), List.append_nil]
      obtain ⟨j, a', c', -, -, h3⟩ := foundC_mem k r bs cs (n + 1) hr
      rw [(found_ok k _ 0 a' c' r h3).ln]
      omega
    | succ j =>
      rw [ofLn_none (fun r hr => ?_), List.nil_append, show n + (j + 1) = n + 1 + j by omega]
      · exact foundC_of k bs cs (n + 1) j a c (by simpa using h1) (by simpa using h2)
      · rw [(found_ok k n 0 x y r hr).ln]; omega
theorem foundT_of : ∀ (t u : Txt) (k i j : Nat) (p q : Chap) (a c : Line), t[i]? = some p → u[i]? = some q → p.2[j]? = some a → q.2[j]? = some c → ofLn (foundT k t u) ((k + i : Nat) : Int) (j : Int) = foundL ((k + i : Nat) : Int) (j : Int) 0 a c
  | [], _, _, _, _, _, _, _, _, h, _, _, _ => by simp at h
  | _ :: _, [], _, _, _, _, _, _, _, _, h, _, _ => by simp at h
  | x :: t, y :: u, k, i, j, p, q, a, c, h1, h2, h3, h4 => by
    rw [foundT, ofLn_append]
    cases i with
    | zero =>
      simp at h1 h2
      subst h1 h2
      rw [Nat.add_zero, ofLn_none (l := foundT (k + 1) t u) (fun r hr => ?_), List.append_nil]
      · have := foundC_of k x.2 y.2 0 j a c h3 h4
        rwa [Nat.zero_add] at this
      · obtain ⟨i, j', p', q', a', c', -, -, -, -, h5⟩ := foundT_mem r t u (k + 1) hr
        rw [(found_ok _ _ 0 a' c' r h5).ch]; omega
    | succ i =>
      rw [ofLn_none (l := foundC k 0 x.2 y.2) (fun r hr => ?_), List.nil_append, show k + (i + 1) = k + 1 + i by omega]
      · exact foundT_of t u (k + 1) i j p q a c (by simpa using h1) (by simpa using h2) h3 h4
      · obtain ⟨j', a', c', -, -, h5⟩ := foundC_mem k r x.2 y.2 0 hr
        rw [(found_ok _ _ 0 a' c' r h5).ch]; omega
/-- how far texts are apart -/
def apartC : List Line → List Line → Nat
  | a :: bs, c :: cs => distL a c + apartC bs cs
  | _, _ => 0
def apartT : Txt → Txt → Nat
  | p :: t, q :: u => apartC p.2 q.2 + apartT t u
  | _, _ => 0
theorem foundC_len (k : Nat) : ∀ (bs cs : List Line) (n : Nat), (foundC k n bs cs).length = apartC bs cs
  | [], _, _ => by rw [foundC, apartC]; rfl; all_goals (intros; simp at *)
  | _ :: _, [], _ => by rw [foundC, apartC]; rfl; all_goals (intros; simp at *)
  | a :: bs, c :: cs, n => by rw [foundC, apartC, List.length_append, found_len, foundC_len k bs cs (n + 1)]
theorem foundT_len : ∀ (t u : Txt) (k : Nat), (foundT k t u).length = apartT t u
  | [], _, _ => by rw [foundT, apartT]; rfl; all_goals (intros; simp at *)
  | _ :: _, [], _ => by rw [foundT, apartT]; rfl; all_goals (intros; simp at *)
  | p :: t, q :: u, k => by rw [foundT, apartT, List.length_append, foundC_len, foundT_len t u (k + 1)]
end Go.Ev
namespace Go.Ev
open Go.Proofs
set_option maxRecDepth 100000
set_option linter.unusedSimpArgs false
/-! ### what the table holds -/
theorem atT_set {tb : List Int} (h : tb.length = 144) {i j p q : Nat} (hi : i < 12) (hj : j < 12) (hp : p < 12) (hq : q < 12) (v : Int) : atT (tb.set (i * 12 + j) v) p q = if p = i ∧ q = j then v else atT tb p q := by
  unfold atT
  rw [List.getElem?_set]
  by_cases e : p = i ∧ q = j
  · obtain ⟨rfl, rfl⟩ := e
    rw [if_pos rfl, if_pos (by omega), if_pos ⟨rfl, rfl⟩]; rfl
  · rw [if_neg (by omega), if_neg e]
theorem dist_sum (xs ys : Line) : distL xs ys ≤ xs.length + ys.length := by
  induction xs, ys using distL.induct with
  | case1 ys => rw [distL_nil]; omega
  | case2 xs h => rw [distL_nilr]; omega
  | case3 xs y ys ih => rw [distL_same]; simp only [List.length_cons]; omega
  | case4 x xs y ys h i1 i2 i3 => rw [distL_ne h]; simp only [List.length_cons] at *; omega
/-- rows above i are done, and of row i the columns from r on -/
structure TabOK (a c : Line) (tb : List Int) (i : Int) (r : Nat) : Prop where
  len : tb.length = 144
  at' : ∀ p q : Nat, p < 12 → q < 12 → atT tb p q = if p ≤ a.length ∧ q ≤ c.length ∧ (i < (p : Int) ∨ ((p : Int) = i ∧ r ≤ q) ∨ (p = a.length ∧ q = c.length)) then (distL (a.drop p) (c.drop q) : Int) else 21
theorem TabOK.small {a c : Line} {tb : List Int} {i : Int} {r : Nat} (h : TabOK a c tb i r) (ha : a.length ≤ 10) (hc : c.length ≤ 10) : ∀ v ∈ tb, 0 ≤ v ∧ v < 2 ^ 32 := by
  intro v hv
  obtain ⟨k, hk⟩ := List.getElem?_of_mem hv
  have hl := (List.getElem?_eq_some_iff.1 hk).1
  rw [h.len] at hl
  have h1 := h.at' (k / 12) (k % 12) (by omega) (by omega)
  have h2 : atT tb (k / 12) (k % 12) = v := by
    unfold atT; rw [show k / 12 * 12 + k % 12 = k by omega, hk]; rfl
  rw [h2] at h1
  have := dist_sum (a.drop (k / 12)) (c.drop (k % 12))
  simp only [List.length_drop] at this
  split at h1 <;> omega
theorem TabOK.next {a c : Line} {tb : List Int} {i : Int} (h : TabOK a c tb (i + 1) 0) : TabOK a c tb i (c.length + 1) := by
  refine ⟨h.len, fun p q hp hq => ?_⟩
  rw [h.at' p q hp hq]
  by_cases e : p ≤ a.length ∧ q ≤ c.length ∧ (i + 1 < (p : Int) ∨ ((p : Int) = i + 1 ∧ 0 ≤ q) ∨ (p = a.length ∧ q = c.length))
  · rw [if_pos e, if_pos (by omega)]
  · rw [if_neg e, if_neg (by omega)]
theorem drop_at {l : Line} {i : Nat} (h : i < l.length) : ∃ x, l[i]? = some x ∧ l.drop i = x :: l.drop (i + 1) := ⟨l[i], List.getElem?_eq_getElem h, List.drop_eq_getElem_cons h⟩
theorem TabOK.fill {a c : Line} {tb : List Int} {i r : Nat} (h : TabOK a c tb i (r + 1)) (ha : a.length ≤ 10) (hc : c.length ≤ 10) (hi : i ≤ a.length) (hr : r ≤ c.length) : TabOK a c (fillT a c tb i r) i r := by
  have key : (i = a.length ∧ r = c.length) ∨ newT a c tb i r = (distL (a.drop i) (c.drop r) : Int) := by
    by_cases hil : i < a.length
    · obtain ⟨x, hx1, hx2⟩ := drop_at hil
      by_cases hrl : r < c.length
      · obtain ⟨y, hy1, hy2⟩ := drop_at hrl
        have e1 := h.at' (i + 1) (r + 1) (by omega) (by omega)
        have e2 := h.at' (i + 1) r (by omega) (by omega)
        have e3 := h.at' i (r + 1) (by omega) (by omega)
        rw [if_pos (by omega)] at e1 e2 e3
        right
        unfold newT
        rw [sameB_some hx1 hy1]
        by_cases e : x = y
        · subst e; rw [hx2, hy2, distL_same]; simp only [decide_true, if_true]; exact e1
        · rw [decide_eq_false e, e1, e2, e3]
          simp only [Bool.false_eq_true, if_false]
          conv => rhs; rw [hx2, hy2, distL_ne e]
          rw [hy2, hx2]; omega
      · obtain rfl : r = c.length := by omega
        have e1 := h.at' (i + 1) (c.length + 1) (by omega) (by omega)
        have e2 := h.at' (i + 1) c.length (by omega) (by omega)
        have e3 := h.at' i (c.length + 1) (by omega) (by omega)
        rw [if_neg (by omega)] at e1 e3
        rw [if_pos (by omega)] at e2
        right
        unfold newT
        rw [sameB_right (Nat.lt_irrefl _), e1, e2, e3]
        simp only [Bool.false_eq_true, if_false]
        rw [List.drop_length, distL_nilr, distL_nilr, List.length_drop, List.length_drop]; omega
    · obtain rfl : i = a.length := by omega
      by_cases hrl : r < c.length
      · have e1 := h.at' (a.length + 1) (r + 1) (by omega) (by omega)
        have e2 := h.at' (a.length + 1) r (by omega) (by omega)
        have e3 := h.at' a.length (r + 1) (by omega) (by omega)
        rw [if_neg (by omega)] at e1 e2
        rw [if_pos (by omega)] at e3
        right
        unfold newT
        rw [sameB_left (Nat.lt_irrefl _), e1, e2, e3]
        simp only [Bool.false_eq_true, if_false]
        rw [List.drop_length, distL_nil, distL_nil, List.length_drop, List.length_drop]; omega
      · exact Or.inl ⟨rfl, by omega⟩
  unfold fillT
  by_cases hend : i = a.length ∧ r = c.length
  · rw [if_pos hend]
    refine ⟨h.len, fun p q hp hq => ?_⟩
    rw [h.at' p q hp hq]
    by_cases e : p ≤ a.length ∧ q ≤ c.length ∧ ((i : Int) < (p : Int) ∨ ((p : Int) = i ∧ r + 1 ≤ q) ∨ (p = a.length ∧ q = c.length))
    · rw [if_pos e, if_pos (by omega)]
    · rw [if_neg e, if_neg (by omega)]
  · rw [if_neg hend]
    have hn := key.resolve_left hend
    refine ⟨by rw [List.length_set]; exact h.len, fun p q hp hq => ?_⟩
    rw [atT_set h.len (by omega) (by omega) hp hq, hn]
    by_cases e : p = i ∧ q = r
    · obtain ⟨rfl, rfl⟩ := e
      rw [if_pos ⟨rfl, rfl⟩, if_pos (by omega)]
    · rw [if_neg e, h.at' p q hp hq]
      by_cases e2 : p ≤ a.length ∧ q ≤ c.length ∧ ((i : Int) < (p : Int) ∨ ((p : Int) = i ∧ r + 1 ≤ q) ∨ (p = a.length ∧ q = c.length))
      · rw [if_pos e2, if_pos (by omega)]
      · rw [if_neg e2, if_neg (by omega)]
/-- the table as it is laid first -/
def tab0N (n : Nat) : List Int := List.replicate n 21 ++ List.replicate (144 - n) 0
theorem tab0_len {n : Nat} (h : n ≤ 144) : (tab0N n).length = 144 := by unfold tab0N; simp; omega
theorem tab0_set {n : Nat} (h : n < 144) : (tab0N n).set n 21 = tab0N (n + 1) := by
  unfold tab0N
  rw [List.set_append, if_neg (by simp), List.length_replicate, Nat.sub_self, show 144 - n = (144 - (n + 1)) + 1 by omega, List.replicate_succ, List.set_cons_zero, List.replicate_succ']
  simp
theorem tab0_end : tab0N 144 = List.replicate 144 21 := by unfold tab0N; simp
theorem TabOK.start (a c : Line) (ha : a.length ≤ 10) (hc : c.length ≤ 10) : TabOK a c ((List.replicate 144 (21 : Int)).set (a.length * 12 + c.length) 0) a.length (c.length + 1) := by
  refine ⟨by rw [List.length_set, List.length_replicate], fun p q hp hq => ?_⟩
  rw [atT_set (List.length_replicate ..) (by omega) (by omega) hp hq]
  by_cases e : p = a.length ∧ q = c.length
  · obtain ⟨rfl, rfl⟩ := e
    rw [if_pos ⟨rfl, rfl⟩, if_pos (by omega), List.drop_length, List.drop_length, distL_nil]; rfl
  · rw [if_neg e, if_neg (by omega)]
    unfold atT
    rw [List.getElem?_replicate, if_pos (by omega)]; rfl
/-- the whole table -/
def fullT (a c : Line) (p q : Nat) : Int := if p ≤ a.length ∧ q ≤ c.length then (distL (a.drop p) (c.drop q) : Int) else 21
theorem TabOK.full {a c : Line} {tb : List Int} (h : TabOK a c tb (-1) 0) {p q : Nat} (hp : p < 12) (hq : q < 12) : atT tb p q = fullT a c p q := by
  rw [h.at' p q hp hq]
  unfold fullT
  by_cases e : p ≤ a.length ∧ q ≤ c.length
  · rw [if_pos e, if_pos (by omega)]
  · rw [if_neg e, if_neg (by omega)]
end Go.Ev
namespace Go.Ev
open Go.Proofs
set_option maxRecDepth 100000
set_option linter.unusedSimpArgs false
attribute [local irreducible] Wp WpS
theorem freezeL_cl (H : Heap) : ∀ (l : List AV) (n : Nat), l.length < n → (∀ x ∈ l, (∃ y, x = .v y) ∨ ∃ s ys c, x = .vs s ys c) → freezeL H n l = some l
  | [], n, h, _ => by
    obtain ⟨n, rfl⟩ : ∃ k, n = k + 1 := ⟨n - 1, by omega⟩
    unfold freezeL; rfl
  | x :: r, n, h, hx => by
    obtain ⟨n, rfl⟩ : ∃ k, n = k + 1 := ⟨n - 1, by simp only [List.length_cons] at h; omega⟩
    simp only [List.length_cons] at h
    have ih := freezeL_cl H r n (by omega) fun y hy => hx y (List.mem_cons_of_mem _ hy)
    obtain ⟨n, rfl⟩ : ∃ k, n = k + 1 := ⟨n - 1, by omega⟩
    unfold freezeL
    have h1 : freezeV H (n + 1) x = some x := by
      rcases hx x (List.mem_cons_self ..) with ⟨y, rfl⟩ | ⟨s, ys, c, rfl⟩ <;> rfl
    rw [h1, ih]
theorem SlOf.closed {sz : Nat} {xs : List AV} {x : AV} (h : SlOf sz xs x) : (∃ y, x = .v y) ∨ ∃ s ys c, x = .vs s ys c := by
  rcases h with ⟨rfl, -⟩ | ⟨cap, rfl⟩
  · exact Or.inl ⟨_, rfl⟩
  · exact Or.inr ⟨_, _, _, rfl⟩
theorem freeze_prC {a c : Line} {lx ly : AV} (hl : SlOf 1 (strs a) lx) (hl2 : SlOf 1 (strs c) ly) {tb : List Int} (h : tb.length = 144) (H : Heap) : freezeV H 1000000 (.agg (prC lx ly tb)) = some (.agg (prC lx ly tb)) := by
  show (freezeL H 999999 (prC lx ly tb)).map AV.agg = _
  rw [freezeL_cl H (prC lx ly tb) 999999 (by rw [prC_len]; omega) fun x hx => ?_]
  · rfl
  · unfold prC at hx
    rcases List.mem_cons.1 hx with rfl | hx
    · exact hl.closed
    · rcases List.mem_cons.1 hx with rfl | hx
      · exact hl2.closed
      · obtain ⟨z, -, rfl⟩ := List.mem_map.1 hx
        exact Or.inl ⟨_, rfl⟩
def zT : List Int := List.replicate 144 0
theorem zero104 : zeroT Tryz.prog 104 = some (.agg (prC (.v (.slice none 0 0)) (.v (.slice none 0 0)) zT)) := zero_104
theorem spl_0 {xs cs : List AV} (h : xs.length = cs.length) : splice 0 xs cs = xs := by
  unfold splice; rw [List.take_zero, List.nil_append, Nat.zero_add, h, List.drop_length, List.append_nil]
theorem build104 {x y : AV} (hx : x.cells = [x]) (hy : y.cells = [y]) : buildA Tryz.prog 104 [(0, x), (1, y)] = some (.agg (prC x y zT)) := by
  rw [build_104]
  simp only [fillA_cons, List.getElem?_cons_zero, List.getElem?_cons_succ, fill1_some, hx, hy, List.length_cons, List.length_nil]
  rfl
theorem prC_part (lx ly : AV) {tb : List Int} (h : tb.length = 144) : ((prC lx ly tb).drop 0).take 146 = prC lx ly tb := by
  rw [List.drop_zero, List.take_of_length_le (by rw [prC_len]; omega)]
structure MP (H : Heap) (lx ly : AV) (a c : Line) (tb : List Int) : Prop where
  lock : H.lock = 0
  size : H.size = 2
  zero : H.get 0 = some (.cells 0 0 104 1 false (prC (.v (.slice none 0 0)) (.v (.slice none 0 0)) zT))
  pr : PrH H 1 lx ly a c tb
def startT (a c : Line) : List Int := (List.replicate 144 (21 : Int)).set (a.length * 12 + c.length) 0
theorem prC_bound {a c : Line} {lx ly : AV} (hl : SlOf 1 (strs a) lx) (hl2 : SlOf 1 (strs c) ly) (tb : List Int) : boundL (prC lx ly tb) = 0 := by
  unfold prC
  rw [boundL_cons, boundL_cons, hl.bound, hl2.bound]
  have : boundL (tb.map intA) = 0 := by
    induction tb with
    | nil => rfl
    | cons x r ih => rw [List.map_cons, boundL_cons, ih]; rfl
  rw [this]; rfl
set_option maxHeartbeats 4000000 in
theorem ans73 {e : Exts} (he : Quiet e) (a c : Line) (lx ly : AV) (hl : SlOf 1 (strs a) lx) (hl2 : SlOf 1 (strs c) ly) (ha : a.length ≤ 10) (hc : c.length ≤ 10) : ∃ tb, TabOK a c tb (-1) 0 ∧ Ans (Cx e) 73 [lx, ly] (.agg (prC lx ly tb)) := by
  have key : ∃ v, (∃ tb, TabOK a c tb (-1) 0 ∧ v = .agg (prC lx ly tb)) ∧ Ans (Cx e) 73 [lx, ly] v := by
    refine ans_of_P ?_
    have hz : zT.length = 144 := List.length_replicate ..
    have f0 := prC_cells (.v (.slice none 0 0)) (.v (.slice none 0 0)) zT rfl rfl
    have f1 := prC_cells lx ly zT hl.flat hl2.flat
    have n1 : (prC lx ly zT).length = 146 := by rw [prC_len, hz]
    have n0 : (prC (.v (.slice none 0 0)) (.v (.slice none 0 0)) zT).length = 146 := by rw [prC_len, hz]
    have b1 := prC_bound hl hl2 zT
    have d0 : (prC (.v (.slice none 0 0)) (.v (.slice none 0 0)) zT).drop 146 = [] := List.drop_of_length_le (by omega)
    rw [fn_step (fn_73 e) (show Tryz.f73.body = some _ from rfl)]
    simp -implicitDefEqProofs only [Tryz.f73, go_sem, ↓reduceIte, Int.reduceEq, Int.reduceLT, Int.reduceLE, List.reduceReplicate, intA, setT_nil, setT_cons, ↓boolP_bool, ↓iteB_true, ↓iteB_false, zero104, build104 hl.cells hl2.cells, f0, f1, n0, n1, b1, d0]
    refine Lp_rule (P := fun μ a' H => ∃ p : Nat, p + μ = 12 ∧ a' = ⟨49, [(0, lx), (1, ly), (4, .ptr 0 0 0), (5, .ptr 1 0 0), (13, intA p)], []⟩ ∧ H = ⟨[some (.cells 0 0 104 1 false (prC (.v (.slice none 0 0)) (.v (.slice none 0 0)) zT)), some (.cells 0 0 104 1 false (prC lx ly (tab0N (p * 12))))], 0⟩) ?_ 12 _ _ ⟨0, by omega, rfl, rfl⟩
    rintro μ _ _ ⟨p, hp, rfl, rfl⟩
    by_cases hlt : (p : Int) < 12
    · have hw := wrap_succ p (by omega)
      simp -implicitDefEqProofs only [go_sem, ↓reduceIte, Int.reduceEq, Int.reduceLT, Int.reduceLE, List.reduceReplicate, intA, setT_nil, setT_cons, ↓boolP_bool, ↓iteB_true, ↓iteB_false, hlt]
      refine Lp_rule (P := fun μ a' H => ∃ q : Nat, q + μ = 12 ∧ a' = ⟨49, [(0, lx), (1, ly), (4, .ptr 0 0 0), (5, .ptr 1 0 0), (13, intA p), (14, .v (.bool true)), (6, intA p), (16, intA q)], []⟩ ∧ H = ⟨[some (.cells 0 0 104 1 false (prC (.v (.slice none 0 0)) (.v (.slice none 0 0)) zT)), some (.cells 0 0 104 1 false (prC lx ly (tab0N (p * 12 + q))))], 0⟩) ?_ 12 _ _ ⟨0, by omega, rfl, rfl⟩
      rintro μ2 _ _ ⟨q, hq, rfl, rfl⟩
      by_cases hltq : (q : Int) < 12
      · have hwq := wrap_succ q (by omega)
        have rI := fun v k => arP 1 v k 12 12 p (by omega)
        have rJ := fun v k => arP 1 v k 12 1 q (by omega)
        have hle : 2 + p * 12 + q + 1 ≤ (prC lx ly (tab0N (p * 12 + q))).length := by rw [prC_len, tab0_len (by omega)]; omega
        have hsp : (prC lx ly (tab0N (p * 12 + q))).take (2 + p * 12 + q) ++ [AV.v (.int .i64 21)] ++ (prC lx ly (tab0N (p * 12 + q))).drop (2 + p * 12 + q + 1) = prC lx ly (tab0N (p * 12 + q + 1)) := by
          show splice (2 + p * 12 + q) [AV.v (.int .i64 21)] (prC lx ly (tab0N (p * 12 + q))) = _
          rw [Nat.add_assoc, prC_set lx ly (by rw [tab0_len (by omega)]; omega), tab0_set (by omega)]
        simp -implicitDefEqProofs only [go_sem, ↓reduceIte, Int.reduceEq, Int.reduceLT, Int.reduceLE, List.reduceReplicate, intA, setT_nil, setT_cons, ↓boolP_bool, ↓iteB_true, ↓iteB_false, hltq, rI, rJ, Nat.mul_one, Nat.zero_add, hle, hsp, hwq, trim_at]
        exact ⟨μ2 - 1, by omega, q + 1, by omega, rfl, rfl⟩
      · simp -implicitDefEqProofs only [go_sem, ↓reduceIte, Int.reduceEq, Int.reduceLT, Int.reduceLE, List.reduceReplicate, intA, setT_nil, setT_cons, ↓boolP_bool, ↓iteB_true, ↓iteB_false, hltq, hw, trim_at]
        obtain rfl : q = 12 := by omega
        exact ⟨μ - 1, by omega, p + 1, by omega, rfl, by rw [show p * 12 + 12 = (p + 1) * 12 by omega]⟩
    · obtain rfl : p = 12 := by omega
      have rI := fun v k => arP 1 v k 12 12 a.length (by omega)
      have rJ := fun v k => arP 1 v k 12 1 c.length (by omega)
      have hle : 2 + a.length * 12 + c.length + 1 ≤ (prC lx ly (tab0N 144)).length := by rw [prC_len, tab0_len (by omega)]; omega
      have hsp : (prC lx ly (tab0N 144)).take (2 + a.length * 12 + c.length) ++ [AV.v (.int .i64 0)] ++ (prC lx ly (tab0N 144)).drop (2 + a.length * 12 + c.length + 1) = prC lx ly (startT a c) := by
        show splice (2 + a.length * 12 + c.length) [AV.v (.int .i64 0)] (prC lx ly (tab0N 144)) = _
        rw [Nat.add_assoc, prC_set lx ly (by rw [tab0_len (by omega)]; omega), tab0_end]; rfl
      have hst : TabOK a c (startT a c) a.length (c.length + 1) := TabOK.start a c ha hc
      simp -implicitDefEqProofs only [go_sem, ↓reduceIte, Int.reduceEq, Int.reduceLT, Int.reduceLE, List.reduceReplicate, intA, setT_nil, setT_cons, ↓boolP_bool, ↓iteB_true, ↓iteB_false, hlt, hl.len, hl2.len, strs_len, trim_at, rI, rJ, Nat.mul_one, Nat.zero_add, hle, hsp]
      generalize startT a c = tb0 at hst
      refine Lp_rule (P := fun μ a' H => ∃ (R : Nat) (tb : List Int), R = μ ∧ R ≤ a.length + 1 ∧ a' = ⟨49, [(0, lx), (1, ly), (4, .ptr 0 0 0), (5, .ptr 1 0 0), (13, intA 12), (8, intA ((R : Int) - 1))], []⟩ ∧ MP H lx ly a c tb ∧ TabOK a c tb ((R : Int) - 1) (c.length + 1)) ?_ (a.length + 1) _ _ ⟨a.length + 1, tb0, rfl, Nat.le_refl _, by rw [show ((a.length + 1 : Nat) : Int) - 1 = a.length by omega]; rfl, ⟨rfl, rfl, rfl, ⟨Nat.lt_succ_self 1, ⟨0, false, rfl⟩, hl, hl2, hst.len⟩⟩, by rw [show ((a.length + 1 : Nat) : Int) - 1 = a.length by omega]; exact hst⟩
      rintro μ _ H ⟨R, tb, rfl, hR, rfl, hM, hT⟩
      obtain ⟨m, g, hrow⟩ := hM.pr.row
      cases R with
      | zero =>
        have hneg : ¬ (0 : Int) ≤ ((0 : Nat) : Int) - 1 := by omega
        have hT0 : TabOK a c tb (-1) 0 := by
          have h1 : TabOK a c tb (-1) (c.length + 1) := hT
          refine ⟨h1.len, fun p q hp hq => ?_⟩
          rw [h1.at' p q hp hq]
          by_cases e : p ≤ a.length ∧ q ≤ c.length ∧ ((-1 : Int) < (p : Int) ∨ ((p : Int) = -1 ∧ c.length + 1 ≤ q) ∨ (p = a.length ∧ q = c.length))
          · rw [if_pos e, if_pos (by omega)]
          · rw [if_neg e, if_neg (by omega)]
        have hsz := hM.size
        have hl0 := hM.lock
        have hlen := hM.pr.len
        have hL : (prC lx ly tb).length = 146 := by rw [prC_len, hlen]
        have hpart : ∀ m g, rowPart Tryz.prog 104 0 (some (m, 104, 1, g, prC lx ly tb)) = some (.agg (prC lx ly tb)) := fun m g => by
          show partOf Tryz.prog 104 (prC lx ly tb) 0 = _
          rw [part_104, if_pos (by omega), prC_part lx ly hlen]
        have hsc : storeCells H 0 0 0 (prC lx ly tb) = some (H.put 0 (.cells 0 (Nat.max 0 0) 104 1 false (prC lx ly tb))) := by
          unfold storeCells
          rw [get_row hM.zero]
          simp only
          rw [if_pos ⟨by omega, by omega, prC_cells lx ly tb hl.flat hl2.flat⟩, spl_0 (by omega), prC_bound hl hl2]
        have hps : (H.put 0 (.cells 0 (Nat.max 0 0) 104 1 false (prC lx ly tb))).size = H.size := put_sizeI _ (by omega)
        have hset : settleH H.size (H.put 0 (.cells 0 (Nat.max 0 0) 104 1 false (prC lx ly tb))) = H.put 0 (.cells 0 (Nat.max 0 0) 104 1 false (prC lx ly tb)) := by rw [← hps, settle_same]
        have hrow0 : (H.put 0 (.cells 0 (Nat.max 0 0) 104 1 false (prC lx ly tb))).row 0 0 = some (Nat.max 0 0, 104, 1, false, prC lx ly tb) := row_put_same (by omega)
        simp -implicitDefEqProofs only [go_sem, ↓reduceIte, Int.reduceEq, Int.reduceLT, Int.reduceLE, List.reduceReplicate, intA, setT_nil, setT_cons, ↓boolP_bool, ↓iteB_true, ↓iteB_false, hneg]
        rw [hrow, hpart]
        simp only [bindO_some, cells_agg, hL, if_true, hsc, hset, hrow0, hpart, consO_some, oneOf_one]
        exact ⟨_, ⟨tb, hT0, rfl⟩, freeze_prC hl hl2 hlen _⟩
      | succ i =>
        have hpos : (0 : Int) ≤ ((i + 1 : Nat) : Int) - 1 := by omega
        have hii : ((i + 1 : Nat) : Int) - 1 = (i : Int) := by omega
        rw [hii] at hT hpos ⊢
        simp -implicitDefEqProofs only [go_sem, ↓reduceIte, Int.reduceEq, Int.reduceLT, Int.reduceLE, List.reduceReplicate, intA, setT_nil, setT_cons, ↓boolP_bool, ↓iteB_true, ↓iteB_false, hpos, hl2.len, strs_len]
        refine Lp_rule (P := fun μ a' H => ∃ (r : Nat) (tb : List Int), r = μ ∧ r ≤ c.length + 1 ∧ a' = ⟨49, [(0, lx), (1, ly), (4, .ptr 0 0 0), (5, .ptr 1 0 0), (13, .v (.int .i64 12)), (8, intA i), (36, .v (.bool true)), (9, intA ((r : Int) - 1))], []⟩ ∧ MP H lx ly a c tb ∧ TabOK a c tb i r) ?_ (c.length + 1) _ _ ⟨c.length + 1, tb, rfl, Nat.le_refl _, by rw [show ((c.length + 1 : Nat) : Int) - 1 = c.length by omega]; rfl, hM, hT⟩
        rintro μ2 _ G ⟨r, tb2, rfl, hr, rfl, hM2, hT2⟩
        have hG := hM2.size
        have hwi : IntKind.i64.wrap ((i : Int) - 1) = (i : Int) - 1 := wrap_in _ (by omega) (by omega)
        cases r with
        | zero =>
          have hneg : ¬ (0 : Int) ≤ ((0 : Nat) : Int) - 1 := by omega
          simp -implicitDefEqProofs only [go_sem, ↓reduceIte, Int.reduceEq, Int.reduceLT, Int.reduceLE, List.reduceReplicate, intA, setT_nil, setT_cons, ↓boolP_bool, ↓iteB_true, ↓iteB_false, hneg, hwi]
          rw [trim_whole (by rw [hM.size, hG]; exact Nat.le_refl _)]
          refine ⟨i, Nat.lt_succ_self i, i, tb2, rfl, by omega, rfl, hM2, TabOK.next ?_⟩
          rw [show (i : Int) - 1 + 1 = i by omega]; exact hT2
        | succ q =>
          have hpq : (0 : Int) ≤ ((q + 1 : Nat) : Int) - 1 := by omega
          have hqq : ((q + 1 : Nat) : Int) - 1 = (q : Int) := by omega
          have hwq : IntKind.i64.wrap ((q : Int) - 1) = (q : Int) - 1 := wrap_in _ (by omega) (by omega)
          rw [hqq] at hpq ⊢
          obtain ⟨Y, h92, hY1, hY2, hY3, hY4⟩ : ∃ Y, (∀ (me : FuncId) (d : Option Tmp), callA (Cx e) (lim (Cx e)) me 92 d [.ptr 1 0 0, .v (.int .i64 i), .v (.int .i64 q)] G = some (.tup [], Y)) ∧ PrH Y 1 lx ly a c (fillT a c tb2 i q) ∧ Y.size = G.size ∧ Y.lock = G.lock ∧ ∀ b', b' ≠ 1 → Y.get b' = G.get b' :=
            call92 he hM2.pr (by rw [hM2.lock]; omega) i q (by omega) (by omega) ha hc (hT2.small ha hc)
          simp -implicitDefEqProofs only [go_sem, ↓reduceIte, Int.reduceEq, Int.reduceLT, Int.reduceLE, List.reduceReplicate, intA, setT_nil, setT_cons, ↓boolP_bool, ↓iteB_true, ↓iteB_false, hpq, h92, hwq]
          rw [← hY2, settle_size, trim_whole (Nat.le_refl _)]
          exact ⟨q, Nat.lt_succ_self q, q, _, rfl, by omega, rfl, ⟨hY3.trans hM2.lock, hY2.trans hG, (hY4 0 (by decide)).trans hM2.zero, hY1⟩, hT2.fill ha hc (by omega) (by omega)⟩
  obtain ⟨v, ⟨tb, h1, rfl⟩, h2⟩ := key
  exact ⟨tb, h1, h2⟩
end Go.Ev
namespace Go.Ev
open Go.Proofs
set_option maxRecDepth 100000
set_option linter.unusedSimpArgs false
attribute [local irreducible] Wp WpS
theorem mm2 (x y : Int) : minmaxA false (.v (.int .i64 x)) [.v (.int .i64 y)] = some (.v (.int .i64 (min x y))) := by
  unfold minmaxA minmax2
  simp only [Bool.false_eq_true, if_false]
  by_cases h : y < x
  · simp [h, Int.min_def, minmaxA]; try omega
  · simp [h, Int.min_def, minmaxA]; try omega
def kindT (tb : List Int) (i j : Nat) : Int := if atT tb (i + 1) (j + 1) ≤ min (atT tb (i + 1) j) (atT tb i (j + 1)) then 3 else if atT tb (i + 1) j ≤ atT tb i (j + 1) then 1 else 2
set_option maxHeartbeats 4000000 in
theorem fn75 {e : Exts} {X : Heap} {b : Nat} {lx ly : AV} {a c : Line} {tb : List Int} (h : PrH X b lx ly a c tb) (i j : Nat) (hi : i < 11) (hj : j < 11) : Fn' (Cx e) 75 [.ptr b 0 0, intA i, intA j] X (fun v _ => v = .v (.int .u8 (kindT tb i j))) := by
  obtain ⟨N, hN⟩ : ∃ N, X.size = N := ⟨_, rfl⟩
  obtain ⟨m, g, hr0⟩ := h.row
  have hb := h.lt
  have hr : ∀ E, (X.plus E).row b 0 = some (m, 104, 1, g, prC lx ly tb) := fun E => by rw [rowLo hb]; exact hr0
  have hlt : ltB b N = true := by unfold ltB; simp; omega
  have hlen := h.len
  have hw1 := wrap_succ i (by omega)
  have hw2 := wrap_succ j (by omega)
  have pA := prT lx ly hlen (i := i + 1) (j := j + 1) (by omega) (by omega)
  have pB := prT lx ly hlen (i := i + 1) (j := j) (by omega) (by omega)
  have pC := prT lx ly hlen (i := i) (j := j + 1) (by omega) (by omega)
  have rI := fun v k => arP b v k 12 12 i (by omega)
  have rI1 := fun v k => arP b v k 12 12 (i + 1) (by omega)
  have rJ := fun v k => arP b v k 12 1 j (by omega)
  have rJ1 := fun v k => arP b v k 12 1 (j + 1) (by omega)
  rw [fn_step (fn_75 e) (show Tryz.f75.body = some _ from rfl), ← plus_nil X]
  simp -implicitDefEqProofs only [Tryz.f75, go_sem, ↓reduceIte, Int.reduceEq, Int.reduceLT, Int.reduceLE, List.reduceReplicate, intA, setT_nil, setT_cons, ↓boolP_bool, ↓iteB_true, ↓iteB_false, sizeP hN, settleP0 hN, settleP hN, List.length_nil, Nat.add_zero]
  refine wp_drawX [([], [], false), ([], [], false), ([], [], false), ([], [], false), ([], [], false), ([], [], false), ([], [], false), ([], [], false), ([], [], false), ([], [], false), ([], [], false), ([], [], false), ([], [], false), ([], [], false), ([], [], false), ([], [], false), ([], [], false), ([], [], false), ([9], [], false), ([], [], false), ([], [], false), ([], [], false), ([], [], false), ([], [], false), ([], [], false), ([], [], false), ([], [], false), ([9, 18], [], false), ([], [], false), ([], [], false), ([], [], false)] (by kernel_rfl) (by kernel_rfl) ?_
  by_cases k1 : atT tb (i + 1) (j + 1) ≤ min (atT tb (i + 1) j) (atT tb i (j + 1))
  · have hk : kindT tb i j = 3 := by unfold kindT; rw [if_pos k1]
    simp -implicitDefEqProofs only [go_sem, ↓reduceIte, Int.reduceEq, Int.reduceLT, Int.reduceLE, List.reduceReplicate, intA, setT_nil, setT_cons, ↓boolP_bool, ↓iteB_true, ↓iteB_false, hr, hlt, rI, rI1, rJ, rJ1, Nat.mul_one, Nat.zero_add, pA, pB, pC, mm2, hw1, hw2, k1, sizeP hN, settleP0 hN, settleP hN, List.length_nil, Nat.add_zero]
    rw [hk]; rfl
  · by_cases k2 : atT tb (i + 1) j ≤ atT tb i (j + 1)
    · have hk : kindT tb i j = 1 := by unfold kindT; rw [if_neg k1, if_pos k2]
      simp -implicitDefEqProofs only [go_sem, ↓reduceIte, Int.reduceEq, Int.reduceLT, Int.reduceLE, List.reduceReplicate, intA, setT_nil, setT_cons, ↓boolP_bool, ↓iteB_true, ↓iteB_false, hr, hlt, rI, rI1, rJ, rJ1, Nat.mul_one, Nat.zero_add, pA, pB, pC, mm2, hw1, hw2, k1, k2, sizeP hN, settleP0 hN, settleP hN, List.length_nil, Nat.add_zero]
      rw [hk]; rfl
    · have hk : kindT tb i j = 2 := by unfold kindT; rw [if_neg k1, if_neg k2]
      simp -implicitDefEqProofs only [go_sem, ↓reduceIte, Int.reduceEq, Int.reduceLT, Int.reduceLE, List.reduceReplicate, intA, setT_nil, setT_cons, ↓boolP_bool, ↓iteB_true, ↓iteB_false, hr, hlt, rI, rI1, rJ, rJ1, Nat.mul_one, Nat.zero_add, pA, pB, pC, mm2, hw1, hw2, k1, k2, sizeP hN, settleP0 hN, settleP hN, List.length_nil, Nat.add_zero]
      rw [hk]; rfl
theorem callP75 {e : Exts} (he : Quiet e) {X : Heap} {b : Nat} {lx ly : AV} {a c : Line} {tb : List Int} (h : PrH X b lx ly a c tb) (i j : Nat) (hi : i < 11) (hj : j < 11) (me : FuncId) (d : Option Tmp) : callA (Cx e) (lim (Cx e)) me 75 d [.ptr b 0 0, .v (.int .i64 i), .v (.int .i64 j)] X = some (.v (.int .u8 (kindT tb i j)), X) := by
  refine callA_still (ext_75 he) (pure_75 _ _ _) rfl (fun h0 => ?_) (fn75 (h.lock _) i j hi hj)
  have : Nat.max (b + 1) (Nat.max 0 (Nat.max 0 0)) = 0 := h0
  have h1 := Nat.le_max_left (b + 1) (Nat.max 0 (Nat.max 0 0))
  have h2 : b + 1 ≤ 0 := this ▸ h1
  omega
end Go.Ev
namespace Go.Ev
open Go.Proofs
set_option maxRecDepth 100000
set_option linter.unusedSimpArgs false
attribute [local irreducible] Wp WpS
/-- readings so far, and where they lie -/
def DoneF (H : Heap) (fs : List Rd) (out : AV) : Prop :=
  (fs = [] ∧ out = .v (.slice none 0 0)) ∨ ∃ b v, H.lock ≤ b ∧ b < H.size ∧ out = .sl b v 0 fs.length none ∧ H.row b v = some (0, 65, 5, true, rdCells fs) ∧ fs ≠ []
structure M53 (H : Heap) (L b : Nat) (lx ly : AV) (a c : Line) (tb : List Int) (k n : Int) (fs : List Rd) (out : AV) : Prop where
  lock : H.lock = L
  size : L + 1 ≤ H.size
  lt : b < L
  place : ∃ w m, H.get L = some (.cells 0 m 32 1 false [.v (.int .i64 k), .v (.int .i64 n), .v (.int .i64 w)])
  pr : PrH H b lx ly a c tb
  done : DoneF H fs out
theorem M53.plus {H : Heap} {L b : Nat} {lx ly : AV} {a c : Line} {tb : List Int} {k n : Int} {fs : List Rd} {out : AV} (h : M53 H L b lx ly a c tb k n fs out) (E : List (Option AObj)) : M53 (H.plus E) L b lx ly a c tb k n fs out := by
  obtain ⟨w, m, hp⟩ := h.place
  refine ⟨h.lock, by have := h.size; rw [plus_size]; omega, h.lt, ⟨w, m, (plus_get E (by have := h.size; omega)).trans hp⟩, h.pr.plus E, ?_⟩
  rcases h.done with hd | ⟨b', v, h1, h2, h3, h4, h5⟩
  · exact Or.inl hd
  · exact Or.inr ⟨b', v, h1, by rw [plus_size]; omega, h3, by rw [rowLo h2]; exact h4, h5⟩
theorem PrH.trim {X : Heap} {b : Nat} {lx ly : AV} {a c : Line} {tb : List Int} (h : PrH X b lx ly a c tb) {n : Nat} (hn : b < n) (vs : List AV) (ms : List Nat) : PrH (X.trim n vs ms) b lx ly a c tb := by
  obtain ⟨m, g, hr⟩ := h.row
  by_cases h2 : n ≤ X.size
  · exact ⟨Nat.lt_of_lt_of_le hn (trim_size' h2), ⟨m, g, get_row ((trim_lo hn).trans (row_of_get hr))⟩, h.left, h.right, h.len⟩
  · rw [trim_whole (by omega)]; exact h
theorem M53.trim {H : Heap} {L b : Nat} {lx ly : AV} {a c : Line} {tb : List Int} {k n : Int} {fs : List Rd} {out : AV} (h : M53 H L b lx ly a c tb k n fs out) {N : Nat} (hn : L + 1 ≤ N) (vs : List AV) (ms : List Nat) (hv : bound out ≤ boundL vs) : M53 (H.trim N vs ms) L b lx ly a c tb k n fs out := by
  by_cases hn2 : N ≤ H.size
  · obtain ⟨w, m, hp⟩ := h.place
    refine ⟨trim_lock.trans h.lock, Nat.le_trans hn (trim_size' hn2), h.lt, ⟨w, m, (trim_lo (by omega)).trans hp⟩, h.pr.trim (by have := h.lt; omega) vs ms, ?_⟩
    rcases h.done with hd | ⟨b', v, h1, h2, rfl, h4, hnn⟩
    · exact Or.inl hd
    · unfold Heap.trim
      split
      · rename_i hq
        rw [Bool.and_eq_true, Bool.and_eq_true, Bool.and_eq_true, Nat.ble_eq] at hq
        have h5 := hq.1.1.1
        have hb : b' < N := by simp only [bound] at hv; omega
        have hg := (takeH_get (H := H) hb).trans (row_of_get h4)
        exact Or.inr ⟨b', v, h1, get_size hg, rfl, get_row hg, hnn⟩
      · exact Or.inr ⟨b', v, h1, h2, rfl, h4, hnn⟩
  · rw [trim_whole (by omega)]; exact h
theorem M53.more {H : Heap} {L b : Nat} {lx ly : AV} {a c : Line} {tb : List Int} {k n : Int} {fs : List Rd} {b' v : Nat} (h : M53 H L b lx ly a c tb k n fs (.sl b' v 0 fs.length none)) (hb1 : H.lock ≤ b') (hb : b' < H.size) (hr : H.row b' v = some (0, 65, 5, true, rdCells fs)) (r : Rd) : M53 (H.put b' (.cells (v + 1) 0 65 5 true (rdCells (fs ++ [r])))) L b lx ly a c tb k n (fs ++ [r]) (.sl b' (v + 1) 0 (fs.length + 1) none) := by
  obtain ⟨w, m, hp⟩ := h.place
  obtain ⟨mb, gb, hrb⟩ := h.pr.row
  have hg := row_of_get hr
  have h1 : L ≠ b' := by
    rintro rfl
    rw [hp] at hg; simp at hg
  have h2 : b ≠ b' := by
    rintro rfl
    have := row_of_get hrb
    rw [this] at hg; simp at hg
  refine ⟨h.lock, by rw [put_sizeI _ hb]; exact h.size, h.lt, ⟨w, m, (put_get_ne _ (by omega) h1).trans hp⟩, ⟨by rw [put_sizeI _ hb]; exact h.pr.lt, ⟨mb, gb, get_row ((put_get_ne _ (by omega) h2).trans (row_of_get hrb))⟩, h.pr.left, h.pr.right, h.pr.len⟩, Or.inr ⟨b', v + 1, hb1, by rw [put_sizeI _ hb]; exact hb, by rw [List.length_append]; rfl, row_put_same hb, by simp⟩⟩
theorem M53.new {H : Heap} {L b : Nat} {lx ly : AV} {a c : Line} {tb : List Int} {k n : Int} {fs : List Rd} {out : AV} (h : M53 H L b lx ly a c tb k n fs out) {N : Nat} (hN : H.size = N) (E : List (Option AObj)) (q : Nat) (r : Rd) (hE : E[q]? = some (some (.cells 0 0 65 5 true (rdCells [r])))) : M53 (H.plus E) L b lx ly a c tb k n [r] (.sl (N + q) 0 0 1 none) := by
  have hk := (List.getElem?_eq_some_iff.1 hE).1
  have h1 := h.plus E
  refine ⟨h1.lock, h1.size, h1.lt, h1.place, h1.pr, Or.inr ⟨N + q, 0, ?_, by rw [plus_size]; omega, rfl, ?_, by simp⟩⟩
  · have := h.lock; have := h.size
    show H.lock ≤ _
    omega
  · rw [rowP hN, hE]; rfl
theorem M53.word {H : Heap} {L b : Nat} {lx ly : AV} {a c : Line} {tb : List Int} {k n : Int} {fs : List Rd} {out : AV} (h : M53 H L b lx ly a c tb k n fs out) (i : Int) : ∃ Z, (∀ E, storeCells (H.plus E) L 0 2 [.v (.int .i64 i)] = some (Z.plus E)) ∧ Z.size = H.size ∧ M53 Z L b lx ly a c tb k n fs out ∧ ∃ m, Z.row L 0 = some (m, 32, 1, false, [.v (.int .i64 k), .v (.int .i64 n), .v (.int .i64 i)]) := by
  obtain ⟨w, m, hp⟩ := h.place
  obtain ⟨mb, gb, hrb⟩ := h.pr.row
  have hsz := h.size
  have hLs : L < H.size := by omega
  have hbL := h.lt
  refine ⟨H.put L (.cells 0 (Nat.max m 0) 32 1 false [.v (.int .i64 k), .v (.int .i64 n), .v (.int .i64 i)]), fun E => ?_, put_sizeI _ hLs, ⟨h.lock, by rw [put_sizeI _ hLs]; exact h.size, h.lt, ⟨i, _, put_get_eq _ (by omega)⟩, ⟨by rw [put_sizeI _ hLs]; exact h.pr.lt, ⟨mb, gb, get_row ((put_get_ne _ (by omega) (by omega)).trans (row_of_get hrb))⟩, h.pr.left, h.pr.right, h.pr.len⟩, ?_⟩, _, row_put_same hLs⟩
  · rw [storeLoK (X := H) (b := L) (v := 0) (k := 2) hLs (by rw [h.lock]; exact Nat.le_refl _) (get_row hp) (by simp) rfl E]; rfl
  · rcases h.done with hd | ⟨b', v, h1, h2, rfl, h4, hnn⟩
    · exact Or.inl hd
    · have hne : b' ≠ L := by
        rintro rfl
        have := row_of_get h4
        rw [hp] at this; simp at this
      exact Or.inr ⟨b', v, h1, by rw [put_sizeI _ hLs]; exact h2, rfl, get_row ((put_get_ne _ (by omega) hne).trans (row_of_get h4)), hnn⟩
theorem freezeF {H : Heap} {fs : List Rd} {out : AV} (h : DoneF H fs out) {L : Nat} (hk : H.lock = L) : freezeV { H with lock := L } 1000000 out = some (ofV fs) := by
  rcases h with ⟨rfl, rfl⟩ | ⟨b, v, h1, h2, rfl, h4, hnn⟩
  · rfl
  · have hH : ({ H with lock := L } : Heap) = H := by cases H; simp only at hk; subst hk; rfl
    rw [hH]
    unfold freezeV
    simp only [h4]
    have hl := rdCells_len fs
    rw [if_neg (by omega), if_pos ⟨by omega, by omega⟩, if_pos trivial, List.drop_zero, List.take_of_length_le (by omega), chunk_rds]
    cases fs with
    | nil => exact absurd rfl hnn
    | cons r fs => rfl
theorem found_step {k n : Int} {a c : Line} {tb : List Int} (hT : TabOK a c tb (-1) 0) (ha : a.length ≤ 10) (hc : c.length ≤ 10) {i j : Nat} (hi : i ≤ a.length) (hj : j ≤ c.length) (hend : ¬ (i = a.length ∧ j = c.length)) :
    (sameB a c i j = true ∧ i < a.length ∧ j < c.length ∧ foundL k n i (a.drop i) (c.drop j) = foundL k n (i + 1) (a.drop (i + 1)) (c.drop (j + 1))) ∨
    (sameB a c i j = false ∧ kindT tb i j = 3 ∧ i < a.length ∧ ∃ y, c[j]? = some y ∧ foundL k n i (a.drop i) (c.drop j) = ⟨k, n, i, 3, y⟩ :: foundL k n (i + 1) (a.drop (i + 1)) (c.drop (j + 1))) ∨
    (sameB a c i j = false ∧ kindT tb i j = 1 ∧ i < a.length ∧ foundL k n i (a.drop i) (c.drop j) = ⟨k, n, i, 1, emp⟩ :: foundL k n (i + 1) (a.drop (i + 1)) (c.drop j)) ∨
    (sameB a c i j = false ∧ kindT tb i j = 2 ∧ ∃ y, c[j]? = some y ∧ foundL k n i (a.drop i) (c.drop j) = ⟨k, n, i, 2, y⟩ :: foundL k n i (a.drop i) (c.drop (j + 1))) := by
  have e1 := hT.full (p := i + 1) (q := j + 1) (by omega) (by omega)
  have e2 := hT.full (p := i + 1) (q := j) (by omega) (by omega)
  have e3 := hT.full (p := i) (q := j + 1) (by omega) (by omega)
  unfold fullT at e1 e2 e3
  have hkd : kindT tb i j = if atT tb (i + 1) (j + 1) ≤ min (atT tb (i + 1) j) (atT tb i (j + 1)) then 3 else if atT tb (i + 1) j ≤ atT tb i (j + 1) then 1 else 2 := rfl
  by_cases hil : i < a.length
  · obtain ⟨x, hx1, hx2⟩ := drop_at hil
    by_cases hjl : j < c.length
    · obtain ⟨y, hy1, hy2⟩ := drop_at hjl
      rw [if_pos (by omega)] at e1 e2 e3
      rw [sameB_some hx1 hy1, hx2, hy2]
      rw [e1, e2, e3] at hkd
      rw [hy2] at hkd
      rw [hx2] at hkd
      by_cases e : x = y
      · subst e
        exact Or.inl ⟨decide_eq_true rfl, hil, hjl, found_same ..⟩
      · right
        rw [decide_eq_false e]
        by_cases k1 : distL (a.drop (i + 1)) (c.drop (j + 1)) ≤ min (distL (a.drop (i + 1)) (y :: c.drop (j + 1))) (distL (x :: a.drop (i + 1)) (c.drop (j + 1)))
        · rw [if_pos (by omega)] at hkd
          exact Or.inl ⟨rfl, hkd, hil, y, hy1, found_other e k1⟩
        · rw [if_neg (by omega)] at hkd
          by_cases k2 : distL (a.drop (i + 1)) (y :: c.drop (j + 1)) ≤ distL (x :: a.drop (i + 1)) (c.drop (j + 1))
          · rw [if_pos (by omega)] at hkd
            exact Or.inr (Or.inl ⟨rfl, hkd, hil, found_leave e k1 k2⟩)
          · rw [if_neg (by omega)] at hkd
            exact Or.inr (Or.inr ⟨rfl, hkd, y, hy1, found_put e k1 k2⟩)
    · obtain rfl : j = c.length := by omega
      rw [if_neg (by omega)] at e1 e3
      rw [if_pos (by omega)] at e2
      rw [e1, e2, e3, List.drop_length, distL_nilr, List.length_drop] at hkd
      rw [if_neg (by omega), if_pos (by omega)] at hkd
      right; right; left
      rw [sameB_right (Nat.lt_irrefl _), hx2, List.drop_length]
      exact ⟨rfl, hkd, hil, found_left ..⟩
  · obtain rfl : i = a.length := by omega
    have hjl : j < c.length := by omega
    obtain ⟨y, hy1, hy2⟩ := drop_at hjl
    rw [if_neg (by omega)] at e1 e2
    rw [if_pos (by omega)] at e3
    rw [e1, e2, e3, List.drop_length, distL_nil, List.length_drop] at hkd
    rw [if_neg (by omega), if_neg (by omega)] at hkd
    right; right; right
    rw [sameB_left (Nat.lt_irrefl _), hy2, List.drop_length]
    exact ⟨rfl, hkd, y, hy1, found_right ..⟩
theorem fitsA5 : fitsA 48 1 = true := by decide
set_option maxHeartbeats 4000000 in
theorem fn53 {e : Exts} (he : Quiet e) {X : Heap} {b : Nat} {lx ly : AV} {a c : Line} {tb : List Int} (h : PrH X b lx ly a c tb) (hlk : X.lock = X.size) (ha : a.length ≤ 10) (hc : c.length ≤ 10) (hT : TabOK a c tb (-1) 0) (k n w : Int) : Fn' (Cx e) 53 [.ptr b 0 0, .agg [intA k, intA n, intA w]] X (fun v H' => freezeV { H' with lock := X.size } 1000000 v = some (ofV (foundL k n 0 a c))) := by
  obtain ⟨N, hN⟩ : ∃ N, X.size = N := ⟨_, rfl⟩
  have hlkN : X.lock ≤ N := by omega
  generalize hKK : (fun v H' => freezeV { H' with lock := X.size } 1000000 v = some (ofV (foundL k n 0 a c)) : PostO) = KK
  rw [fn_step (fn_53 e) (show Tryz.f53.body = some _ from rfl), ← plus_nil X]
  simp -implicitDefEqProofs only [Tryz.f53, go_sem, ↓reduceIte, Int.reduceEq, Int.reduceLT, Int.reduceLE, List.reduceReplicate, intA, setT_nil, setT_cons, ↓boolP_bool, ↓iteB_true, ↓iteB_false, sizeP hN, putP0 hN, putP hN, settleP0 hN, settleP hN, List.length_nil, Nat.add_zero]
  refine Lp_rule (P := fun μ a' H => ∃ (i j : Nat) (fs : List Rd) (out : AV), i ≤ a.length ∧ j ≤ c.length ∧ μ = (a.length - i) + (c.length - j) ∧ fs ++ foundL k n i (a.drop i) (c.drop j) = foundL k n 0 a c ∧ fs.length ≤ i + j ∧ a' = ⟨87, [(0, .ptr b 0 0), (1, .agg [.v (.int .i64 k), .v (.int .i64 n), .v (.int .i64 w)]), (3, .ptr N 0 0), (4, .v (.slice none 0 0)), (5, out), (6, intA i), (7, intA j)], []⟩ ∧ M53 H N b lx ly a c tb k n fs out) ?_ (a.length + c.length) _ _ ⟨0, 0, [], _, Nat.zero_le _, Nat.zero_le _, by omega, rfl, Nat.le_refl _, rfl, hlk.trans hN, by rw [plus_size]; simp; omega, by have := h.lt; omega, ⟨w, 0, by rw [plus_get_hi _ (by omega), hN, Nat.sub_self]; rfl⟩, h.plus _, Or.inl ⟨rfl, rfl⟩⟩
  rintro μ _ Y ⟨i, j, fs, out, hi, hj, rfl, hfs, hfl, rfl, hM⟩
  obtain ⟨N1, hN1⟩ : ∃ N1, Y.size = N1 := ⟨_, rfl⟩
  have hlk1 : Y.lock ≤ N1 := by have := hM.lock; have := hM.size; omega
  have hNN : N + 1 ≤ N1 := by have := hM.size; omega
  obtain ⟨mb, gb, hrb0⟩ := hM.pr.row
  have hblt := hM.pr.lt
  have hrb : ∀ E, (Y.plus E).row b 0 = some (mb, 104, 1, gb, prC lx ly tb) := fun E => by rw [rowLo hblt]; exact hrb0
  have hl := h.left
  have hl2 := h.right
  have hw1 := wrap_succ i (by omega)
  have hw2 := wrap_succ j (by omega)
  have h74 := fun me d E => callP74 he (hM.pr.plus E) i j me d
  rw [← plus_nil Y]
  by_cases hend : i = a.length ∧ j = c.length
  · have d1 : ((i : Int) < (a.length : Int)) = False := by simp; omega
    have d2 : ((j : Int) < (c.length : Int)) = False := by simp; omega
    simp -implicitDefEqProofs only [go_sem, ↓reduceIte, Int.reduceEq, Int.reduceLT, Int.reduceLE, List.reduceReplicate, intA, setT_nil, setT_cons, ↓boolP_bool, ↓iteB_true, ↓iteB_false, hrb, prC_0, prC_1, hl.len, hl2.len, strs_len, d1, d2, sizeP hN1, putP0 hN1, putP hN1, settleP0 hN1, settleP hN1, List.length_nil, Nat.add_zero]
    obtain ⟨rfl, rfl⟩ := hend
    have hM2 := (hM.plus []).trim hNN [AV.ptr b 0 0, .agg [.v (.int .i64 k), .v (.int .i64 n), .v (.int .i64 w)], .ptr N 0 0, .v (.slice none 0 0), out, .v (.int .i64 a.length), .v (.int .i64 c.length)] [] (le_boundL (by simp))
    rw [← hKK]
    show freezeV _ _ _ = _
    rw [hN]
    have hf : fs = foundL k n 0 a c := by rw [← hfs, List.drop_length, List.drop_length, found_nil, List.append_nil]
    rw [← hf]
    exact freezeF hM2.done hM2.lock
  · have hd1 : (i : Int) < (a.length : Int) ∨ ¬ (i : Int) < (a.length : Int) := Classical.em _
    obtain ⟨Z, hstZ, hZN, hMZ, mz, hzr0⟩ := hM.word i
    have hNZ : Z.size = N1 := hZN.trans hN1
    have hlkZ : Z.lock ≤ N1 := by have := hMZ.lock; omega
    have hzr : ∀ E, (Z.plus E).row N 0 = some (mz, 32, 1, false, [.v (.int .i64 k), .v (.int .i64 n), .v (.int .i64 i)]) := fun E => by rw [rowLo (by omega)]; exact hzr0
    obtain ⟨mb', gb', hrz0⟩ := hMZ.pr.row
    have hrz : ∀ E, (Z.plus E).row b 0 = some (mb', 104, 1, gb', prC lx ly tb) := fun E => by rw [rowLo (by omega)]; exact hrz0
    have hltN : ltB N N1 = true := by unfold ltB; simp; omega
    have hltb : ltB b N1 = true := by unfold ltB; have := hM.lt; simp; omega
    have h75 := fun me d E => callP75 he (hMZ.pr.plus E) i j (by omega) (by omega) me d
    rcases found_step (k := k) (n := n) hT ha hc hi hj hend with ⟨hs, hil, hjl, hfd⟩ | ⟨hs, hk, hil, y, hy, hfd⟩ | ⟨hs, hk, hil, hfd⟩ | ⟨hs, hk, y, hy, hfd⟩
    · have d1 : (i : Int) < (a.length : Int) := by omega
      rw [hs] at h74
      simp -implicitDefEqProofs only [go_sem, ↓reduceIte, Int.reduceEq, Int.reduceLT, Int.reduceLE, List.reduceReplicate, intA, setT_nil, setT_cons, ↓boolP_bool, ↓iteB_true, ↓iteB_false, hrb, prC_0, prC_1, hl.len, hl2.len, strs_len, d1, h74, hw1, hw2, sizeP hN1, putP0 hN1, putP hN1, settleP0 hN1, settleP hN1, List.length_nil, Nat.add_zero]
      exact ⟨(a.length - (i + 1)) + (c.length - (j + 1)), by omega, i + 1, j + 1, fs, out, by omega, by omega, rfl, by rw [← hfd]; exact hfs, by omega, rfl, (hM.plus _).trim hNN _ _ (le_boundL (by simp))⟩
    · have d1 : (i : Int) < (a.length : Int) := by omega
      have hjl : j < c.length := (List.getElem?_eq_some_iff.1 hy).1
      have hiy := hl2.idx (strs_get hy)
      rw [hs] at h74
      rw [hk] at h75
      simp -implicitDefEqProofs only [go_sem, ↓reduceIte, Int.reduceEq, Int.reduceLT, Int.reduceLE, List.reduceReplicate, intA, setT_nil, setT_cons, ↓boolP_bool, ↓iteB_true, ↓iteB_false, hrb, prC_0, prC_1, hl.len, hl2.len, strs_len, d1, h74, hstZ, h75, sizeP hN1, putP0 hN1, putP hN1, settleP0 hN1, settleP hN1, List.length_nil, Nat.add_zero, sizeP hNZ, putP0 hNZ, putP hNZ, settleP0 hNZ, settleP hNZ, rowP0 hNZ, rowP hNZ, storeP0 hNZ hlkZ, storeP hNZ hlkZ, List.length_nil, Nat.add_zero]
      refine wp_drawX [([], [], false), ([], [], false), ([], [], false), ([], [], false), ([], [], false), ([], [], false), ([1], [], false), ([], [], false), ([], [], false), ([1], [], false), ([], [], false), ([], [], false), ([], [11], false), ([], [], false)] (by kernel_rfl) (by kernel_rfl) ?_
      have hnxt : (fs ++ [⟨k, n, i, 3, y⟩]) ++ foundL k n (i + 1) (a.drop (i + 1)) (c.drop (j + 1)) = foundL k n 0 a c := by rw [hfd] at hfs; rw [← hfs, List.append_assoc]; rfl
      rcases hMZ.done with ⟨hd, ho⟩ | ⟨b', v, hb1, hb2, ho, hrow, hnn⟩
      · subst hd ho
        simp -implicitDefEqProofs only [go_sem, ↓reduceIte, Int.reduceEq, Int.reduceLT, Int.reduceLE, List.reduceReplicate, intA, setT_nil, setT_cons, ↓boolP_bool, ↓iteB_true, ↓iteB_false, hiy, hzr, hrz, prC_0, prC_1, hltN, hltb, hl2.objs, hw1, hw2, fitsA5, List.flatMap_cons, List.flatMap_nil, sizeP hNZ, putP0 hNZ, putP hNZ, settleP0 hNZ, settleP hNZ, rowP0 hNZ, rowP hNZ, storeP0 hNZ hlkZ, storeP hNZ hlkZ, List.length_nil, Nat.add_zero]
        exact ⟨(a.length - (i + 1)) + (c.length - (j + 1)), by omega, i + 1, j + 1, [⟨k, n, i, 3, y⟩], .sl (N1 + 12) 0 0 1 none, by omega, by omega, rfl, hnxt, by simp only [List.length_cons, List.length_nil]; omega, rfl, (hMZ.new hNZ _ 12 ⟨k, n, i, 3, y⟩ rfl).trim hNN _ _ (le_boundL (by simp))⟩
      · subst ho
        have hltb' : ltB b' N1 = true := by unfold ltB; simp; omega
        simp -implicitDefEqProofs only [go_sem, ↓reduceIte, Int.reduceEq, Int.reduceLT, Int.reduceLE, List.reduceReplicate, intA, setT_nil, setT_cons, ↓boolP_bool, ↓iteB_true, ↓iteB_false, hltb', hiy, hzr, hrz, prC_0, prC_1, hltN, hltb, hl2.objs, hw1, hw2, fitsA5, List.flatMap_cons, List.flatMap_nil, sizeP hNZ, putP0 hNZ, putP hNZ, settleP0 hNZ, settleP hNZ, rowP0 hNZ, rowP hNZ, storeP0 hNZ hlkZ, storeP hNZ hlkZ, List.length_nil, Nat.add_zero]
        have hrp : ∀ E, (Z.plus E).row b' v = some (0, 65, 5, true, rdCells fs) := fun E => by rw [rowLo hb2]; exact hrow
        have hf : fitsA 48 (fs.length + 1) = true := by unfold fitsA; exact decide_eq_true (by omega)
        have hmore := hMZ.more hb1 hb2 hrow ⟨k, n, i, 3, y⟩
        rw [appTo_own (m := 0) (e' := 65) (cs := rdCells fs) (hrp _) (by rw [rdCells_len]) hb1 hf (by omega) (by omega)]
        rw [putLo hb2, rdCells_append] at *
        change M53 (Z.put b' (.cells (v + 1) 0 65 5 true (rdCells fs ++ [.v (.int .i64 k), .v (.int .i64 n), .v (.int .i64 i), .v (.int .u8 3), .v (.string y)]))) _ _ _ _ _ _ _ _ _ _ _ at hmore
        have hNY : (Z.put b' (.cells (v + 1) 0 65 5 true (rdCells fs ++ [.v (.int .i64 k), .v (.int .i64 n), .v (.int .i64 i), .v (.int .u8 3), .v (.string y)]))).size = N1 := by rw [put_sizeI _ hb2]; exact hNZ
        change bindO (some (AV.sl b' (v + 1) 0 (fs.length + 1) none, (Z.put b' (.cells (v + 1) 0 65 5 true (rdCells fs ++ [.v (.int .i64 k), .v (.int .i64 n), .v (.int .i64 i), .v (.int .u8 3), .v (.string y)]))).plus _)) _
        generalize Z.put b' (.cells (v + 1) 0 65 5 true (rdCells fs ++ [.v (.int .i64 k), .v (.int .i64 n), .v (.int .i64 i), .v (.int .u8 3), .v (.string y)])) = Q at hmore hNY ⊢
        simp -implicitDefEqProofs only [go_sem, ↓reduceIte, Int.reduceEq, Int.reduceLT, Int.reduceLE, List.reduceReplicate, intA, setT_nil, setT_cons, ↓boolP_bool, ↓iteB_true, ↓iteB_false, hw1, hw2, sizeP hNY, settleP0 hNY, settleP hNY]
        exact ⟨(a.length - (i + 1)) + (c.length - (j + 1)), by omega, i + 1, j + 1, fs ++ [⟨k, n, i, 3, y⟩], .sl b' (v + 1) 0 (fs.length + 1) none, by omega, by omega, rfl, hnxt, by rw [List.length_append]; simp only [List.length_cons, List.length_nil]; omega, rfl, (hmore.plus _).trim hNN _ _ (le_boundL (by simp))⟩
    · have d1 : (i : Int) < (a.length : Int) := by omega
      rw [hs] at h74
      rw [hk] at h75
      have hnxt : (fs ++ [⟨k, n, i, 1, emp⟩]) ++ foundL k n (i + 1) (a.drop (i + 1)) (c.drop (j)) = foundL k n 0 a c := by rw [hfd] at hfs; rw [← hfs, List.append_assoc]; rfl
      rcases hMZ.done with ⟨hd, ho⟩ | ⟨b', v, hb1, hb2, ho, hrow, hnn⟩
      · subst hd ho
        simp -implicitDefEqProofs only [go_sem, ↓reduceIte, Int.reduceEq, Int.reduceLT, Int.reduceLE, List.reduceReplicate, intA, setT_nil, setT_cons, ↓boolP_bool, ↓iteB_true, ↓iteB_false, hzr, hrz, prC_0, prC_1, hltN, hltb, hl2.objs, hw1, hw2, fitsA5, List.flatMap_cons, List.flatMap_nil, hrb, hl.len, hl2.len, strs_len, d1, h74, hstZ, h75, sizeP hN1, settleP0 hN1, settleP hN1, sizeP hNZ, putP0 hNZ, putP hNZ, settleP0 hNZ, settleP hNZ, rowP0 hNZ, rowP hNZ, storeP0 hNZ hlkZ, storeP hNZ hlkZ, List.length_nil, Nat.add_zero]
        exact ⟨(a.length - (i + 1)) + (c.length - (j)), by omega, i + 1, j, [⟨k, n, i, 1, emp⟩], .sl (N1 + 0) 0 0 1 none, by omega, by omega, rfl, hnxt, by simp only [List.length_cons, List.length_nil]; omega, rfl, (hMZ.new hNZ _ 0 ⟨k, n, i, 1, emp⟩ rfl).trim hNN _ _ (le_boundL (by simp))⟩
      · subst ho
        have hltb' : ltB b' N1 = true := by unfold ltB; simp; omega
        simp -implicitDefEqProofs only [go_sem, ↓reduceIte, Int.reduceEq, Int.reduceLT, Int.reduceLE, List.reduceReplicate, intA, setT_nil, setT_cons, ↓boolP_bool, ↓iteB_true, ↓iteB_false, hltb', hzr, hrz, prC_0, prC_1, hltN, hltb, hl2.objs, hw1, hw2, fitsA5, List.flatMap_cons, List.flatMap_nil, hrb, hl.len, hl2.len, strs_len, d1, h74, hstZ, h75, sizeP hN1, settleP0 hN1, settleP hN1, sizeP hNZ, putP0 hNZ, putP hNZ, settleP0 hNZ, settleP hNZ, rowP0 hNZ, rowP hNZ, storeP0 hNZ hlkZ, storeP hNZ hlkZ, List.length_nil, Nat.add_zero]
        have hrp : ∀ E, (Z.plus E).row b' v = some (0, 65, 5, true, rdCells fs) := fun E => by rw [rowLo hb2]; exact hrow
        have hf : fitsA 48 (fs.length + 1) = true := by unfold fitsA; exact decide_eq_true (by omega)
        have hmore := hMZ.more hb1 hb2 hrow ⟨k, n, i, 1, emp⟩
        rw [appTo_own (m := 0) (e' := 65) (cs := rdCells fs) (hrp _) (by rw [rdCells_len]) hb1 hf (by omega) (by omega)]
        rw [putLo hb2, rdCells_append] at *
        change M53 (Z.put b' (.cells (v + 1) 0 65 5 true (rdCells fs ++ [.v (.int .i64 k), .v (.int .i64 n), .v (.int .i64 i), .v (.int .u8 1), .v (.string emp)]))) _ _ _ _ _ _ _ _ _ _ _ at hmore
        have hNY : (Z.put b' (.cells (v + 1) 0 65 5 true (rdCells fs ++ [.v (.int .i64 k), .v (.int .i64 n), .v (.int .i64 i), .v (.int .u8 1), .v (.string emp)]))).size = N1 := by rw [put_sizeI _ hb2]; exact hNZ
        change bindO (some (AV.sl b' (v + 1) 0 (fs.length + 1) none, (Z.put b' (.cells (v + 1) 0 65 5 true (rdCells fs ++ [.v (.int .i64 k), .v (.int .i64 n), .v (.int .i64 i), .v (.int .u8 1), .v (.string emp)]))).plus _)) _
        generalize Z.put b' (.cells (v + 1) 0 65 5 true (rdCells fs ++ [.v (.int .i64 k), .v (.int .i64 n), .v (.int .i64 i), .v (.int .u8 1), .v (.string emp)])) = Q at hmore hNY ⊢
        simp -implicitDefEqProofs only [go_sem, ↓reduceIte, Int.reduceEq, Int.reduceLT, Int.reduceLE, List.reduceReplicate, intA, setT_nil, setT_cons, ↓boolP_bool, ↓iteB_true, ↓iteB_false, hw1, hw2, sizeP hNY, settleP0 hNY, settleP hNY]
        exact ⟨(a.length - (i + 1)) + (c.length - (j)), by omega, i + 1, j, fs ++ [⟨k, n, i, 1, emp⟩], .sl b' (v + 1) 0 (fs.length + 1) none, by omega, by omega, rfl, hnxt, by rw [List.length_append]; simp only [List.length_cons, List.length_nil]; omega, rfl, (hmore.plus _).trim hNN _ _ (le_boundL (by simp))⟩
    · have hjl : j < c.length := (List.getElem?_eq_some_iff.1 hy).1
      have d2 : (j : Int) < (c.length : Int) := by omega
      have hiy := hl2.idx (strs_get hy)
      rw [hs] at h74
      rw [hk] at h75
      by_cases d1 : (i : Int) < (a.length : Int)
      · simp -implicitDefEqProofs only [go_sem, ↓reduceIte, Int.reduceEq, Int.reduceLT, Int.reduceLE, List.reduceReplicate, intA, setT_nil, setT_cons, ↓boolP_bool, ↓iteB_true, ↓iteB_false, hrb, prC_0, prC_1, hl.len, hl2.len, strs_len, d1, h74, hstZ, h75, sizeP hN1, putP0 hN1, putP hN1, settleP0 hN1, settleP hN1, List.length_nil, Nat.add_zero, sizeP hNZ, putP0 hNZ, putP hNZ, settleP0 hNZ, settleP hNZ, rowP0 hNZ, rowP hNZ, storeP0 hNZ hlkZ, storeP hNZ hlkZ, List.length_nil, Nat.add_zero]
        refine wp_drawX [([], [], false), ([], [], false), ([], [], false), ([], [], false), ([], [], false), ([], [], false), ([1], [], false), ([], [], false), ([], [], false), ([1], [], false), ([], [], false), ([], [], false), ([], [11], false), ([], [], false)] (by kernel_rfl) (by kernel_rfl) ?_
        have hnxt : (fs ++ [⟨k, n, i, 2, y⟩]) ++ foundL k n (i) (a.drop (i)) (c.drop (j + 1)) = foundL k n 0 a c := by rw [hfd] at hfs; rw [← hfs, List.append_assoc]; rfl
        rcases hMZ.done with ⟨hd, ho⟩ | ⟨b', v, hb1, hb2, ho, hrow, hnn⟩
        · subst hd ho
          simp -implicitDefEqProofs only [go_sem, ↓reduceIte, Int.reduceEq, Int.reduceLT, Int.reduceLE, List.reduceReplicate, intA, setT_nil, setT_cons, ↓boolP_bool, ↓iteB_true, ↓iteB_false, hiy, hzr, hrz, prC_0, prC_1, hltN, hltb, hl2.objs, hw1, hw2, fitsA5, List.flatMap_cons, List.flatMap_nil, sizeP hNZ, putP0 hNZ, putP hNZ, settleP0 hNZ, settleP hNZ, rowP0 hNZ, rowP hNZ, storeP0 hNZ hlkZ, storeP hNZ hlkZ, List.length_nil, Nat.add_zero]
          exact ⟨(a.length - (i)) + (c.length - (j + 1)), by omega, i, j + 1, [⟨k, n, i, 2, y⟩], .sl (N1 + 12) 0 0 1 none, by omega, by omega, rfl, hnxt, by simp only [List.length_cons, List.length_nil]; omega, rfl, (hMZ.new hNZ _ 12 ⟨k, n, i, 2, y⟩ rfl).trim hNN _ _ (le_boundL (by simp))⟩
        · subst ho
          have hltb' : ltB b' N1 = true := by unfold ltB; simp; omega
          simp -implicitDefEqProofs only [go_sem, ↓reduceIte, Int.reduceEq, Int.reduceLT, Int.reduceLE, List.reduceReplicate, intA, setT_nil, setT_cons, ↓boolP_bool, ↓iteB_true, ↓iteB_false, hltb', hiy, hzr, hrz, prC_0, prC_1, hltN, hltb, hl2.objs, hw1, hw2, fitsA5, List.flatMap_cons, List.flatMap_nil, sizeP hNZ, putP0 hNZ, putP hNZ, settleP0 hNZ, settleP hNZ, rowP0 hNZ, rowP hNZ, storeP0 hNZ hlkZ, storeP hNZ hlkZ, List.length_nil, Nat.add_zero]
          have hrp : ∀ E, (Z.plus E).row b' v = some (0, 65, 5, true, rdCells fs) := fun E => by rw [rowLo hb2]; exact hrow
          have hf : fitsA 48 (fs.length + 1) = true := by unfold fitsA; exact decide_eq_true (by omega)
          have hmore := hMZ.more hb1 hb2 hrow ⟨k, n, i, 2, y⟩
          rw [appTo_own (m := 0) (e' := 65) (cs := rdCells fs) (hrp _) (by rw [rdCells_len]) hb1 hf (by omega) (by omega)]
          rw [putLo hb2, rdCells_append] at *
          change M53 (Z.put b' (.cells (v + 1) 0 65 5 true (rdCells fs ++ [.v (.int .i64 k), .v (.int .i64 n), .v (.int .i64 i), .v (.int .u8 2), .v (.string y)]))) _ _ _ _ _ _ _ _ _ _ _ at hmore
          have hNY : (Z.put b' (.cells (v + 1) 0 65 5 true (rdCells fs ++ [.v (.int .i64 k), .v (.int .i64 n), .v (.int .i64 i), .v (.int .u8 2), .v (.string y)]))).size = N1 := by rw [put_sizeI _ hb2]; exact hNZ
          change bindO (some (AV.sl b' (v + 1) 0 (fs.length + 1) none, (Z.put b' (.cells (v + 1) 0 65 5 true (rdCells fs ++ [.v (.int .i64 k), .v (.int .i64 n), .v (.int .i64 i), .v (.int .u8 2), .v (.string y)]))).plus _)) _
          generalize Z.put b' (.cells (v + 1) 0 65 5 true (rdCells fs ++ [.v (.int .i64 k), .v (.int .i64 n), .v (.int .i64 i), .v (.int .u8 2), .v (.string y)])) = Q at hmore hNY ⊢
          simp -implicitDefEqProofs only [go_sem, ↓reduceIte, Int.reduceEq, Int.reduceLT, Int.reduceLE, List.reduceReplicate, intA, setT_nil, setT_cons, ↓boolP_bool, ↓iteB_true, ↓iteB_false, hw1, hw2, sizeP hNY, settleP0 hNY, settleP hNY]
          exact ⟨(a.length - (i)) + (c.length - (j + 1)), by omega, i, j + 1, fs ++ [⟨k, n, i, 2, y⟩], .sl b' (v + 1) 0 (fs.length + 1) none, by omega, by omega, rfl, hnxt, by rw [List.length_append]; simp only [List.length_cons, List.length_nil]; omega, rfl, (hmore.plus _).trim hNN _ _ (le_boundL (by simp))⟩
      · simp -implicitDefEqProofs only [go_sem, ↓reduceIte, Int.reduceEq, Int.reduceLT, Int.reduceLE, List.reduceReplicate, intA, setT_nil, setT_cons, ↓boolP_bool, ↓iteB_true, ↓iteB_false, hrb, prC_0, prC_1, hl.len, hl2.len, strs_len, d1, d2, h74, hstZ, h75, sizeP hN1, putP0 hN1, putP hN1, settleP0 hN1, settleP hN1, List.length_nil, Nat.add_zero, sizeP hNZ, putP0 hNZ, putP hNZ, settleP0 hNZ, settleP hNZ, rowP0 hNZ, rowP hNZ, storeP0 hNZ hlkZ, storeP hNZ hlkZ, List.length_nil, Nat.add_zero]
        refine wp_drawX [([], [], false), ([], [], false), ([], [], false), ([], [], false), ([], [], false), ([], [], false), ([1], [], false), ([], [], false), ([], [], false), ([1], [], false), ([], [], false), ([], [], false), ([], [11], false), ([], [], false)] (by kernel_rfl) (by kernel_rfl) ?_
        have hnxt : (fs ++ [⟨k, n, i, 2, y⟩]) ++ foundL k n (i) (a.drop (i)) (c.drop (j + 1)) = foundL k n 0 a c := by rw [hfd] at hfs; rw [← hfs, List.append_assoc]; rfl
        rcases hMZ.done with ⟨hd, ho⟩ | ⟨b', v, hb1, hb2, ho, hrow, hnn⟩
        · subst hd ho
          simp -implicitDefEqProofs only [go_sem, ↓reduceIte, Int.reduceEq, Int.reduceLT, Int.reduceLE, List.reduceReplicate, intA, setT_nil, setT_cons, ↓boolP_bool, ↓iteB_true, ↓iteB_false, hiy, hzr, hrz, prC_0, prC_1, hltN, hltb, hl2.objs, hw1, hw2, fitsA5, List.flatMap_cons, List.flatMap_nil, sizeP hNZ, putP0 hNZ, putP hNZ, settleP0 hNZ, settleP hNZ, rowP0 hNZ, rowP hNZ, storeP0 hNZ hlkZ, storeP hNZ hlkZ, List.length_nil, Nat.add_zero]
          exact ⟨(a.length - (i)) + (c.length - (j + 1)), by omega, i, j + 1, [⟨k, n, i, 2, y⟩], .sl (N1 + 12) 0 0 1 none, by omega, by omega, rfl, hnxt, by simp only [List.length_cons, List.length_nil]; omega, rfl, (hMZ.new hNZ _ 12 ⟨k, n, i, 2, y⟩ rfl).trim hNN _ _ (le_boundL (by simp))⟩
        · subst ho
          have hltb' : ltB b' N1 = true := by unfold ltB; simp; omega
          simp -implicitDefEqProofs only [go_sem, ↓reduceIte, Int.reduceEq, Int.reduceLT, Int.reduceLE, List.reduceReplicate, intA, setT_nil, setT_cons, ↓boolP_bool, ↓iteB_true, ↓iteB_false, hltb', hiy, hzr, hrz, prC_0, prC_1, hltN, hltb, hl2.objs, hw1, hw2, fitsA5, List.flatMap_cons, List.flatMap_nil, sizeP hNZ, putP0 hNZ, putP hNZ, settleP0 hNZ, settleP hNZ, rowP0 hNZ, rowP hNZ, storeP0 hNZ hlkZ, storeP hNZ hlkZ, List.length_nil, Nat.add_zero]
          have hrp : ∀ E, (Z.plus E).row b' v = some (0, 65, 5, true, rdCells fs) := fun E => by rw [rowLo hb2]; exact hrow
          have hf : fitsA 48 (fs.length + 1) = true := by unfold fitsA; exact decide_eq_true (by omega)
          have hmore := hMZ.more hb1 hb2 hrow ⟨k, n, i, 2, y⟩
          rw [appTo_own (m := 0) (e' := 65) (cs := rdCells fs) (hrp _) (by rw [rdCells_len]) hb1 hf (by omega) (by omega)]
          rw [putLo hb2, rdCells_append] at *
          change M53 (Z.put b' (.cells (v + 1) 0 65 5 true (rdCells fs ++ [.v (.int .i64 k), .v (.int .i64 n), .v (.int .i64 i), .v (.int .u8 2), .v (.string y)]))) _ _ _ _ _ _ _ _ _ _ _ at hmore
          have hNY : (Z.put b' (.cells (v + 1) 0 65 5 true (rdCells fs ++ [.v (.int .i64 k), .v (.int .i64 n), .v (.int .i64 i), .v (.int .u8 2), .v (.string y)]))).size = N1 := by rw [put_sizeI _ hb2]; exact hNZ
          change bindO (some (AV.sl b' (v + 1) 0 (fs.length + 1) none, (Z.put b' (.cells (v + 1) 0 65 5 true (rdCells fs ++ [.v (.int .i64 k), .v (.int .i64 n), .v (.int .i64 i), .v (.int .u8 2), .v (.string y)]))).plus _)) _
          generalize Z.put b' (.cells (v + 1) 0 65 5 true (rdCells fs ++ [.v (.int .i64 k), .v (.int .i64 n), .v (.int .i64 i), .v (.int .u8 2), .v (.string y)])) = Q at hmore hNY ⊢
          simp -implicitDefEqProofs only [go_sem, ↓reduceIte, Int.reduceEq, Int.reduceLT, Int.reduceLE, List.reduceReplicate, intA, setT_nil, setT_cons, ↓boolP_bool, ↓iteB_true, ↓iteB_false, hw1, hw2, sizeP hNY, settleP0 hNY, settleP hNY]
          exact ⟨(a.length - (i)) + (c.length - (j + 1)), by omega, i, j + 1, fs ++ [⟨k, n, i, 2, y⟩], .sl b' (v + 1) 0 (fs.length + 1) none, by omega, by omega, rfl, hnxt, by rw [List.length_append]; simp only [List.length_cons, List.length_nil]; omega, rfl, (hmore.plus _).trim hNN _ _ (le_boundL (by simp))⟩
end Go.Ev
namespace Go.Ev
open Go.Proofs
set_option maxRecDepth 100000
set_option linter.unusedSimpArgs false
/-- what hands over these things, where memory is like this -/
def YieldsF (C : Cfg) (f : FuncId) (cap : List AV) (items : List (List AV)) (F : Heap → Prop) : Prop :=
  ∀ (l : Nat) (S : Type) (hp : S → Heap) (stp : S → List AV → Bool × S) (ok : List AV → Prop) (live : S → Prop) (n : Nat), Src C l S hp stp ok live n → (∀ s, F (hp s)) → (∀ x ∈ items, ok x) →
    ∀ s E, live s → ∃ G, lim C (.call f ([.yld l] ++ cap) ((hp s).plus E)) = some (.ret (.tup []) ((hp (runIt stp items s).2).plus (E ++ G)))
section
variable {C : Cfg} {me : FuncId} {S : Type} {hb : S → Heap} {stp : S → List AV → AExit × S} {lv : S → Prop} {ok : List AV → Prop} {n0 : Nat}
theorem wp_rangeHF {F : Heap → Prop} {f : FuncId} {cap : List AV} {items : List (List AV)} (hy : YieldsF C f cap items F) {g : Operand} {ps : Array Tmp} {asg body : Code} {a : AAct} {H : Heap} {K : Post} (hg : a.eval g = some (.fn (.func f) [] cap))
    (hb : S → Heap) (stp : S → List AV → AExit × S) (lv : S → Prop) (ok : List AV → Prop) {n0 : Nat} (hsz : ∀ s, (hb s).size = n0) (hk : ∀ s, (hb s).lock ≤ n0) (hok : ∀ x ∈ items, ok x ∧ x.length = ps.size)
    (hlv : ∀ s x, lv s → ok x → (stp s x).1 = .normal → lv (stp s x).2)
    (hF : ∀ (s : S) (E : List (Option AObj)), F ((hb s).plus E))
    (hbody : ∀ (L L' : ALoop) s x E, L'.dfr = n0 → lv s → ok x → x.length = ps.size → Wp C me (some (n0 + 1)) asg ⟨a.size, setTmps a.size a.tmps (ps.toList.zip x), []⟩ ((hb s).plus (some .dfr :: some (.loop L) :: E)) (asK C me (n0 + 1) body hb L L' E s (stp s x)))
    (s0 : S) (h0 : lv s0) (hH : H = hb s0)
    (hK : ∀ G, AtK K (foldE stp items s0).1 ⟨a.size, a.tmps, n0 :: a.marks⟩ ((hb (foldE stp items s0).2).plus (some .dfr :: some .dead :: G))) :
    Wp C me none (.rangeFunc g ps asg body) a H K := by
  subst hH
  obtain ⟨G, hG⟩ := hy (n0 + 1) (S × AExit) _ _ _ _ _ (src_range (ps := ps) hsz hk hlv hbody) (fun q => hF q.1 _) hok (s0, .normal) [] ⟨h0, rfl⟩
  rw [run_range, plus_nil, List.nil_append] at hG
  have hcb := callB_yld (C := C) (me := me) (d := none) (l := n0 + 1) (by simp) hG
  generalize hp : foldE stp items s0 = p at hcb hK
  obtain ⟨G', hG'⟩ := trim_plus (H := hpR hb (busyL me a.size a.tmps ps asg body n0) (p.2, p.1)) [] G [.tup []] [] (n := (hpR hb (busyL me a.size a.tmps ps asg body n0) (s0, .normal)).size) (by unfold hpR; rw [plus_size, plus_size, hsz, hsz]; simp)
  rw [List.nil_append] at hG'
  rw [hG', List.nil_append] at hcb
  have hsize := hsz s0
  have hH2 : (hpR hb (busyL me a.size a.tmps ps asg body n0) (p.2, p.1)).plus G' = (hb p.2).plus (some .dfr :: some (.loop (busyL me a.size a.tmps ps asg body n0 (stateOf p.1) (pend p.1))) :: G') := by
    unfold hpR; rw [plus_plus]; rfl
  have hfin : ((hpR hb (busyL me a.size a.tmps ps asg body n0) (p.2, p.1)).plus G').put (n0 + 1) .dead = (hb p.2).plus (some .dfr :: some .dead :: G') := by
    rw [hH2, hput_at (hsz p.2)]
  refine wp_range0 (f := f) (first := []) (cap := cap) hg (v := .tup []) (H2 := (hpR hb (busyL me a.size a.tmps ps asg body n0) (p.2, p.1)).plus G') ?_ (r := busyL me a.size a.tmps ps asg body n0 (stateOf p.1) (pend p.1)) ?_ ?_ ?_ ?_
  · rw [hsize]
    have hh : hpR hb (busyL me a.size a.tmps ps asg body n0) (s0, .normal) = ((hb s0).put n0 .dfr).put (n0 + 1) (.loop { fn := me, state := .ready, pending := none, size := a.size, tmps := a.tmps, params := ps, assign := asg, body := body, dfr := n0 }) := by
      have h1 : (hb s0).put n0 .dfr = (hb s0).plus [some .dfr] := by rw [← hsz s0]; exact put_push _
      have h2 := plus_put_end (hsz s0) [some .dfr] (.loop (busyL me a.size a.tmps ps asg body n0 .ready none))
      rw [h1]
      exact h2.symm
    rw [← hh]; exact hcb
  · rw [hsize, hH2]; exact hget_at (hsz _) _ _
  · unfold busyL stateOf; cases p.1 <;> simp [pend]
  · rw [hsize]; rfl
  · rw [hsize]
    have := hK G'
    rw [← hfin] at this
    obtain ⟨e, s⟩ := p
    cases e with
    | normal => exact this
    | ret => exact this
    | exit i => exact this
end
theorem heap_eq {X Y : Heap} (hs : X.size = Y.size) (hl : X.lock = Y.lock) (hg : ∀ b, X.get b = Y.get b) : X = Y := by
  obtain ⟨l, k⟩ := X
  obtain ⟨l', k'⟩ := Y
  simp only at hl
  subst hl
  have hs : l.length = l'.length := hs
  congr 1
  apply List.ext_getElem?
  intro i
  have h := hg i
  unfold Heap.get at h
  simp only at h
  by_cases hi : i < l.length
  · rw [List.getElem?_eq_getElem hi, List.getElem?_eq_getElem (by omega)] at h ⊢
    simpa using h
  · rw [List.getElem?_eq_none_iff.2 (by omega), List.getElem?_eq_none_iff.2 (by omega)]
/-- memory that is like this up to there is this with something behind -/
theorem heap_tail {X Y : Heap} {E : List (Option AObj)} {n : Nat} (hn : X.size = n) (hl : Y.lock = X.lock) (hs : n + E.length ≤ Y.size) (hg : ∀ b, b < n + E.length → Y.get b = (X.plus E).get b) : ∃ E', E'.length = Y.size - (n + E.length) ∧ Y = X.plus (E ++ E') := by
  refine ⟨Y.objs.drop (n + E.length), by rw [List.length_drop]; rfl, ?_⟩
  have hlen : (Y.objs.drop (n + E.length)).length = Y.size - (n + E.length) := by rw [List.length_drop]; rfl
  refine heap_eq (by rw [plus_size, hn, List.length_append, hlen]; omega) (by rw [plus_lock]; exact hl) fun b => ?_
  by_cases hb : b < n + E.length
  · rw [hg b hb, ← plus_plus X E _, plus_get (H := X.plus E) _ (by rw [plus_size, hn]; exact hb)]
  · rw [← plus_plus X E _, plus_get_hi _ (by rw [plus_size, hn]; omega), plus_size, hn]
    unfold Heap.get
    rw [List.getElem?_drop, show n + E.length + (b - (n + E.length)) = b by omega]
theorem effV_yld {C : Cfg} {me : FuncId} {d : Option Tmp} {l : Nat} {S : Type} {hp : S → Heap} {stp : S → List AV → Bool × S} {ok : List AV → Prop} {live : S → Prop} {n base top : Nat} {cont : AV → Heap → Prop} (hsrc : Src C l S hp stp ok live n) (E0 E1 : List (Option AObj)) (s : S) (x : List AV) (hlv : live s) (hok : ok x)
    (hlk : (hp (stp s x).2).lock = (hp s).lock) (hb : base = n + E0.length) (ht : top = base + E1.length) (hcont : ∀ E', cont (.v (.bool (stp s x).1)) ((hp (stp s x).2).plus (E0 ++ E'))) : effV C me base top d (.yld l) x ((hp s).plus (E0 ++ E1)) cont := by
  refine ⟨rfl, fun Gh h1 h2 h3 => ?_⟩
  have hn := hsrc.size
  have hsz : Gh.size = n + E0.length + E1.length := by rw [h2, plus_size, hn, List.length_append]; omega
  obtain ⟨E', hE, rfl⟩ := heap_tail (X := hp s) (Y := Gh) (E := E0) (hn s) (by rw [h1, plus_lock]) (by omega) fun b hb' => by
    rw [h3 b (Or.inl (by omega)), ← plus_plus (hp s) E0 E1, plus_get _ (by rw [plus_size, hn]; omega)]
  obtain ⟨G, hG⟩ := hsrc.round s x (E0 ++ E') hlv hok
  refine ⟨.v (.bool (stp s x).1), (hp (stp s x).2).plus (E0 ++ E' ++ G), by unfold callX; simp only [hG], ?_, fun G' g1 g2 g3 _ => ?_⟩
  · rw [plus_size, plus_size, hn, hn]; simp only [List.length_append]; omega
  · have hs2 : G'.size = n + (E0 ++ E' ++ G).length := by rw [g2, plus_size, hn]
    obtain ⟨E2, -, rfl⟩ := heap_tail (X := hp (stp s x).2) (Y := G') (E := E0) (hn _) (by rw [g1, plus_lock, hlk]) (by rw [hs2]; simp only [List.length_append]; omega) fun b hb' => by
      rw [g3 b (Or.inl (by omega)), List.append_assoc, ← plus_plus (hp (stp s x).2) E0 (E' ++ G), plus_get _ (by rw [plus_size, hn]; omega)]
    exact hcont E2
end Go.Ev
namespace Go.Ev
open Go.Proofs
set_option maxRecDepth 100000
set_option linter.unusedSimpArgs false
attribute [local irreducible] Wp WpS
/-- memory in which the two texts lie */ -/
def F72 (b1 b2 : Nat) (ch ch2 : AV) (H : Heap) : Prop := H.lock = 0 ∧ H.row b1 0 = some (0, 79, 1, false, [ch]) ∧ H.row b2 0 = some (0, 24, 1, false, [ch2])
theorem F72.plus {b1 b2 : Nat} {ch ch2 : AV} {H : Heap} (h : F72 b1 b2 ch ch2 H) (E : List (Option AObj)) : F72 b1 b2 ch ch2 (H.plus E) := by
  obtain ⟨h0, h1, h2⟩ := h
  exact ⟨h0, by rw [rowLo (get_ltS (row_of_get h1))]; exact h1, by rw [rowLo (get_ltS (row_of_get h2))]; exact h2⟩
/-- what is handed over for a line -/
def pairI (tbf : Nat → Nat → List Int) (xf : Nat → Nat → AV) (x : List AV) : List AV := match x with
  | [.agg [.v (.int q i), .v (.int q' k), z], lx] => [.agg [.v (.int q i), .v (.int q' k), z], .agg (prC lx (xf i.toNat k.toNat) (tbf i.toNat k.toNat))]
  | _ => []
def stp72 (tbf : Nat → Nat → List Int) (xf : Nat → Nat → AV) {S : Type} (stp : S → List AV → Bool × S) (s : S) (x : List AV) : AExit × S := (if (stp s (pairI tbf xf x)).1 then .normal else .ret, (stp s (pairI tbf xf x)).2)
def Ok72 (ok : List AV → Prop) (tbf : Nat → Nat → List Int) (xf : Nat → Nat → AV) (e : Exts) (ch2 : AV) (x : List AV) : Prop := ∃ (i k : Nat) (lx : AV) (a c : Line), x = [placeA i k 0, lx] ∧ SlOf 1 (strs a) lx ∧ SlOf 1 (strs c) (xf i k) ∧ (tbf i k).length = 144 ∧ ok (pairI tbf xf x) ∧
  (∀ (me : FuncId) (d : Option Tmp), callI (Cx e) me 45 d [.agg [ch2], .agg [.v (.int .i64 i), .v (.int .i64 k), .v (.int .i64 0)]] = some (xf i k)) ∧
  ∀ (me : FuncId) (d : Option Tmp), callI (Cx e) me 73 d [lx, xf i k] = some (.agg (prC lx (xf i k) (tbf i k)))
theorem fold72 (tbf : Nat → Nat → List Int) (xf : Nat → Nat → AV) {S : Type} (stp : S → List AV → Bool × S) : ∀ (T : List (List AV)) (s : S), foldE (stp72 tbf xf stp) T s = (if (runIt stp (T.map (pairI tbf xf)) s).1 then .normal else .ret, (runIt stp (T.map (pairI tbf xf)) s).2)
  | [], s => rfl
  | x :: r, s => by
    rw [List.map_cons, runIt_cons]
    have ih := fold72 tbf xf stp r (stp s (pairI tbf xf x)).2
    cases hq : (stp s (pairI tbf xf x)).1 with
    | true =>
      rw [foldE_go (by unfold stp72; simp only [hq, if_true]), if_pos rfl]
      exact ih
    | false =>
      rw [foldE_out (by unfold stp72; simp only [hq]; intro h; cases h)]
      unfold stp72
      simp only [hq, Bool.false_eq_true, if_false]
set_option maxHeartbeats 4000000 in
theorem yields72 {e : Exts} (he : Quiet e) (ch : AV) (xs : List AV) (hch : SlOf 2 xs ch) (hall : ∀ y ∈ xs, OkCh y) (hlen : xs.length < 2 ^ 63) (ch2 : AV) (b1 b2 : Nat) (tbf : Nat → Nat → List Int) (xf : Nat → Nat → AV)
    (hcall : ∀ x ∈ chapIts 0 xs, Ok72 (fun _ => True) tbf xf e ch2 x) : YieldsF (Cx e) 72 [.ptr b1 0 0, .ptr b2 0 0] ((chapIts 0 xs).map (pairI tbf xf)) (F72 b1 b2 ch ch2) := by
  intro l S hp stp ok live n hsrc hF hok s E hlv
  have hn := hsrc.size
  have hlk : ∀ s, (hp s).lock = 0 := fun s => (hF s).1
  have key : Fn' (Cx e) 72 [.yld l, .ptr b1 0 0, .ptr b2 0 0] ((hp s).plus E) fun v H' => v = .tup [] ∧ ∃ G, H' = (hp (runIt stp ((chapIts 0 xs).map (pairI tbf xf)) s).2).plus (E ++ G) := by
    have hN : ((hp s).plus E).size = n + E.length := by rw [plus_size, hn]
    have hlkN : ((hp s).plus E).lock ≤ n + E.length := by rw [plus_lock, hlk]; omega
    generalize hKK : (fun v H' => v = .tup [] ∧ ∃ G, H' = (hp (runIt stp ((chapIts 0 xs).map (pairI tbf xf)) s).2).plus (E ++ G) : PostO) = KK
    have hr1 : ∀ s E, ((hp s).plus E).row b1 0 = some (0, 79, 1, false, [ch]) := fun s E => ((hF s).plus E).2.1
    have hr2 : ∀ s E, ((hp s).plus E).row b2 0 = some (0, 24, 1, false, [ch2]) := fun s E => ((hF s).plus E).2.2
    have hrX : ∀ F, (((hp s).plus E).plus F).row b1 0 = some (0, 79, 1, false, [ch]) := fun F => by rw [plus_plus]; exact hr1 s _
    obtain ⟨X, hX⟩ : ∃ X, (hp s).plus E = X := ⟨_, rfl⟩
    rw [hX] at hN hlkN hrX ⊢
    rw [fn_step (fn_72 e) (show Tryz.f72.body = some _ from rfl), ← plus_nil X]
    simp -implicitDefEqProofs only [Tryz.f72, go_sem, ↓reduceIte, Int.reduceEq, Int.reduceLT, Int.reduceLE, List.reduceReplicate, intA, setT_nil, setT_cons, ↓boolP_bool, ↓iteB_true, ↓iteB_false, sizeP hN, putP0 hN, putP hN, settleP0 hN, settleP hN, rowP0 hN, rowP hN, storeP0 hN hlkN, storeP hN hlkN, List.length_nil, Nat.add_zero, hrX, hch.cells, call64 he ch xs hch]
    subst hX
    refine wp_rangeH (yields88 ch xs hch hall hlen) rfl (fun s => (hp s).plus (E ++ [some (.cells 0 (bound (.yld l)) 123 1 false [.yld l])])) (stp72 tbf xf stp) live (Ok72 ok tbf xf e ch2) (n0 := n + E.length + 1) (fun s => by rw [plus_size, hn]; simp; omega) (fun s => by rw [plus_lock, hlk]; omega) (fun x hx => ?_) (fun s x hl hx h => ?_) ?_ s hlv (by rw [plus_plus]) ?_
    · obtain ⟨i, k, lx, a, c, rfl, h1, h2, h3, -, h5, h6⟩ := hcall x hx
      exact ⟨⟨i, k, lx, a, c, rfl, h1, h2, h3, hok _ (List.mem_map_of_mem hx), h5, h6⟩, rfl⟩
    · obtain ⟨i, k, lx, a, c, rfl, h1, h2, h3, h4, h5, h6⟩ := hx
      refine hsrc.step _ _ hl h4 ?_
      unfold stp72 at h
      simp only at h
      cases hq : (stp s (pairI tbf xf [placeA i k 0, lx])).1 with
      | true => rfl
      | false => rw [hq] at h; cases h
    · rintro L L' s x E' - hl ⟨i, k, lx, a, c, rfl, h1, h2, h3, h4, h5, h6⟩ -
      have hp1 : stp72 tbf xf stp s [placeA i k 0, lx] = (if (stp s (pairI tbf xf [placeA i k 0, lx])).1 then .normal else .ret, (stp s (pairI tbf xf [placeA i k 0, lx])).2) := rfl
      generalize stp72 tbf xf stp s [placeA i k 0, lx] = p72 at hp1 ⊢
      have hN2 : ((hp s).plus (E ++ [some (.cells 0 (bound (.yld l)) 123 1 false [.yld l])] ++ some .dfr :: some (.loop L) :: E')).size = n + E.length + 3 + E'.length := by rw [plus_size, hn]; simp; omega
      have hlk2 : ((hp s).plus (E ++ [some (.cells 0 (bound (.yld l)) 123 1 false [.yld l])] ++ some .dfr :: some (.loop L) :: E')).lock ≤ n + E.length + 3 + E'.length := by rw [plus_lock, hlk]; omega
      rw [plus_plus]
      obtain ⟨X, hX⟩ : ∃ X, (hp s).plus (E ++ [some (.cells 0 (bound (.yld l)) 123 1 false [.yld l])] ++ some .dfr :: some (.loop L) :: E') = X := ⟨_, rfl⟩
      rw [hX] at hN2 hlk2 ⊢
      rw [← plus_nil X]
      simp -implicitDefEqProofs only [go_sem, ↓reduceIte, Int.reduceEq, Int.reduceLT, Int.reduceLE, List.reduceReplicate, intA, setT_nil, setT_cons, ↓boolP_bool, ↓iteB_true, ↓iteB_false, placeA, List.zip_cons_cons, List.zip_nil_right, List.zip_nil_left, sizeP hN2, putP0 hN2, putP hN2, settleP0 hN2, settleP hN2, rowP0 hN2, rowP hN2, storeP0 hN2 hlk2, storeP hN2 hlk2, List.length_nil, Nat.add_zero]
      refine asK_mk [some (.cells 0 0 32 1 false [.v (.int .i64 i), .v (.int .i64 k), .v (.int .i64 0)])] (by rw [← hX, plus_plus, plus_plus]; simp only [List.append_assoc, List.cons_append, List.nil_append]) ?_
      clear hX hN2 hlk2
      have hN3 : ((hp s).plus (E ++ [some (.cells 0 (bound (.yld l)) 123 1 false [.yld l])] ++ some .dfr :: some (.loop L') :: (E' ++ [some (.cells 0 0 32 1 false [.v (.int .i64 i), .v (.int .i64 k), .v (.int .i64 0)])]))).size = n + E.length + 4 + E'.length := by rw [plus_size, hn]; simp; omega
      have hlk3 : ((hp s).plus (E ++ [some (.cells 0 (bound (.yld l)) 123 1 false [.yld l])] ++ some .dfr :: some (.loop L') :: (E' ++ [some (.cells 0 0 32 1 false [.v (.int .i64 i), .v (.int .i64 k), .v (.int .i64 0)])]))).lock ≤ n + E.length + 4 + E'.length := by rw [plus_lock, hlk]; omega
      rw [plus_plus]
      obtain ⟨E0, hE0⟩ : ∃ E0, E ++ [some (.cells 0 (bound (.yld l)) 123 1 false [.yld l])] ++ some .dfr :: some (.loop L') :: (E' ++ [some (.cells 0 0 32 1 false [.v (.int .i64 i), .v (.int .i64 k), .v (.int .i64 0)])]) = E0 := ⟨_, rfl⟩
      have hE0l : E0.length = E.length + 4 + E'.length := by rw [← hE0]; simp; omega
      rw [hE0] at hN3 hlk3 ⊢
      have hrb : ∀ F, ((hp s).plus (E0 ++ F)).row (n + E.length) 0 = some (bound (.yld l), 123, 1, false, [.yld l]) := fun F => by
        refine get_row (v := 0) ?_
        have := plus_mid_get (hn s) E (some .dfr :: some (.loop L') :: (E' ++ [some (.cells 0 0 32 1 false [.v (.int .i64 i), .v (.int .i64 k), .v (.int .i64 0)])]) ++ F) (some (.cells 0 (bound (.yld l)) 123 1 false [.yld l]))
        rw [← hE0]
        simpa using this
      have hrc : ∀ F, ((hp s).plus (E0 ++ F)).row (n + E.length + 3 + E'.length) 0 = some (0, 32, 1, false, [.v (.int .i64 i), .v (.int .i64 k), .v (.int .i64 0)]) := fun F => by
        refine get_row (v := 0) ?_
        have := plus_mid_get (hn s) (E ++ [some (.cells 0 (bound (.yld l)) 123 1 false [.yld l])] ++ some .dfr :: some (.loop L') :: E') F (some (.cells 0 0 32 1 false [.v (.int .i64 i), .v (.int .i64 k), .v (.int .i64 0)]))
        have hlen3 : (E ++ [some (AObj.cells 0 (bound (.yld l)) 123 1 false [.yld l])] ++ some AObj.dfr :: some (AObj.loop L') :: E').length = E.length + 3 + E'.length := by simp; omega
        rw [hlen3, show n + (E.length + 3 + E'.length) = n + E.length + 3 + E'.length by omega] at this
        rw [← hE0]
        simpa using this
      obtain ⟨X, hX⟩ : ∃ X, (hp s).plus E0 = X := ⟨_, rfl⟩
      have hXp : ∀ F, X.plus F = (hp s).plus (E0 ++ F) := fun F => by rw [← hX, plus_plus]
      have hrbX : ∀ F, (X.plus F).row (n + E.length) 0 = some (bound (.yld l), 123, 1, false, [.yld l]) := fun F => by rw [hXp]; exact hrb F
      have hrcX : ∀ F, (X.plus F).row (n + E.length + 3 + E'.length) 0 = some (0, 32, 1, false, [.v (.int .i64 i), .v (.int .i64 k), .v (.int .i64 0)]) := fun F => by rw [hXp]; exact hrc F
      have hr2X : ∀ F, (X.plus F).row b2 0 = some (0, 24, 1, false, [ch2]) := fun F => by rw [hXp]; exact hr2 s _
      have hb2n : b2 < n := by have := get_ltS (row_of_get (hF s).2.2); rwa [hn] at this
      have g1 : ltB (n + E.length) (n + E.length + 4 + E'.length) = true := by unfold ltB; simp; omega
      have g2 : ltB (n + E.length + 3 + E'.length) (n + E.length + 4 + E'.length) = true := by unfold ltB; simp
      have g3 : ltB b2 (n + E.length + 4 + E'.length) = true := by unfold ltB; simp; omega
      rw [hX] at hN3 hlk3 ⊢
      rw [← plus_nil X]
      simp -implicitDefEqProofs only [go_sem, ↓reduceIte, Int.reduceEq, Int.reduceLT, Int.reduceLE, List.reduceReplicate, intA, setT_nil, setT_cons, ↓boolP_bool, ↓iteB_true, ↓iteB_false, sizeP hN3, putP0 hN3, putP hN3, settleP0 hN3, settleP hN3, rowP0 hN3, rowP hN3, storeP0 hN3 hlk3, storeP hN3 hlk3, List.length_nil, Nat.add_zero]
      refine wp_drawX [([], [], false), ([0], [], false), ([], [], false), ([0, 1], [], false), ([], [], false), ([0, 1, 3], [], false), ([0, 1], [], false), ([0, 1], [], false), ([], [], true), ([], [], false)] (by kernel_rfl) (by kernel_rfl) ?_
      simp -implicitDefEqProofs only [go_sem, ↓reduceIte, Int.reduceEq, Int.reduceLT, Int.reduceLE, List.reduceReplicate, intA, setT_nil, setT_cons, ↓boolP_bool, ↓iteB_true, ↓iteB_false, hrbX, hrcX, hr2X, g1, g2, g3, h5, h6, List.isEmpty_nil, sizeP hN3, putP0 hN3, putP hN3, settleP0 hN3, settleP hN3, rowP0 hN3, rowP hN3, storeP0 hN3 hlk3, storeP hN3 hlk3, List.length_nil, Nat.add_zero]
      rw [hXp]
      show effV _ _ _ _ _ _ (pairI tbf xf [placeA i k 0, lx]) _ _
      refine effV_yld hsrc E0 _ s _ hl h4 ((hlk _).trans (hlk _).symm) (by omega) rfl fun E'' => ?_
      show AtO (contP _ _ _ _ _ _ _ _ _ _ _) _ _
      obtain ⟨G3, hS⟩ := settle_plus (H := hp (stp s (pairI tbf xf [placeA i k 0, lx])).2) E0 E'' (n := n + E.length + 4 + E'.length) (by rw [hn]; omega)
      rw [hp1]
      have hfin : ∀ F, (hp (stp s (pairI tbf xf [placeA i k 0, lx])).2).plus (E0 ++ F) = ((hp (stp s (pairI tbf xf [placeA i k 0, lx])).2).plus (E ++ [some (.cells 0 (bound (.yld l)) 123 1 false [.yld l])])).plus (some .dfr :: some (.loop L') :: (E' ++ (some (.cells 0 0 32 1 false [.v (.int .i64 i), .v (.int .i64 k), .v (.int .i64 0)]) :: F))) := fun F => by rw [← hE0, plus_plus]; simp
      generalize stp s (pairI tbf xf [placeA i k 0, lx]) = r at hS hfin ⊢
      obtain ⟨rb, rs⟩ := r
      simp only at hS hfin
      cases rb
      · simp -implicitDefEqProofs only [go_sem, ↓reduceIte, Int.reduceEq, Int.reduceLT, Int.reduceLE, List.reduceReplicate, intA, setT_nil, setT_cons, ↓boolP_bool, ↓iteB_true, ↓iteB_false, hS, rngK_at]
        exact ⟨some (.cells 0 0 32 1 false [.v (.int .i64 i), .v (.int .i64 k), .v (.int .i64 0)]) :: G3, by rw [hfin, plus_plus]⟩
      · simp -implicitDefEqProofs only [go_sem, ↓reduceIte, Int.reduceEq, Int.reduceLT, Int.reduceLE, List.reduceReplicate, intA, setT_nil, setT_cons, ↓boolP_bool, ↓iteB_true, ↓iteB_false, hS, rngK_at]
        exact ⟨some (.cells 0 0 32 1 false [.v (.int .i64 i), .v (.int .i64 k), .v (.int .i64 0)]) :: G3, by rw [hfin, plus_plus]⟩
    · intro G
      rw [fold72]
      generalize hr : runIt stp ((chapIts 0 xs).map (pairI tbf xf)) s = r at hKK ⊢
      simp only
      have hend : ∃ G2, killAll [n + E.length + 1] ((hp r.2).plus (E ++ [some (.cells 0 (bound (.yld l)) 123 1 false [.yld l])] ++ some .dfr :: some .dead :: G)) = some ((hp r.2).plus (E ++ G2)) := by
        have h1 := plus_mid_get (hn r.2) (E ++ [some (.cells 0 (bound (.yld l)) 123 1 false [.yld l])]) (some .dead :: G) (some .dfr)
        have h2 := plus_mid_put (hn r.2) (E ++ [some (.cells 0 (bound (.yld l)) 123 1 false [.yld l])]) (some .dead :: G) (some .dfr) .dead
        rw [show n + (E ++ [some (AObj.cells 0 (bound (.yld l)) 123 1 false [.yld l])]).length = n + E.length + 1 by simp; omega] at h1 h2
        unfold killAll
        rw [h1]
        simp only
        rw [if_pos (by rw [plus_lock, hlk]; omega), h2]
        exact ⟨some (.cells 0 (bound (.yld l)) 123 1 false [.yld l]) :: some .dead :: some .dead :: G, by unfold killAll; simp⟩
      obtain ⟨G2, hkill⟩ := hend
      subst hKK
      cases hb : r.1 with
      | true =>
        simp -implicitDefEqProofs only [go_sem, ↓reduceIte, Int.reduceEq, Int.reduceLT, Int.reduceLE, List.reduceReplicate, intA, setT_nil, setT_cons, ↓boolP_bool, ↓iteB_true, ↓iteB_false, hkill]
        exact ⟨rfl, G2, rfl⟩
      | false =>
        simp -implicitDefEqProofs only [go_sem, ↓reduceIte, Int.reduceEq, Int.reduceLT, Int.reduceLE, List.reduceReplicate, intA, setT_nil, setT_cons, ↓boolP_bool, ↓iteB_true, ↓iteB_false, hkill]
        exact ⟨rfl, G2, rfl⟩
  obtain ⟨v, H', h1, h2⟩ : ∃ v H', lim (Cx e) (.call 72 ([.yld l] ++ [.ptr b1 0 0, .ptr b2 0 0]) ((hp s).plus E)) = some (.ret v H') ∧ (v = .tup [] ∧ ∃ G, H' = (hp (runIt stp ((chapIts 0 xs).map (pairI tbf xf)) s).2).plus (E ++ G)) := by
    unfold Fn' at key
    rw [bindO_iff] at key
    obtain ⟨o, h1, h2⟩ := key
    cases o with
    | ret v H' => exact ⟨v, H', h1, h2⟩
    | _ => exact h2.elim
  obtain ⟨rfl, G, rfl⟩ := h2
  exact ⟨G, h1⟩
end Go.Ev
namespace Go.Ev
open Go.Proofs
set_option maxRecDepth 100000
set_option linter.unusedSimpArgs false
attribute [local irreducible] Wp WpS
theorem ans71 {e : Exts} (p q : Chap) (l l' : AV) (lxs lxs' : List AV) (h : SlOf 1 lxs l) (h' : SlOf 1 lxs' l') (h1 : lxs.length = p.2.length) (h2 : lxs'.length = q.2.length) : Ans (Cx e) 71 [.agg [intA p.1, l], .agg [intA q.1, l']] (.v (.bool (decide (p.1 = q.1) && decide (p.2.length = q.2.length)))) := by
  unfold Ans
  rw [fn_step (fn_71 e) (show Tryz.f71.body = some _ from rfl)]
  cases k1 : decide (p.1 = q.1)
  · simp -implicitDefEqProofs only [Tryz.f71, go_sem, ↓reduceIte, Int.reduceEq, Int.reduceLT, Int.reduceLE, List.reduceReplicate, intA, setT_nil, setT_cons, ↓boolP_bool, ↓iteB_true, ↓iteB_false, h.cells, h'.cells, h.flat, h'.flat, h.bound, h'.bound, k1]
  · have k2 : decide ((p.2.length : Int) = (q.2.length : Int)) = decide (p.2.length = q.2.length) := by
      by_cases hh : p.2.length = q.2.length
      · rw [hh]; simp
      · rw [decide_eq_false hh, decide_eq_false (by omega)]
    simp -implicitDefEqProofs only [Tryz.f71, go_sem, ↓reduceIte, Int.reduceEq, Int.reduceLT, Int.reduceLE, List.reduceReplicate, intA, setT_nil, setT_cons, ↓boolP_bool, ↓iteB_true, ↓iteB_false, h.cells, h'.cells, h.flat, h'.flat, h.bound, h'.bound, k1, h.len, h'.len, h1, h2, k2]
theorem impure_70 (e : Exts) (h : FuncId) (d : Option Tmp) : (Cx e).pure h 70 d = false := by simp [Cx, pureF, impF]
theorem impure_52 (e : Exts) (h : FuncId) (d : Option Tmp) : (Cx e).pure h 52 d = false := by simp [Cx, pureF, impF]
set_option maxHeartbeats 4000000 in
theorem call70 {e : Exts} (he : Quiet e) (X : Heap) (hlk : X.lock ≤ X.size) (t u : Txt) (ht : Fits t) (ch ch' : AV) (xs xs' : List AV) (hch : SlOf 2 xs ch) (hall : All2 ChapA t xs) (hch' : SlOf 2 xs' ch') (hall' : All2 ChapA u xs') (me : FuncId) (d : Option Tmp) :
    ∃ F, callA (Cx e) (lim (Cx e)) me 70 d [ch, ch', .fn (.func 71) [] []] X = some (.v (.bool (alikeB t u)), X.plus F) := by
  refine callA_rawE (ext_70 he) (impure_70 _ _ _) ?_
  have hfit := ht.chs
  obtain ⟨N, hN⟩ : ∃ N, X.size = N := ⟨_, rfl⟩
  have hlkN : X.lock ≤ N := by omega
  have hdone : ∀ (b : Bool) E, b = alikeB t u → AtO (rawE X (.v (.bool (alikeB t u))) X) (.v (.bool b)) (X.plus E) := by
    rintro b E rfl; exact rawE_at hN hN E _ _ rfl
  generalize rawE X (.v (.bool (alikeB t u))) X = KK at hdone ⊢
  rw [fn_step (fn_70 e) (show Tryz.f70.body = some _ from rfl), ← plus_nil X]
  by_cases hl : t.length = u.length
  · have hli : ((t.length : Int) = (u.length : Int)) := by omega
    simp -implicitDefEqProofs only [Tryz.f70, go_sem, ↓reduceIte, Int.reduceEq, Int.reduceLT, Int.reduceLE, List.reduceReplicate, intA, setT_nil, setT_cons, ↓boolP_bool, ↓iteB_true, ↓iteB_false, hch.len, hch'.len, ← hall.1, ← hall'.1, hli, sizeP hN, settleP0 hN, settleP hN, List.length_nil, Nat.add_zero]
    rw [← hli]
    refine Lp_rule (P := fun μ a' H => ∃ (j : Nat) (E : List (Option AObj)), j + μ = t.length ∧ a' = ⟨32, [(0, ch), (1, ch'), (2, .fn (.func 71) [] []), (6, .v (.bool false)), (14, .v (.bool false)), (15, ch), (16, intA t.length), (17, intA j)], []⟩ ∧ H = X.plus E ∧ alikeB t u = decide (shapeT (t.drop j) = shapeT (u.drop j))) ?_ t.length _ _ ⟨0, [], by omega, rfl, rfl, rfl⟩
    rintro μ _ _ ⟨j, E, hj, rfl, rfl, ho⟩
    have hN1 : (X.plus E).size = N + E.length := sizeP hN E
    have hlk1 : (X.plus E).lock ≤ N + E.length := by rw [plus_lock]; omega
    have htr : ∀ F vs ms, ∃ G, ((X.plus E).plus F).trim (N + E.length) vs ms = X.plus G := fun F vs ms => by
      obtain ⟨G, hG⟩ := trim_plus (H := X) E F vs ms (n := N + E.length) (by rw [hN])
      exact ⟨E ++ G, by rw [plus_plus, hG]⟩
    obtain ⟨Y, hY⟩ : ∃ Y, X.plus E = Y := ⟨_, rfl⟩
    have hYp : ∀ F, Y.plus F = X.plus (E ++ F) := fun F => by rw [← hY, plus_plus]
    rw [hY] at hN1 hlk1 htr ⊢
    rw [← plus_nil Y]
    by_cases hlt : (j : Int) < (t.length : Int)
    · obtain ⟨c, hs⟩ := at_lt t j (by omega)
      obtain ⟨c', hs'⟩ := at_lt u j (by omega)
      obtain ⟨z, hz, l, rfl, lxs, hll, hls⟩ := hall.get hs
      obtain ⟨z', hz', l', rfl, lxs', hll', hls'⟩ := hall'.get hs'
      have hw := wrap_succ j (by omega)
      rw [drop_eq_cons hs, drop_eq_cons hs'] at ho
      have hi := hch.idx hz
      have hi' := hch'.idx hz'
      have h71 : ∀ me d H, callA (Cx e) (lim (Cx e)) me 71 d [.agg [intA c.1, l], .agg [intA c'.1, l']] H = some (.v (.bool (decide (c.1 = c'.1) && decide (c.2.length = c'.2.length))), H) := fun me d H =>
        (ans71 (e := e) c c' l l' lxs lxs' hll hll' hls.1.symm hls'.1.symm).call (ext_71 he) (pure_71 _ _ _) (by simp only [boundL_cons, bound_agg, hll.bound, hll'.bound, intA, bound_v, boundL_nil]; rfl) H
      unfold intA at hi hi' h71
      cases k : (decide (c.1 = c'.1) && decide (c.2.length = c'.2.length))
      · rw [k] at h71
        have h0 : false = alikeB t u := by
          rw [ho]
          have : ¬ (c.1 = c'.1 ∧ c.2.length = c'.2.length) := fun hh => by rw [hh.1, hh.2] at k; simp at k
          exact (decide_eq_false (fun hh => this (by simpa [shapeT] using (List.cons.inj hh).1))).symm
        simp -implicitDefEqProofs only [go_sem, ↓reduceIte, Int.reduceEq, Int.reduceLT, Int.reduceLE, List.reduceReplicate, intA, setT_nil, setT_cons, ↓boolP_bool, ↓iteB_true, ↓iteB_false, hlt, hw, hi, hi', hll.cells, hll'.cells, hll.flat, hll'.flat, h71, sizeP hN1, putP0 hN1, putP hN1, settleP0 hN1, settleP hN1, rowP0 hN1, rowP hN1, storeP0 hN1 hlk1, storeP hN1 hlk1, List.length_nil, Nat.add_zero]
        rw [hYp]
        exact hdone _ _ h0
      · rw [k] at h71
        simp only [Bool.and_eq_true, decide_eq_true_eq] at k
        simp -implicitDefEqProofs only [go_sem, ↓reduceIte, Int.reduceEq, Int.reduceLT, Int.reduceLE, List.reduceReplicate, intA, setT_nil, setT_cons, ↓boolP_bool, ↓iteB_true, ↓iteB_false, hlt, hw, hi, hi', hll.cells, hll'.cells, hll.flat, hll'.flat, h71, sizeP hN1, putP0 hN1, putP hN1, settleP0 hN1, settleP hN1, rowP0 hN1, rowP hN1, storeP0 hN1 hlk1, storeP hN1 hlk1, List.length_nil, Nat.add_zero]
        obtain ⟨G, hG⟩ := htr _ _ []
        exact ⟨μ - 1, by omega, j + 1, G, by omega, rfl, hG, by rw [ho]; simp [shapeT, k.1, k.2]⟩
    · have hd : true = alikeB t u := by rw [ho, show t.drop j = [] from List.drop_eq_nil_of_le (by omega), show u.drop j = [] from List.drop_eq_nil_of_le (by omega)]; rfl
      simp -implicitDefEqProofs only [go_sem, ↓reduceIte, Int.reduceEq, Int.reduceLT, Int.reduceLE, List.reduceReplicate, intA, setT_nil, setT_cons, ↓boolP_bool, ↓iteB_true, ↓iteB_false, hlt, sizeP hN1, settleP0 hN1, settleP hN1, List.length_nil, Nat.add_zero]
      obtain ⟨G, hG⟩ := htr [] _ []
      rw [hG]
      exact hdone _ _ hd
  · have hli : ¬ ((t.length : Int) = (u.length : Int)) := by omega
    have hne : false = alikeB t u := by unfold alikeB; exact (decide_eq_false (fun h => hl (by simpa [shapeT] using congrArg List.length h))).symm
    simp -implicitDefEqProofs only [Tryz.f70, go_sem, ↓reduceIte, Int.reduceEq, Int.reduceLT, Int.reduceLE, List.reduceReplicate, intA, setT_nil, setT_cons, ↓boolP_bool, ↓iteB_true, ↓iteB_false, hch.len, hch'.len, ← hall.1, ← hall'.1, hli, sizeP hN, settleP0 hN, settleP hN, List.length_nil, Nat.add_zero]
    exact hdone _ _ hne
set_option maxHeartbeats 4000000 in
theorem call52 {e : Exts} (he : Quiet e) (X : Heap) (N : Nat) (hN : X.size = N) (ch ch' : AV) (xs xs' : List AV) (hch : SlOf 2 xs ch) (hch' : SlOf 2 xs' ch') (me : FuncId) (d : Option Tmp) :
    ∃ F, callA (Cx e) (lim (Cx e)) me 52 d [.agg [ch], .agg [ch']] X = some (.fn (.func 72) [] [.ptr N 0 0, .ptr (N + 1) 0 0], (X.plus [some (.cells 0 0 79 1 false [ch]), some (.cells 0 0 24 1 false [ch'])]).plus F) := by
  refine callA_rawE (ext_52 he) (impure_52 _ _ _) ?_
  rw [fn_step (fn_52 e) (show Tryz.f52.body = some _ from rfl)]
  generalize hKK : rawE X (.fn (.func 72) [] [.ptr N 0 0, .ptr (N + 1) 0 0]) (X.plus [some (.cells 0 0 79 1 false [ch]), some (.cells 0 0 24 1 false [ch'])]) = KK
  rw [← plus_nil X]
  simp -implicitDefEqProofs only [Tryz.f52, go_sem, ↓reduceIte, Int.reduceEq, Int.reduceLT, Int.reduceLE, List.reduceReplicate, intA, setT_nil, setT_cons, ↓boolP_bool, ↓iteB_true, ↓iteB_false, hch.cells, hch.flat, hch.bound, hch'.cells, hch'.flat, hch'.bound, sizeP hN, putP0 hN, putP hN, settleP0 hN, settleP hN, List.length_nil, Nat.add_zero]
  rw [← hKK]
  exact rawE_far0 hN _ _ rfl (by have h1 : bound (.fn (Fn.func 72) [] [AV.ptr N 0 0, AV.ptr (N + 1) 0 0]) = Nat.max 0 (Nat.max (N + 1) (Nat.max (N + 1 + 1) 0)) := rfl; rw [h1]; exact Nat.lt_of_lt_of_le (Nat.lt_succ_self N) (Nat.le_trans (Nat.le_max_left _ _) (Nat.le_max_right _ _)))
set_option maxHeartbeats 4000000 in
theorem ans50 {e : Exts} (he : Quiet e) (t u : Txt) (ht : Fits t) (hu : Fits u) (ch ch' : AV) (xs xs' : List AV) (hch : SlOf 2 xs ch) (hall : All2 ChapA t xs) (hch' : SlOf 2 xs' ch') (hall' : All2 ChapA u xs') (h1 : textB t = true) (h2 : textB u = true) (h3 : alikeB t u = true) :
    Ans (Cx e) 50 [.agg [ch], .agg [ch']] (.tup [.agg [ch], intA 0]) := by
  have h62 := call62 he t ht _ ⟨ch, rfl, xs, hch, hall⟩
  have h62' := call62 he u hu _ ⟨ch', rfl, xs', hch', hall'⟩
  rw [h1] at h62
  rw [h2] at h62'
  obtain ⟨F, h70⟩ := call70 he ⟨[some (.cells 0 0 24 1 false [ch]), some (.cells 0 0 24 1 false [ch']), some (.cells 0 0 79 1 false [.v (.slice none 0 0)])], 0⟩ (Nat.zero_le _) t u ht ch ch' xs xs' hch hall hch' hall' 50 (some 20)
  rw [h3] at h70
  unfold Ans
  rw [fn_step (fn_50 e) (show Tryz.f50.body = some _ from rfl)]
  cases hF : F.all Option.isNone
  · simp -implicitDefEqProofs only [Tryz.f50, go_sem, ↓reduceIte, Int.reduceEq, Int.reduceLT, Int.reduceLE, List.reduceReplicate, intA, setT_nil, setT_cons, ↓boolP_bool, ↓iteB_true, ↓iteB_false, hch.cells, hch.flat, hch.bound, hch'.cells, hch'.flat, hch'.bound, h62, h62', h70, Heap.plus, hF]
    rcases hch with ⟨rfl, -⟩ | ⟨cap, rfl⟩ <;> rfl
  · simp -implicitDefEqProofs only [Tryz.f50, go_sem, ↓reduceIte, Int.reduceEq, Int.reduceLT, Int.reduceLE, List.reduceReplicate, intA, setT_nil, setT_cons, ↓boolP_bool, ↓iteB_true, ↓iteB_false, hch.cells, hch.flat, hch.bound, hch'.cells, hch'.flat, hch'.bound, h62, h62', h70, Heap.plus, hF]
    rcases hch with ⟨rfl, -⟩ | ⟨cap, rfl⟩ <;> rfl
end Go.Ev
namespace Go.Ev
open Go.Proofs
set_option maxRecDepth 100000
set_option linter.unusedSimpArgs false
attribute [local irreducible] Wp WpS
/-! ### how far texts are apart, line by line -/
def dT : Txt → Txt → List Nat
  | p :: t, q :: u => List.zipWith distL p.2 q.2 ++ dT t u
  | _, _ => []
theorem apartC_sum : ∀ (l m : List Line), apartC l m = (List.zipWith distL l m).sum
  | [], _ => by rw [apartC]; rfl; all_goals (intros; simp at *)
  | _ :: _, [] => by rw [apartC]; rfl; all_goals (intros; simp at *)
  | a :: l, c :: m => by rw [apartC, List.zipWith_cons_cons, List.sum_cons, apartC_sum l m]
theorem apartT_sum : ∀ (t u : Txt), apartT t u = (dT t u).sum
  | [], _ => by rw [apartT, dT]; rfl; all_goals (intros; simp at *)
  | _ :: _, [] => by rw [apartT, dT]; rfl; all_goals (intros; simp at *)
  | p :: t, q :: u => by rw [apartT, dT, List.sum_append, apartC_sum, apartT_sum t u]
/-- the first number of a table that is handed over -/
def d00 (x : List AV) : Int := match x with
  | [_, .agg (_ :: _ :: .v (.int _ v) :: _)] => v
  | _ => 0
theorem d00_pair (p lx ly : AV) {tb : List Int} (h : tb.length = 144) : d00 [p, .agg (prC lx ly tb)] = atT tb 0 0 := by
  match tb, h with
  | v :: r, _ => rfl
/-- what is known of each line -/
def Lin (t u : Txt) (xs : List AV) (e : Exts) (ch2 : AV) (i k : Nat) (p : AV × List Int) : Prop := ∀ y z, xs[i]? = some y → (linesOf y)[k]? = some z → ∃ (cp cq : Chap) (a c : Line), t[i]? = some cp ∧ u[i]? = some cq ∧ cp.2[k]? = some a ∧ cq.2[k]? = some c ∧ SlOf 1 (strs a) z ∧ SlOf 1 (strs c) p.1 ∧ TabOK a c p.2 (-1) 0 ∧
  (∀ (me : FuncId) (d : Option Tmp), callI (Cx e) me 45 d [.agg [ch2], .agg [.v (.int .i64 i), .v (.int .i64 k), .v (.int .i64 0)]] = some p.1) ∧
  ∀ (me : FuncId) (d : Option Tmp), callI (Cx e) me 73 d [z, p.1] = some (.agg (prC z p.1 p.2))
theorem alike_get {t u : Txt} (h : alikeB t u = true) {i : Nat} {p : Chap} (hp : t[i]? = some p) : ∃ q, u[i]? = some q ∧ p.1 = q.1 ∧ p.2.length = q.2.length := by
  have h1 := of_decide_eq_true h
  have h2 := congrArg (fun l => l[i]?) h1
  simp only [shapeT, List.getElem?_map, hp, Option.map_some] at h2
  cases hq : u[i]? with
  | none => rw [hq] at h2; cases h2
  | some q => rw [hq] at h2; simp at h2; exact ⟨q, rfl, h2.1, h2.2⟩
theorem lin_of {e : Exts} (he : Quiet e) (t u : Txt) (hst : Small t) (hsu : Small u) (hu : Fits u) (ch' : AV) (xs xs' : List AV) (hall : All2 ChapA t xs) (hch' : SlOf 2 xs' ch') (hall' : All2 ChapA u xs') (h3 : alikeB t u = true) (i k : Nat) : ∃ p, Lin t u xs e ch' i k p := by
  cases hy : xs[i]? with
  | none => exact ⟨(ch', []), fun y z h => by rw [hy] at h; cases h⟩
  | some y =>
    cases hz : (linesOf y)[k]? with
    | none => exact ⟨(ch', []), fun y' z h1 h2 => by rw [hy] at h1; cases h1; rw [hz] at h2; cases h2⟩
    | some z =>
      obtain ⟨cp, hcp⟩ := at_lt t i (by rw [hall.1]; exact (List.getElem?_eq_some_iff.1 hy).1)
      obtain ⟨y', hy', l, rfl, lxs, hl, hls⟩ := hall.get hcp
      rw [hy] at hy'
      cases hy'
      have hlo : linesOf (.agg [intA cp.1, l]) = lxs := hl.elems
      have hz' := hz
      rw [hlo] at hz'
      obtain ⟨a, ha⟩ := at_lt cp.2 k (by rw [hls.1]; exact (List.getElem?_eq_some_iff.1 hz').1)
      have hla : SlOf 1 (strs a) z := hls.2 k a z ha hz'
      obtain ⟨cq, hcq, -, hlen⟩ := alike_get h3 hcp
      obtain ⟨c, hc⟩ := at_lt cq.2 k (by rw [← hlen]; exact (List.getElem?_eq_some_iff.1 ha).1)
      obtain ⟨x, hx, -, h45⟩ := call45 he u hu ch' xs' hch' hall' i k 0
      rw [lineAt_nat hcq hc] at hx
      have hx : SlOf 1 (strs c) x := hx
      have hla10 := (hst.words cp (List.mem_of_getElem? hcp) a (List.mem_of_getElem? ha)).2
      have hlc10 := (hsu.words cq (List.mem_of_getElem? hcq) c (List.mem_of_getElem? hc)).2
      obtain ⟨tb, hT, h73⟩ := ans73 he a c z x hla hx hla10 hlc10
      refine ⟨(x, tb), fun y' z' g1 g2 => ?_⟩
      rw [hy] at g1
      cases g1
      rw [hz] at g2
      cases g2
      exact ⟨cp, cq, a, c, hcp, hcq, ha, hc, hla, hx, hT, h45, fun me d => h73.callI (ext_73 he) (pure_73 _ _ _) (by simp only [boundL_cons, hla.bound, hx.bound, boundL_nil]; rfl)⟩
/-- what is handed over, line by line, tells the distances -/
theorem dists_map (g : List AV → Int) (t u : Txt) (xs : List AV) (hall : All2 ChapA t xs) (h3 : alikeB t u = true)
    (hg : ∀ (i k : Nat) (y z : AV) (cp cq : Chap) (a c : Line), xs[i]? = some y → (linesOf y)[k]? = some z → t[i]? = some cp → u[i]? = some cq → cp.2[k]? = some a → cq.2[k]? = some c → g [placeA i k 0, z] = (distL a c : Int)) :
    (chapIts 0 xs).map g = (dT t u).map fun n : Nat => (n : Int) := by
  have key : ∀ (n i : Nat), i + n = t.length → (chapIts i (xs.drop i)).map g = (dT (t.drop i) (u.drop i)).map fun n : Nat => (n : Int) := by
    intro n
    induction n with
    | zero =>
      intro i hi
      rw [show xs.drop i = [] from List.drop_eq_nil_of_le (by rw [← hall.1]; omega), show t.drop i = [] from List.drop_eq_nil_of_le (by omega)]
      rw [dT]; rfl; all_goals (intros; simp at *)
    | succ n ih =>
      intro i hi
      obtain ⟨cp, hcp⟩ := at_lt t i (by omega)
      obtain ⟨y, hy, l, rfl, lxs, hl, hls⟩ := hall.get hcp
      obtain ⟨cq, hcq, -, hlen⟩ := alike_get h3 hcp
      have hlo : linesOf (.agg [intA cp.1, l]) = lxs := hl.elems
      rw [chapIts_drop xs i _ hy, drop_eq_cons hcp, drop_eq_cons hcq, dT, List.map_append, List.map_append, ih (i + 1) (by omega), hlo]
      congr 1
      apply List.ext_getElem?
      intro k
      have hk0 : (lineIts i 0 lxs)[k]? = (lxs[k]?).map fun z => [placeA i k 0, z] := by
        have : ∀ (zs : List AV) (m k : Nat), (lineIts i m zs)[k]? = (zs[k]?).map fun z => [placeA i (m + k) 0, z] := by
          intro zs
          induction zs with
          | nil => intro m k; rfl
          | cons z zs ih =>
            intro m k
            cases k with
            | zero => rfl
            | succ k =>
              show (lineIts i (m + 1) zs)[k]? = _
              rw [ih, List.getElem?_cons_succ, show m + 1 + k = m + (k + 1) by omega]
        have h := this lxs 0 k
        rwa [Nat.zero_add] at h
      rw [List.getElem?_map, hk0, List.getElem?_map, List.getElem?_zipWith]
      cases hz : lxs[k]? with
      | none =>
        have : cp.2[k]? = none := List.getElem?_eq_none_iff.2 (by rw [hls.1]; exact List.getElem?_eq_none_iff.1 hz)
        rw [this]; rfl
      | some z =>
        have hkl := (List.getElem?_eq_some_iff.1 hz).1
        obtain ⟨a, ha⟩ := at_lt cp.2 k (by rw [hls.1]; exact hkl)
        obtain ⟨c, hc⟩ := at_lt cq.2 k (by rw [← hlen, hls.1]; exact hkl)
        rw [ha, hc]
        simp only [Option.map_some]
        rw [hg i k _ z cp cq a c hy (by rw [hlo]; exact hz) hcp hcq ha hc]
  have := key t.length 0 (by omega)
  simpa using this
end Go.Ev
namespace Go.Ev
open Go.Proofs
set_option maxRecDepth 100000
set_option linter.unusedSimpArgs false
attribute [local irreducible] Wp WpS
def stA (s : Int) (x : List AV) : AExit × Int := (.normal, IntKind.i64.wrap (s + d00 x))
theorem foldA : ∀ (T : List (List AV)) (s : Int), foldE stA T s = (.normal, (T.map d00).foldl (fun s d => IntKind.i64.wrap (s + d)) s)
  | [], s => rfl
  | x :: r, s => by rw [foldE_go rfl, foldA r]; rfl
theorem sumA : ∀ (l : List Nat) (s : Nat), s + l.sum < 2 ^ 62 → (l.map fun n : Nat => (n : Int)).foldl (fun s d => IntKind.i64.wrap (s + d)) (s : Int) = ((s + l.sum : Nat) : Int)
  | [], s, _ => by simp
  | x :: r, s, h => by
    rw [List.sum_cons] at h ⊢
    rw [List.map_cons, List.foldl_cons, wrap_in _ (by omega) (by omega), show (s : Int) + (x : Int) = ((s + x : Nat) : Int) by omega, sumA r (s + x) (by omega), Nat.add_assoc]
theorem zip_sum : ∀ (l m : List Line), (∀ a ∈ l, a.length ≤ 10) → (∀ a ∈ m, a.length ≤ 10) → (List.zipWith distL l m).sum ≤ 20 * l.length
  | [], _, _, _ => Nat.zero_le _
  | _ :: _, [], _, _ => Nat.zero_le _
  | a :: l, c :: m, h1, h2 => by
    have h := zip_sum l m (fun x hx => h1 x (List.mem_cons_of_mem _ hx)) (fun x hx => h2 x (List.mem_cons_of_mem _ hx))
    have h3 := dist_sum a c
    have h4 := h1 a (List.mem_cons_self ..)
    have h5 := h2 c (List.mem_cons_self ..)
    rw [List.zipWith_cons_cons, List.sum_cons, List.length_cons]; omega
theorem dT_sum : ∀ (t u : Txt), (∀ c ∈ t, c.2.length ≤ 10 ∧ ∀ l ∈ c.2, l.length ≤ 10) → (∀ c ∈ u, c.2.length ≤ 10 ∧ ∀ l ∈ c.2, l.length ≤ 10) → (dT t u).sum ≤ 200 * t.length
  | [], _, _, _ => by rw [dT]; exact Nat.zero_le _; all_goals (intros; simp at *)
  | _ :: _, [], _, _ => by rw [dT]; exact Nat.zero_le _; all_goals (intros; simp at *)
  | p :: t, q :: u, h1, h2 => by
    have h := dT_sum t u (fun x hx => h1 x (List.mem_cons_of_mem _ hx)) (fun x hx => h2 x (List.mem_cons_of_mem _ hx))
    have h3 := h1 p (List.mem_cons_self ..)
    have h4 := h2 q (List.mem_cons_self ..)
    have h5 := zip_sum p.2 q.2 h3.2 h4.2
    rw [dT, List.sum_append, List.length_cons]; omega
theorem apart_small {t u : Txt} (ht : Small t) (hu : Small u) : apartT t u ≤ 1200 := by
  have h := dT_sum t u (fun c hc => ⟨(ht.lines c hc).2, fun l hl => (ht.words c hc l hl).2⟩) (fun c hc => ⟨(hu.lines c hc).2, fun l hl => (hu.words c hc l hl).2⟩)
  have := ht.chs
  rw [apartT_sum]; omega
def PrI (x : List AV) : Prop := ∃ p lx ly tb, x = [p, .agg (prC lx ly tb)] ∧ tb.length = 144 ∧ (prC lx ly tb).all AV.flat = true ∧ boundL (prC lx ly tb) = 0
set_option maxHeartbeats 8000000 in
theorem ans23 {e : Exts} (he : Quiet e) (t u : Txt) (ht : Fits t) (hu : Fits u) (ch ch' : AV) (xs xs' : List AV) (hch : SlOf 2 xs ch) (hall : All2 ChapA t xs) (hch' : SlOf 2 xs' ch') (hall' : All2 ChapA u xs') (h1 : textB t = true) (h2 : textB u = true) (h3 : alikeB t u = true) :
    Ans (Cx e) 23 [.agg [ch], .agg [ch']] (.tup [intA (apartT t u), intA 0]) := by
  have hst := small_of h1
  have hsu := small_of h2
  have h50 : ∀ (me : FuncId) (d : Option Tmp) (H : Heap), callA (Cx e) (lim (Cx e)) me 50 d [.agg [ch], .agg [ch']] H = some (.tup [.agg [ch], .v (.int .i64 0)], H) := fun me d H =>
    (ans50 he t u ht hu ch ch' xs xs' hch hall hch' hall' h1 h2 h3).call (ext_50 he) (pure_50 _ _ _) (by simp only [boundL_cons, bound_agg, hch.bound, hch'.bound, boundL_nil]; rfl) H
  obtain ⟨F, h52⟩ := call52 he ⟨[some (.cells 0 0 24 1 false [ch]), some (.cells 0 0 24 1 false [ch']), some (.cells 0 0 79 1 false [ch]), some (.cells 0 0 3 1 false [.v (.int .i64 0)])], 0⟩ 4 rfl ch ch' xs xs' hch hch' 23 (some 22)
  obtain ⟨pf, hpf⟩ : ∃ pf : Nat → Nat → AV × List Int, ∀ i k, Lin t u xs e ch' i k (pf i k) := ⟨fun i k => Classical.choose (lin_of he t u hst hsu hu ch' xs xs' hall hch' hall' h3 i k), fun i k => Classical.choose_spec (lin_of he t u hst hsu hu ch' xs xs' hall hch' hall' h3 i k)⟩
  have hxl : xs.length < 2 ^ 63 := by rw [← hall.1]; exact ht.chs
  have hline : ∀ x ∈ chapIts 0 xs, ∃ (i k : Nat) (y z : AV), xs[i]? = some y ∧ (linesOf y)[k]? = some z ∧ x = [placeA i k 0, z] := fun x hx => by
    obtain ⟨i, y, j, z, h4, h5, rfl⟩ := chapIts_of xs 0 x hx
    exact ⟨i, j, y, z, h4, h5, by rw [Nat.zero_add]⟩
  have hpair : ∀ (i k : Nat) (z : AV), pairI (fun i k => (pf i k).2) (fun i k => (pf i k).1) [placeA i k 0, z] = [placeA i k 0, .agg (prC z (pf i k).1 (pf i k).2)] := fun i k z => rfl
  have hy := yields72 he ch xs hch (fun y hy => (okCh2_of ht hall y hy).ok) hxl ch' 4 5 (fun i k => (pf i k).2) (fun i k => (pf i k).1) (fun x hx => by
    obtain ⟨i, k, y, z, h4, h5, rfl⟩ := hline x hx
    obtain ⟨cp, cq, a, c, -, -, -, -, g1, g2, g3, g4, g5⟩ := hpf i k y z h4 h5
    exact ⟨i, k, z, a, c, rfl, g1, g2, g3.len, trivial, g4, g5⟩)
  have hitems : ∀ x ∈ (chapIts 0 xs).map (pairI (fun i k => (pf i k).2) (fun i k => (pf i k).1)), PrI x ∧ x.length = 2 := fun x hx => by
    obtain ⟨w, hw, rfl⟩ := List.mem_map.1 hx
    obtain ⟨i, k, y, z, h4, h5, rfl⟩ := hline w hw
    obtain ⟨cp, cq, a, c, -, -, -, -, g1, g2, g3, g4, g5⟩ := hpf i k y z h4 h5
    rw [hpair]
    exact ⟨⟨_, _, _, _, rfl, g3.len, prC_cells _ _ _ g1.flat g2.flat, prC_bound g1 g2 _⟩, rfl⟩
  have hdist : ((chapIts 0 xs).map (pairI (fun i k => (pf i k).2) (fun i k => (pf i k).1))).map d00 = (dT t u).map fun n : Nat => (n : Int) := by
    rw [List.map_map]
    refine dists_map _ t u xs hall h3 fun i k y z cp cq a c h4 h5 e1 e2 e3 e4 => ?_
    obtain ⟨cp', cq', a', c', f1, f2, f3, f4, g1, g2, g3, g4, g5⟩ := hpf i k y z h4 h5
    rw [e1] at f1
    cases f1
    rw [e2] at f2
    cases f2
    rw [e3] at f3
    cases f3
    rw [e4] at f4
    cases f4
    show d00 (pairI _ _ [placeA i k 0, z]) = _
    rw [hpair, d00_pair _ _ _ g3.len, g3.full (by omega) (by omega)]
    unfold fullT
    rw [if_pos ⟨Nat.zero_le _, Nat.zero_le _⟩, List.drop_zero, List.drop_zero]
  have hsmall := apart_small hst hsu
  have hres : (((chapIts 0 xs).map (pairI (fun i k => (pf i k).2) (fun i k => (pf i k).1))).map d00).foldl (fun s d => IntKind.i64.wrap (s + d)) 0 = (apartT t u : Int) := by
    rw [hdist, apartT_sum]
    have := sumA (dT t u) 0 (by rw [← apartT_sum]; omega)
    rw [Nat.zero_add] at this
    exact this
  generalize (chapIts 0 xs).map (pairI (fun i k => (pf i k).2) (fun i k => (pf i k).1)) = items at hy hitems hres
  clear hpf hpair hdist hline
  unfold Ans
  rw [fn_step (fn_23 e) (show Tryz.f23.body = some _ from rfl)]
  simp -implicitDefEqProofs only [Tryz.f23, go_sem, ↓reduceIte, Int.reduceEq, Int.reduceLT, Int.reduceLE, List.reduceReplicate, intA, setT_nil, setT_cons, ↓boolP_bool, ↓iteB_true, ↓iteB_false, hch.cells, hch.flat, hch.bound, hch'.cells, hch'.flat, hch'.bound, h50, h52, Heap.plus, Option.isNone_some]
  refine wp_rangeHF hy rfl (fun s : Int => ⟨some (.cells 0 0 24 1 false [ch]) :: some (.cells 0 0 24 1 false [ch']) :: some (.cells 0 0 79 1 false [ch]) :: some (.cells 0 0 3 1 false [.v (.int .i64 s)]) :: some (.cells 0 0 79 1 false [ch]) :: some (.cells 0 0 24 1 false [ch']) :: F, 0⟩) stA (fun _ => True) PrI (n0 := F.length + 6) (fun s => rfl) (fun s => Nat.zero_le _) hitems (fun _ _ _ _ _ => trivial) (fun s E => ⟨rfl, rfl, rfl⟩) ?_ 0 trivial rfl ?_
  · rintro L L' s x E - - ⟨p, lx, ly, tb, rfl, hlen, hfl, hbo⟩ -
    have hp1 : stA s [p, .agg (prC lx ly tb)] = (.normal, IntKind.i64.wrap (s + atT tb 0 0)) := by unfold stA; rw [d00_pair _ _ _ hlen]
    rw [hp1]
    have f0 := prC_cells (.v (.slice none 0 0)) (.v (.slice none 0 0)) zT rfl rfl
    have n0 : (prC (.v (.slice none 0 0)) (.v (.slice none 0 0)) zT).length = 146 := by rw [prC_len]; rfl
    have n1 : (prC lx ly tb).length = 146 := by rw [prC_len, hlen]
    have d0 : (prC (.v (.slice none 0 0)) (.v (.slice none 0 0)) zT).drop 146 = [] := List.drop_of_length_le (by omega)
    have r0 : ∀ b v k m, arIdx 12 m (.ptr b v k) (.v (.int .i64 0)) = some (.ptr b v k) := fun b v k m => by
      have := arP b v k 12 m 0 (by omega)
      rw [Nat.zero_mul, Nat.add_zero] at this; exact this
    have p0 : (prC lx ly tb)[2]? = some (.v (.int .i64 (atT tb 0 0))) := prT lx ly hlen (i := 0) (j := 0) (by omega) (by omega)
    have hsz : ∀ (s : Int) (L : ALoop), ((⟨some (.cells 0 0 24 1 false [ch]) :: some (.cells 0 0 24 1 false [ch']) :: some (.cells 0 0 79 1 false [ch]) :: some (.cells 0 0 3 1 false [.v (.int .i64 s)]) :: some (.cells 0 0 79 1 false [ch]) :: some (.cells 0 0 24 1 false [ch']) :: F, 0⟩ : Heap).plus (some .dfr :: some (.loop L) :: E)).size = F.length + 8 + E.length := fun s L => by rw [plus_size]; show F.length + 6 + (E.length + 2) = _; omega
    obtain ⟨X, hX⟩ : ∃ X, (⟨some (.cells 0 0 24 1 false [ch]) :: some (.cells 0 0 24 1 false [ch']) :: some (.cells 0 0 79 1 false [ch]) :: some (.cells 0 0 3 1 false [.v (.int .i64 s)]) :: some (.cells 0 0 79 1 false [ch]) :: some (.cells 0 0 24 1 false [ch']) :: F, 0⟩ : Heap).plus (some .dfr :: some (.loop L) :: E) = X := ⟨_, rfl⟩
    have hN : X.size = F.length + 8 + E.length := by rw [← hX]; exact hsz s L
    have hlk : X.lock ≤ F.length + 8 + E.length := by rw [← hX]; exact Nat.zero_le _
    rw [hX, ← plus_nil X]
    simp -implicitDefEqProofs only [go_sem, ↓reduceIte, Int.reduceEq, Int.reduceLT, Int.reduceLE, List.reduceReplicate, intA, setT_nil, setT_cons, ↓boolP_bool, ↓iteB_true, ↓iteB_false, List.zip_cons_cons, List.zip_nil_right, List.zip_nil_left, zero104, f0, n0, n1, d0, hfl, hbo, sizeP hN, putP0 hN, putP hN, settleP0 hN, settleP hN, rowP0 hN, rowP hN, storeP0 hN hlk, storeP hN hlk, List.length_nil, Nat.add_zero]
    refine asK_mk [some (.cells 0 0 104 1 false (prC lx ly tb))] (by rw [← hX, plus_plus]; simp only [List.cons_append]) ?_
    clear hX hN hlk
    obtain ⟨Z, hZ⟩ : ∃ Z, (⟨some (.cells 0 0 24 1 false [ch]) :: some (.cells 0 0 24 1 false [ch']) :: some (.cells 0 0 79 1 false [ch]) :: some (.cells 0 0 3 1 false [.v (.int .i64 s)]) :: some (.cells 0 0 79 1 false [ch]) :: some (.cells 0 0 24 1 false [ch']) :: F, 0⟩ : Heap).plus (some .dfr :: some (.loop L') :: E) = Z := ⟨_, rfl⟩
    obtain ⟨Z2, hZ2⟩ : ∃ Z, (⟨some (.cells 0 0 24 1 false [ch]) :: some (.cells 0 0 24 1 false [ch']) :: some (.cells 0 0 79 1 false [ch]) :: some (.cells 0 0 3 1 false [.v (.int .i64 (IntKind.i64.wrap (s + atT tb 0 0)))]) :: some (.cells 0 0 79 1 false [ch]) :: some (.cells 0 0 24 1 false [ch']) :: F, 0⟩ : Heap).plus (some .dfr :: some (.loop L') :: E) = Z := ⟨_, rfl⟩
    have hN : Z.size = F.length + 8 + E.length := by rw [← hZ]; exact hsz s L'
    have hlk : Z.lock ≤ F.length + 8 + E.length := by rw [← hZ]; exact Nat.zero_le _
    have hN2 : Z2.size = F.length + 8 + E.length := by rw [← hZ2]; exact hsz _ L'
    have hr3 : ∀ G, (Z.plus G).row 3 0 = some (0, 3, 1, false, [.v (.int .i64 s)]) := fun G => by rw [← hZ]; rfl
    have hs3 : ∀ G, storeCells (Z.plus G) 3 0 0 [.v (.int .i64 (IntKind.i64.wrap (s + atT tb 0 0)))] = some (Z2.plus G) := fun G => by rw [← hZ, ← hZ2]; rfl
    have hZp : (⟨some (.cells 0 0 24 1 false [ch]) :: some (.cells 0 0 24 1 false [ch']) :: some (.cells 0 0 79 1 false [ch]) :: some (.cells 0 0 3 1 false [.v (.int .i64 s)]) :: some (.cells 0 0 79 1 false [ch]) :: some (.cells 0 0 24 1 false [ch']) :: F, 0⟩ : Heap).plus (some .dfr :: some (.loop L') :: (E ++ [some (.cells 0 0 104 1 false (prC lx ly tb))])) = Z.plus [some (.cells 0 0 104 1 false (prC lx ly tb))] := by rw [← hZ, plus_plus]; simp only [List.cons_append]
    rw [hZp]
    simp -implicitDefEqProofs only [go_sem, ↓reduceIte, Int.reduceEq, Int.reduceLT, Int.reduceLE, List.reduceReplicate, intA, setT_nil, setT_cons, ↓boolP_bool, ↓iteB_true, ↓iteB_false, hr3, hs3, r0, p0, Nat.zero_add, sizeP hN, putP0 hN, putP hN, settleP0 hN, settleP hN, rowP0 hN, rowP hN, storeP0 hN hlk, storeP hN hlk, sizeP hN2, settleP0 hN2, settleP hN2, List.length_nil, Nat.add_zero, rngK_at]
    exact ⟨[some (.cells 0 0 104 1 false (prC lx ly tb))], by rw [← hZ2]; simp [Heap.plus]⟩
  · intro G
    rw [foldA, hres]
    have hkill : ∀ s : Int, killAll [F.length + 6] ((⟨some (.cells 0 0 24 1 false [ch]) :: some (.cells 0 0 24 1 false [ch']) :: some (.cells 0 0 79 1 false [ch]) :: some (.cells 0 0 3 1 false [.v (.int .i64 s)]) :: some (.cells 0 0 79 1 false [ch]) :: some (.cells 0 0 24 1 false [ch']) :: F, 0⟩ : Heap).plus (some .dfr :: some .dead :: G)) = some ((⟨some (.cells 0 0 24 1 false [ch]) :: some (.cells 0 0 24 1 false [ch']) :: some (.cells 0 0 79 1 false [ch]) :: some (.cells 0 0 3 1 false [.v (.int .i64 s)]) :: some (.cells 0 0 79 1 false [ch]) :: some (.cells 0 0 24 1 false [ch']) :: F, 0⟩ : Heap).plus (some .dead :: some .dead :: G)) := fun s => by
      have hn : (⟨some (.cells 0 0 24 1 false [ch]) :: some (.cells 0 0 24 1 false [ch']) :: some (.cells 0 0 79 1 false [ch]) :: some (.cells 0 0 3 1 false [.v (.int .i64 s)]) :: some (.cells 0 0 79 1 false [ch]) :: some (.cells 0 0 24 1 false [ch']) :: F, 0⟩ : Heap).size = F.length + 6 := rfl
      have g1 := plus_mid_get hn [] (some .dead :: G) (some .dfr)
      have g2 := plus_mid_put hn [] (some .dead :: G) (some .dfr) .dead
      simp only [List.length_nil, Nat.add_zero, List.nil_append] at g1 g2
      unfold killAll
      rw [g1]
      simp only
      rw [if_pos (by show 0 ≤ F.length + 6; exact Nat.zero_le _), g2]
      unfold killAll; rfl
    have hk := hkill (apartT t u)
    have hr3 : ∀ (s : Int) H, (⟨some (.cells 0 0 24 1 false [ch]) :: some (.cells 0 0 24 1 false [ch']) :: some (.cells 0 0 79 1 false [ch]) :: some (.cells 0 0 3 1 false [.v (.int .i64 s)]) :: some (.cells 0 0 79 1 false [ch]) :: some (.cells 0 0 24 1 false [ch']) :: F, 0⟩ : Heap).plus H = ⟨some (.cells 0 0 24 1 false [ch]) :: some (.cells 0 0 24 1 false [ch']) :: some (.cells 0 0 79 1 false [ch]) :: some (.cells 0 0 3 1 false [.v (.int .i64 s)]) :: some (.cells 0 0 79 1 false [ch]) :: some (.cells 0 0 24 1 false [ch']) :: (F ++ H), 0⟩ := fun s H => rfl
    rw [hr3] at hk ⊢
    rw [hr3] at hk
    simp -implicitDefEqProofs only [go_sem, ↓reduceIte, Int.reduceEq, Int.reduceLT, Int.reduceLE, List.reduceReplicate, intA, setT_nil, setT_cons, ↓boolP_bool, ↓iteB_true, ↓iteB_false, hk]
    rfl
end Go.Ev
namespace Go.Ev
open Go.Proofs
set_option maxRecDepth 100000
set_option linter.unusedSimpArgs false
attribute [local irreducible] Wp WpS
theorem callI31 {e : Exts} (he : Quiet e) (a b : AV) (xs ys : List ByteArray) (ha : SlOf 1 (strs xs) a) (hb : SlOf 1 (strs ys) b) (hn : xs.length < 2 ^ 63) (me : FuncId) (d : Option Tmp) : callI (Cx e) me 31 d [a, b] = some (.v (.bool (decide (xs = ys)))) := by
  have hbd : boundL [a, b] = 0 := by simp only [boundL_cons, ha.bound, hb.bound, boundL_nil]; rfl
  refine callI_of (fun H => callP31 he a b xs ys (Or.inl ha) hb hn me d) (Or.inr ?_)
  unfold callKind; rw [pure_31, hbd]; rfl
def base27 (ch ch' : AV) : Fm := [(0, .cells 0 0 24 1 false [ch]), (1, .cells 0 0 24 1 false [ch'])]
theorem stay27 (ch ch' : AV) : Stay 2 (base27 ch ch') := by
  intro p hp
  unfold base27 at hp
  simp only [List.mem_cons, List.not_mem_nil, or_false] at hp
  rcases hp with rfl | rfl <;> exact ⟨by simp, by simp⟩
theorem base27_of (ch ch' : AV) : Has (base27 ch ch') ⟨[some (.cells 0 0 24 1 false [ch]), some (.cells 0 0 24 1 false [ch'])], 0⟩ := by
  intro p hp
  unfold base27 at hp
  simp only [List.mem_cons, List.not_mem_nil, or_false] at hp
  rcases hp with rfl | rfl <;> rfl
set_option maxHeartbeats 8000000 in
theorem ans27 {e : Exts} (he : Quiet e) (t u : Txt) (ht : Fits t) (hu : Fits u) (ch ch' : AV) (xs xs' : List AV) (hch : SlOf 2 xs ch) (hall : All2 ChapA t xs) (hch' : SlOf 2 xs' ch') (hall' : All2 ChapA u xs') :
    Ans (Cx e) 27 [.agg [ch], .agg [ch']] (.v (.bool (decide (t = u)))) := by
  have hfit := ht.chs
  have hfit' := hu.chs
  unfold Ans
  rw [fn_step (fn_27 e) (show Tryz.f27.body = some _ from rfl)]
  by_cases hl : t.length = u.length
  · have hli : ((t.length : Int) = (u.length : Int)) := by omega
    simp -implicitDefEqProofs only [Tryz.f27, go_sem, ↓reduceIte, Int.reduceEq, Int.reduceLT, Int.reduceLE, List.reduceReplicate, intA, setT_nil, setT_cons, ↓boolP_bool, ↓iteB_true, ↓iteB_false, hch.len, hch.cells, hch.flat, hch.bound, hch'.len, hch'.cells, hch'.flat, hch'.bound, ← hall.1, ← hall'.1, hli]
    refine Lp_rule (P := fun μ a' H => ∃ k, k + μ = t.length ∧ a' = ⟨66, [(0, .agg [ch]), (1, .agg [ch']), (2, .ptr 0 0 0), (3, .ptr 1 0 0), (4, .v (.bool false)), (15, .v (.bool false)), (5, intA k)], []⟩ ∧ MB 2 (base27 ch ch') H [] (.v (.slice none 0 0)) ∧ decide (t = u) = decide (t.drop k = u.drop k)) ?_ t.length _ _ ⟨0, by omega, rfl, ⟨rfl, Nat.le_refl _, base27_of ch ch', Or.inl ⟨rfl, rfl⟩⟩, rfl⟩
    rintro μ _ X ⟨k, hk, rfl, hM, ho⟩
    obtain ⟨N, hN⟩ : ∃ N, X.size = N := ⟨_, rfl⟩
    have hlk : X.lock ≤ N := by rw [hM.lock]; omega
    have hN2 : 2 ≤ N := by have := hM.size; omega
    have hr0 := hM.row (b := 0) (v := 0) (m := 0) (e := 24) (sz := 1) (g := false) (cs := [ch]) (by simp [base27])
    have hr1 := hM.row (b := 1) (v := 0) (m := 0) (e := 24) (sz := 1) (g := false) (cs := [ch']) (by simp [base27])
    rw [← plus_nil X]
    by_cases hlt : (k : Int) < (t.length : Int)
    · obtain ⟨c, hs⟩ := at_lt t k (by omega)
      obtain ⟨c', hs'⟩ := at_lt u k (by omega)
      obtain ⟨z, hz, l, rfl, lxs, hll, hls⟩ := hall.get hs
      obtain ⟨z', hz', l', rfl, lxs', hll', hls'⟩ := hall'.get hs'
      have hw := wrap_succ k (by omega)
      rw [drop_eq_cons hs, drop_eq_cons hs'] at ho
      have hi := hch.idx hz
      have hi' := hch'.idx hz'
      unfold intA at hi hi'
      have g0 : ltB 0 N = true := by unfold ltB; simp; omega
      have g1 : ltB 1 N = true := by unfold ltB; simp; omega
      simp -implicitDefEqProofs only [go_sem, ↓reduceIte, Int.reduceEq, Int.reduceLT, Int.reduceLE, List.reduceReplicate, intA, setT_nil, setT_cons, ↓boolP_bool, ↓iteB_true, ↓iteB_false, hr0, hr1, hch.len, hch.cells, ← hall.1, hlt, sizeP hN, putP0 hN, putP hN, settleP0 hN, settleP hN, rowP0 hN, rowP hN, storeP0 hN hlk, storeP hN hlk, List.length_nil, Nat.add_zero]
      refine wp_drawX [([], [], false), ([], [], false), ([], [], false), ([], [], false), ([], [], false), ([], [], false), ([1, 4], [], false), ([], [], false), ([], [], false), ([1, 4], [], false), ([1, 4, 6, 9], [], false), ([1, 4, 6, 9, 10], [], false), ([6, 9], [10, 11], false), ([], [10, 11], false)] (by kernel_rfl) (by kernel_rfl) ?_
      have b1 : ((1 : Nat) == N + 10) = false := by simp
      have b2 : ((0 : Nat) == N + 10) = false := by simp
      have b3 : ((1 : Nat) == N + 11) = false := by simp
      have b4 : ((0 : Nat) == N + 11) = false := by simp
      have hne : ¬ (c.1 = c'.1 ∧ c.2.length = c'.2.length) → false = decide (t = u) := fun hh => by
        rw [ho]
        exact (decide_eq_false (fun h => hh (by rw [(List.cons.inj h).1]; exact ⟨rfl, rfl⟩))).symm
      cases k1 : decide (c.1 = c'.1)
      · simp -implicitDefEqProofs only [go_sem, ↓reduceIte, Int.reduceEq, Int.reduceLT, Int.reduceLE, List.reduceReplicate, intA, setT_nil, setT_cons, ↓boolP_bool, ↓iteB_true, ↓iteB_false, k1, hr0, hr1, g0, g1, b1, b2, b3, b4, hch.len, hch'.len, hch.cells, hch'.cells, hi, hi', hch.objs, hch'.objs, hll.cells, hll'.cells, hll.flat, hll'.flat, hll.bound, hll'.bound, hll.len, hll'.len, ← hls.1, ← hls'.1, sizeP hN, putP0 hN, putP hN, settleP0 hN, settleP hN, rowP0 hN, rowP hN, storeP0 hN hlk, storeP hN hlk, List.length_nil, Nat.add_zero]
        rw [← hne (fun hh => of_decide_eq_false k1 hh.1)]
      cases k2 : decide ((c.2.length : Int) = (c'.2.length : Int))
      · simp -implicitDefEqProofs only [go_sem, ↓reduceIte, Int.reduceEq, Int.reduceLT, Int.reduceLE, List.reduceReplicate, intA, setT_nil, setT_cons, ↓boolP_bool, ↓iteB_true, ↓iteB_false, k1, k2, hr0, hr1, g0, g1, b1, b2, b3, b4, hch.len, hch'.len, hch.cells, hch'.cells, hi, hi', hch.objs, hch'.objs, hll.cells, hll'.cells, hll.flat, hll'.flat, hll.bound, hll'.bound, hll.len, hll'.len, ← hls.1, ← hls'.1, sizeP hN, putP0 hN, putP hN, settleP0 hN, settleP hN, rowP0 hN, rowP hN, storeP0 hN hlk, storeP hN hlk, List.length_nil, Nat.add_zero]
        rw [← hne (fun hh => of_decide_eq_false k2 (by rw [hh.2]))]
      have hid := of_decide_eq_true k1
      have hln : c.2.length = c'.2.length := by have := of_decide_eq_true k2; omega
      simp -implicitDefEqProofs only [go_sem, ↓reduceIte, Int.reduceEq, Int.reduceLT, Int.reduceLE, List.reduceReplicate, intA, setT_nil, setT_cons, ↓boolP_bool, ↓iteB_true, ↓iteB_false, k1, k2, hr0, hr1, g0, g1, b1, b2, b3, b4, hch.len, hch'.len, hch.cells, hch'.cells, hi, hi', hch.objs, hch'.objs, hll.cells, hll'.cells, hll.flat, hll'.flat, hll.bound, hll'.bound, hll.len, hll'.len, ← hls.1, ← hls'.1, sizeP hN, putP0 hN, putP hN, settleP0 hN, settleP hN, rowP0 hN, rowP hN, storeP0 hN hlk, storeP hN hlk, List.length_nil, Nat.add_zero]
      have hcm := List.mem_of_getElem? hs
      have hll63 := ht.lines c hcm
      have hcut : decide (t = u) = decide (c.2 = c'.2 ∧ t.drop (k + 1) = u.drop (k + 1)) := by
        rw [ho, decide_eq_decide]
        constructor
        · intro h; exact ⟨by rw [(List.cons.inj h).1], (List.cons.inj h).2⟩
        · intro h
          rw [h.2]
          have : c = c' := by
            obtain ⟨ci, cl⟩ := c
            obtain ⟨ci', cl'⟩ := c'
            have h1 : ci = ci' := hid
            have h2 : cl = cl' := h.1
            rw [h1, h2]
          rw [this]
      have hS4 : Stay (N + 12) (base27 ch ch' ++ [(N + 10, .cells 0 0 46 1 false [.v (.int .i64 c.1), l]), (N + 11, .cells 0 0 46 1 false [.v (.int .i64 c'.1), l'])]) := by
        intro p hp
        rcases List.mem_append.1 hp with hp | hp
        · exact ⟨by have := (stay27 ch ch' p hp).1; omega, (stay27 ch ch' p hp).2⟩
        · simp only [List.mem_cons, List.not_mem_nil, or_false] at hp
          rcases hp with rfl | rfl <;> exact ⟨by simp, by simp⟩
      refine Lp_rule (P := fun μ a' H => ∃ n, n + μ = c.2.length ∧ a' = ⟨66, [(0, .agg [ch]), (1, .agg [ch']), (2, .ptr 0 0 0), (3, .ptr 1 0 0), (4, .v (.bool false)), (15, .v (.bool false)), (5, intA k), (20, .v (.bool true)), (6, .ptr (N + 10) 0 0), (7, .ptr (N + 11) 0 0), (46, .v (.bool false)), (8, intA n)], []⟩ ∧ MB (N + 12) (base27 ch ch' ++ [(N + 10, .cells 0 0 46 1 false [.v (.int .i64 c.1), l]), (N + 11, .cells 0 0 46 1 false [.v (.int .i64 c'.1), l'])]) H [] (.v (.slice none 0 0)) ∧ decide (t = u) = decide (c.2.drop n = c'.2.drop n ∧ t.drop (k + 1) = u.drop (k + 1))) ?_ c.2.length _ _ ⟨0, by omega, rfl, ⟨hM.lock, by rw [plus_size, hN]; simp, fun p hp => ?_, Or.inl ⟨rfl, rfl⟩⟩, hcut⟩
      · rintro μ2 _ Y ⟨n, hn, rfl, hM2, ho2⟩
        obtain ⟨N4, hN4⟩ : ∃ N, Y.size = N := ⟨_, rfl⟩
        have hlk4 : Y.lock ≤ N4 := by rw [hM2.lock]; omega
        have hB4 : N + 12 ≤ N4 := by have := hM2.size; omega
        have ra := hM2.row (b := N + 10) (v := 0) (m := 0) (e := 46) (sz := 1) (g := false) (cs := [.v (.int .i64 c.1), l]) (by simp)
        have rb := hM2.row (b := N + 11) (v := 0) (m := 0) (e := 46) (sz := 1) (g := false) (cs := [.v (.int .i64 c'.1), l']) (by simp)
        have ga : ltB (N + 10) N4 = true := by unfold ltB; simp; omega
        have gb : ltB (N + 11) N4 = true := by unfold ltB; simp; omega
        rw [← plus_nil Y]
        by_cases hltn : (n : Int) < (c.2.length : Int)
        · obtain ⟨a, ha⟩ := at_lt c.2 n (by omega)
          obtain ⟨b, hb⟩ := at_lt c'.2 n (by omega)
          obtain ⟨ax, hax, hA⟩ := hls.get ha
          obtain ⟨bx, hbx, hB⟩ := hls'.get hb
          have hA : SlOf 1 (strs a) ax := hA
          have hB : SlOf 1 (strs b) bx := hB
          have hia := hll.idx hax
          have hib := hll'.idx hbx
          have hwn := wrap_succ n (by omega)
          have hc31 := callI31 he ax bx a b hA hB (ht.words c hcm a (List.mem_of_getElem? ha))
          rw [drop_eq_cons ha, drop_eq_cons hb] at ho2
          simp -implicitDefEqProofs only [go_sem, ↓reduceIte, Int.reduceEq, Int.reduceLT, Int.reduceLE, List.reduceReplicate, intA, setT_nil, setT_cons, ↓boolP_bool, ↓iteB_true, ↓iteB_false, ra, hll.len, hll.cells, ← hls.1, hltn, sizeP hN4, putP0 hN4, putP hN4, settleP0 hN4, settleP hN4, rowP0 hN4, rowP hN4, storeP0 hN4 hlk4, storeP hN4 hlk4, List.length_nil, Nat.add_zero]
          refine wp_drawX [([], [], false), ([], [], false), ([], [], false), ([], [], false), ([], [], false), ([], [], false), ([1, 4], [], false), ([], [], false), ([], [], false), ([1, 4], [], false), ([], [], false), ([], [], false)] (by kernel_rfl) (by kernel_rfl) ?_
          cases kk : decide (a = b)
          · rw [kk] at hc31
            have h0 : decide (t = u) = false := by
              rw [ho2]
              exact decide_eq_false fun h => of_decide_eq_false kk (List.cons.inj h.1).1
            simp -implicitDefEqProofs only [go_sem, ↓reduceIte, Int.reduceEq, Int.reduceLT, Int.reduceLE, List.reduceReplicate, intA, setT_nil, setT_cons, ↓boolP_bool, ↓iteB_true, ↓iteB_false, ra, rb, ga, gb, hia, hib, hA.cells, hB.cells, hA.flat, hB.flat, hll.objs, hll'.objs, hll.cells, hll'.cells, hc31, hwn, sizeP hN4, putP0 hN4, putP hN4, settleP0 hN4, settleP hN4, rowP0 hN4, rowP hN4, storeP0 hN4 hlk4, storeP hN4 hlk4, List.length_nil, Nat.add_zero]
            rw [h0]
          · rw [kk] at hc31
            have hab := of_decide_eq_true kk
            simp -implicitDefEqProofs only [go_sem, ↓reduceIte, Int.reduceEq, Int.reduceLT, Int.reduceLE, List.reduceReplicate, intA, setT_nil, setT_cons, ↓boolP_bool, ↓iteB_true, ↓iteB_false, ra, rb, ga, gb, hia, hib, hA.cells, hB.cells, hA.flat, hB.flat, hll.objs, hll'.objs, hll.cells, hll'.cells, hc31, hwn, sizeP hN4, putP0 hN4, putP hN4, settleP0 hN4, settleP hN4, rowP0 hN4, rowP hN4, storeP0 hN4 hlk4, storeP hN4 hlk4, List.length_nil, Nat.add_zero]
            exact ⟨μ2 - 1, by omega, n + 1, by omega, rfl, (hM2.plus _).trim hS4 hB4 _ _ (Nat.zero_le _), by rw [ho2, hab, decide_eq_decide]; simp⟩
        · have hfin : decide (t = u) = decide (t.drop (k + 1) = u.drop (k + 1)) := by
            rw [ho2, show c.2.drop n = [] from List.drop_eq_nil_of_le (by omega), show c'.2.drop n = [] from List.drop_eq_nil_of_le (by omega), decide_eq_decide]; simp
          simp -implicitDefEqProofs only [go_sem, ↓reduceIte, Int.reduceEq, Int.reduceLT, Int.reduceLE, List.reduceReplicate, intA, setT_nil, setT_cons, ↓boolP_bool, ↓iteB_true, ↓iteB_false, ra, hll.len, hll.cells, ← hls.1, hltn, hw, sizeP hN4, putP0 hN4, putP hN4, settleP0 hN4, settleP hN4, rowP0 hN4, rowP hN4, storeP0 hN4 hlk4, storeP hN4 hlk4, List.length_nil, Nat.add_zero]
          exact ⟨μ - 1, by omega, k + 1, by omega, rfl, (((hM2.plus []).trim hS4 hB4 _ _ (Nat.zero_le _)).sub (by omega) (fun p hp => List.mem_append_left _ hp)).trim (stay27 ch ch') hN2 _ _ (Nat.zero_le _), hfin⟩
      · rcases List.mem_append.1 hp with hp | hp
        · exact hM.base.plus _ p hp
        · simp only [List.mem_cons, List.not_mem_nil, or_false] at hp
          rcases hp with rfl | rfl
          · rw [plus_get_hi _ (by omega), hN, show N + 10 - N = 10 by omega]; rfl
          · rw [plus_get_hi _ (by omega), hN, show N + 11 - N = 11 by omega]; rfl
    · have hd : decide (t = u) = true := by rw [ho, show t.drop k = [] from List.drop_eq_nil_of_le (by omega), show u.drop k = [] from List.drop_eq_nil_of_le (by omega)]; rfl
      simp -implicitDefEqProofs only [go_sem, ↓reduceIte, Int.reduceEq, Int.reduceLT, Int.reduceLE, List.reduceReplicate, intA, setT_nil, setT_cons, ↓boolP_bool, ↓iteB_true, ↓iteB_false, hr0, hr1, hch.len, hch.cells, ← hall.1, hlt, sizeP hN, settleP0 hN, settleP hN, List.length_nil, Nat.add_zero]
      rw [hd]
  · have hli : ¬ ((t.length : Int) = (u.length : Int)) := by omega
    have hne : decide (t = u) = false := decide_eq_false (fun h => hl (by rw [h]))
    simp -implicitDefEqProofs only [Tryz.f27, go_sem, ↓reduceIte, Int.reduceEq, Int.reduceLT, Int.reduceLE, List.reduceReplicate, intA, setT_nil, setT_cons, ↓boolP_bool, ↓iteB_true, ↓iteB_false, hch.len, hch.cells, hch.flat, hch.bound, hch'.len, hch'.cells, hch'.flat, hch'.bound, ← hall.1, ← hall'.1, hli]
    rw [hne]
end Go.Ev
namespace Go.Ev
open Go.Proofs
set_option maxRecDepth 100000
set_option linter.unusedSimpArgs false
/-! ### how far texts are apart: the laws -/
theorem apartC_zero : ∀ (l m : List Line), l.length = m.length → (apartC l m = 0 ↔ l = m)
  | [], [], _ => by rw [apartC]; simp; all_goals (intros; simp at *)
  | a :: l, c :: m, h => by
    have h1 := apartC_zero l m (by simpa using h)
    have h2 := dist_zero a c
    rw [apartC, List.cons.injEq]
    constructor
    · intro h; exact ⟨h2.1 (by omega), h1.1 (by omega)⟩
    · intro h; have := h2.2 h.1; have := h1.2 h.2; omega
theorem apartT_zero : ∀ (t u : Txt), shapeT t = shapeT u → (apartT t u = 0 ↔ t = u)
  | [], [], _ => by rw [apartT]; simp; all_goals (intros; simp at *)
  | p :: t, q :: u, h => by
    simp only [shapeT, List.map_cons, List.cons.injEq, Prod.mk.injEq] at h
    have h1 := apartT_zero t u h.2
    have h2 := apartC_zero p.2 q.2 h.1.2
    obtain ⟨pi, pl⟩ := p
    obtain ⟨qi, ql⟩ := q
    simp only at h h2
    rw [apartT, List.cons.injEq, Prod.mk.injEq]
    show apartC pl ql + apartT t u = 0 ↔ _
    constructor
    · intro h'; exact ⟨⟨h.1.1, h2.1 (by omega)⟩, h1.1 (by omega)⟩
    · intro h'; have := h2.2 h'.1.2; have := h1.2 h'.2; omega
  | [], _ :: _, h => by simp [shapeT] at h
  | _ :: _, [], h => by simp [shapeT] at h
end Go.Ev
namespace Go.Ev
open Go.Proofs
set_option maxRecDepth 1000000
def extWord : List AV → Option AV
  | [.v (.string s)] => if s.size < 1000 then some (.v (.bool (wordB s))) else none
  | _ => none
def e0 : Exts := moreExt (fun _ => none) 91 cmpStr
def e1 : Exts := moreExt e0 49 extWord
theorem quiet0 : Quiet e0 := by
  intro f h1 h2
  unfold e0 moreExt
  rw [if_neg]
  intro h; exact h2 (Nat.eq_of_beq_eq_true h)
theorem mixed (e : Exts) : (Cx e).P.follows .mixedOrders = true := by show Tryz.prog.follows .mixedOrders = true; kernel_rfl
theorem nogo_all : (Tryz.prog.funcs.toList.all fun fn => !(fn.body.isSome && (fn.name == "runtime.NumGoroutine"))) = true := by kernel_rfl
theorem nogo (e : Exts) : NoGo (Cx e).P := by
  intro f fn hf hb
  have h := List.all_eq_true.1 nogo_all fn (by
    have : Tryz.prog.funcs[f]? = some fn := hf
    exact List.mem_of_getElem? (by simpa using this))
  rw [hb] at h
  simpa using h
theorem extOK_none : ExtOK (Cx fun _ => none) := by
  intro f g h; cases h
theorem extOK0 : ExtOK (Cx e0) := by
  refine extOK_more (C := Cx fun _ => none) (f := 91) (g := cmpStr) rfl ?_ extOK_none rfl
  intro args v h Z ρ H w vals hs hl
  exact ext_cmp (fn := Tryz.f91) Tryz.func91 (by kernel_rfl) (by kernel_rfl) (by kernel_rfl) (by kernel_rfl) h Z ρ H w vals hs hl
theorem extOK1 : ExtOK (Cx e1) := by
  refine extOK_more (C := Cx e0) (f := 49) (g := extWord) rfl ?_ extOK0 rfl
  intro args v h Z ρ H w vals hs hl
  unfold extWord at h
  split at h
  · rename_i s
    split at h
    · rename_i hsz
      simp only [Option.some.injEq] at h
      subst h
      exact ext_of_ans (nogo e0) (mixed e0) extOK0 (ans49 quiet0 s (by omega)) rfl Z ρ H w vals hs hl
    · cases h
  · cases h
def ansV (o : Option Out) : Option AV := match o with | some (.ret v H) => freezeV { H with lock := 0 } 1000000 v | _ => none
theorem ans_of_ev {C : Cfg} {n : Nat} {f : FuncId} {args : List AV} {v : AV} (h : ansV (evT C n (.call f args { objs := [], lock := 0 })) = some v) : Ans C f args v := by
  refine Ans.iff.2 ?_
  cases ho : evT C n (.call f args { objs := [], lock := 0 }) with
  | none => rw [ho] at h; cases h
  | some o =>
    rw [ho] at h
    cases o with
    | go => cases h
    | ret x H => exact ⟨x, H, lim_iff.2 ⟨n, ho⟩, h⟩
/-! ### the chapter's examples -/
def strA (s : List UInt8) : AV := .v (.string ⟨⟨s⟩⟩)
def wThe := strA [116,104,101]
def wSea := strA [115,101,97]
def wIs := strA [105,115]
def wOld := strA [111,108,100]
def wAnd := strA [97,110,100]
def wCold := strA [99,111,108,100]
def wSalt := strA [115,97,108,116]
def slN (n : Nat) (l : List AV) : AV := .vs n l none
def at3 (a b c : Int) : AV := .agg [intA a, intA b, intA c]
def rdA (a b c : Int) (k : Int) (w : AV) : AV := .agg [intA a, intA b, intA c, .v (.int .u8 k), w]
def seaV : AV := .agg [slN 2 [.agg [intA 7, slN 1 [slN 1 [wThe, wSea, wIs, wOld], slN 1 [wOld, wThe, wSea]]], .agg [intA 3, slN 1 [slN 1 [wSea, wAnd, wSea]]]]]
def saltV : AV := .agg [intA 4, slN 5 [rdA 0 0 3 3 wCold, rdA 0 1 1 1 (strA []), rdA 1 0 3 2 wSalt]]
def wantV : AV := .agg [slN 2 [.agg [intA 7, slN 1 [slN 1 [wThe, wSea, wIs, wCold], slN 1 [wOld, wSea]]], .agg [intA 3, slN 1 [slN 1 [wSea, wAnd, wSea, wSalt]]]]]
def h0 : Heap := { objs := [], lock := 0 }
end Go.Ev
namespace Go.Ev
open Go.Proofs
set_option maxRecDepth 1000000
theorem a_words : Ans (Cx e1) 14 [seaV] (.tup [intA 10, intA 0]) := ans_of_ev (n := 1000) (by kernel_rfl)
end Go.Ev
namespace Go.Ev
open Go.Proofs
set_option maxRecDepth 1000000
theorem a_at : Ans (Cx e1) 19 [seaV, at3 0 1 0] (.tup [wOld, intA 0]) := ans_of_ev (n := 1000) (by kernel_rfl)
end Go.Ev
namespace Go.Ev
open Go.Proofs
set_option maxRecDepth 1000000
theorem a_placeOf : Ans (Cx e1) 15 [seaV, intA 6] (.tup [at3 0 1 2, intA 0]) := ans_of_ev (n := 1000) (by kernel_rfl)
end Go.Ev
namespace Go.Ev
open Go.Proofs
set_option maxRecDepth 1000000
theorem a_places : Ans (Cx e1) 21 [seaV, wSea] (.tup [slN 3 [at3 0 0 1, at3 0 1 2, at3 1 0 0, at3 1 0 2], intA 0]) := ans_of_ev (n := 1000) (by kernel_rfl)
end Go.Ev
namespace Go.Ev
open Go.Proofs
set_option maxRecDepth 1000000
theorem a_vocab : Ans (Cx e1) 20 [seaV] (.tup [slN 1 [wAnd, wIs, wOld, wSea, wThe], intA 0]) := ans_of_ev (n := 1000) (by kernel_rfl)
end Go.Ev
namespace Go.Ev
open Go.Proofs
set_option maxRecDepth 1000000
theorem a_read : Ans (Cx e1) 25 [seaV, saltV] (.tup [wantV, intA 0]) := ans_of_ev (n := 1000) (by kernel_rfl)
end Go.Ev
namespace Go.Ev
open Go.Proofs
set_option maxRecDepth 1000000
theorem a_doubt : Ans (Cx e1) 32 [seaV, .vs 2 [saltV] (some 1)] (.tup [slN 3 [at3 0 0 3, at3 0 1 1], intA 0]) := ans_of_ev (n := 1000) (by kernel_rfl)
end Go.Ev
namespace Go.Ev
def tab0 : List Int := [1, 2, 3, 4, 4, 21, 21, 21, 21, 21, 21, 21, 2, 1, 2, 3, 3, 21, 21, 21, 21, 21, 21, 21, 3, 2, 1, 2, 2, 21, 21, 21, 21, 21, 21, 21, 4, 3, 2, 1, 1, 21, 21, 21, 21, 21, 21, 21, 4, 3, 2, 1, 0, 21, 21, 21, 21, 21, 21, 21, 21, 21, 21, 21, 21, 21, 21, 21, 21, 21, 21, 21, 21, 21, 21, 21, 21, 21, 21, 21, 21, 21, 21, 21, 21, 21, 21, 21, 21, 21, 21, 21, 21, 21, 21, 21, 21, 21, 21, 21, 21, 21, 21, 21, 21, 21, 21, 21, 21, 21, 21, 21, 21, 21, 21, 21, 21, 21, 21, 21, 21, 21, 21, 21, 21, 21, 21, 21, 21, 21, 21, 21, 21, 21, 21, 21, 21, 21, 21, 21, 21, 21, 21, 21]
def pair0 : AV := .agg (slN 1 [wThe, wSea, wIs, wOld] :: slN 1 [wThe, wSea, wIs, wCold] :: tab0.map intA)
def tab1 : List Int := [1, 2, 3, 21, 21, 21, 21, 21, 21, 21, 21, 21, 1, 1, 2, 21, 21, 21, 21, 21, 21, 21, 21, 21, 1, 0, 1, 21, 21, 21, 21, 21, 21, 21, 21, 21, 2, 1, 0, 21, 21, 21, 21, 21, 21, 21, 21, 21, 21, 21, 21, 21, 21, 21, 21, 21, 21, 21, 21, 21, 21, 21, 21, 21, 21, 21, 21, 21, 21, 21, 21, 21, 21, 21, 21, 21, 21, 21, 21, 21, 21, 21, 21, 21, 21, 21, 21, 21, 21, 21, 21, 21, 21, 21, 21, 21, 21, 21, 21, 21, 21, 21, 21, 21, 21, 21, 21, 21, 21, 21, 21, 21, 21, 21, 21, 21, 21, 21, 21, 21, 21, 21, 21, 21, 21, 21, 21, 21, 21, 21, 21, 21, 21, 21, 21, 21, 21, 21, 21, 21, 21, 21, 21, 21]
def pair1 : AV := .agg (slN 1 [wOld, wThe, wSea] :: slN 1 [wOld, wSea] :: tab1.map intA)
def tab2 : List Int := [1, 2, 2, 3, 3, 21, 21, 21, 21, 21, 21, 21, 2, 1, 2, 2, 2, 21, 21, 21, 21, 21, 21, 21, 3, 2, 1, 1, 1, 21, 21, 21, 21, 21, 21, 21, 4, 3, 2, 1, 0, 21, 21, 21, 21, 21, 21, 21, 21, 21, 21, 21, 21, 21, 21, 21, 21, 21, 21, 21, 21, 21, 21, 21, 21, 21, 21, 21, 21, 21, 21, 21, 21, 21, 21, 21, 21, 21, 21, 21, 21, 21, 21, 21, 21, 21, 21, 21, 21, 21, 21, 21, 21, 21, 21, 21, 21, 21, 21, 21, 21, 21, 21, 21, 21, 21, 21, 21, 21, 21, 21, 21, 21, 21, 21, 21, 21, 21, 21, 21, 21, 21, 21, 21, 21, 21, 21, 21, 21, 21, 21, 21, 21, 21, 21, 21, 21, 21, 21, 21, 21, 21, 21, 21]
def pair2 : AV := .agg (slN 1 [wSea, wAnd, wSea] :: slN 1 [wSea, wAnd, wSea, wSalt] :: tab2.map intA)
end Go.Ev
namespace Go.Ev
open Go.Proofs
set_option maxRecDepth 1000000
theorem a_pair0 : Ans (Cx e1) 73 [slN 1 [wThe, wSea, wIs, wOld], slN 1 [wThe, wSea, wIs, wCold]] pair0 := ans_of_ev (n := 1000) (by kernel_rfl)
end Go.Ev
namespace Go.Ev
open Go.Proofs
set_option maxRecDepth 1000000
theorem a_pair1 : Ans (Cx e1) 73 [slN 1 [wOld, wThe, wSea], slN 1 [wOld, wSea]] pair1 := ans_of_ev (n := 1000) (by kernel_rfl)
end Go.Ev
namespace Go.Ev
open Go.Proofs
set_option maxRecDepth 1000000
theorem a_pair2 : Ans (Cx e1) 73 [slN 1 [wSea, wAnd, wSea], slN 1 [wSea, wAnd, wSea, wSalt]] pair2 := ans_of_ev (n := 1000) (by kernel_rfl)
end Go.Ev
namespace Go.Ev
open Go.Proofs
set_option maxRecDepth 1000000
def gPair : List AV → Option AV := fun args =>
  match atArgs [slN 1 [wThe, wSea, wIs, wOld], slN 1 [wThe, wSea, wIs, wCold]] pair0 args with
  | some r => some r
  | none => match atArgs [slN 1 [wOld, wThe, wSea], slN 1 [wOld, wSea]] pair1 args with
    | some r => some r
    | none => atArgs [slN 1 [wSea, wAnd, wSea], slN 1 [wSea, wAnd, wSea, wSalt]] pair2 args
def e2 : Exts := moreExt e1 73 gPair
theorem extOK2 : ExtOK (Cx e2) := by
  refine extOK_more (C := Cx e1) (f := 73) (g := gPair) rfl ?_ extOK1 rfl
  intro args v h Z ρ H w vals hs hl
  have key : Ans (Cx e1) 73 args v ∧ boundL args = 0 := by
    unfold gPair at h
    split at h
    · rename_i r h1; cases h; obtain ⟨rfl, rfl⟩ := atArgs_some h1; exact ⟨a_pair0, rfl⟩
    · split at h
      · rename_i r h1; cases h; obtain ⟨rfl, rfl⟩ := atArgs_some h1; exact ⟨a_pair1, rfl⟩
      · obtain ⟨rfl, rfl⟩ := atArgs_some h; exact ⟨a_pair2, rfl⟩
  exact ext_of_ans (nogo e1) (mixed e1) extOK1 key.1 key.2 Z ρ H w vals hs hl
theorem a_find : Ans (Cx e2) 22 [seaV, wantV, intA 4] (.tup [saltV, intA 0]) := ans_of_ev (n := 1000) (by kernel_rfl)
end Go.Ev
namespace Go.Ev
open Go.Proofs
set_option maxRecDepth 1000000
theorem ext_one {e : Exts} (hx : ExtOK (Cx e)) {C : Cfg} (_hC : C.P = (Cx e).P) {e' : Exts} (hx' : ExtOK (Cx e')) {f : FuncId} {K : List AV} {R : AV} (h : Ans (Cx e) f K R) (hb : boundL K = 0) : ExtOK (Cx (moreExt e' f (atArgs K R))) := by
  refine extOK_more (C := Cx e') (f := f) (g := atArgs K R) rfl ?_ hx' rfl
  intro args v hv Z ρ H w vals hs hl
  obtain ⟨rfl, rfl⟩ := atArgs_some hv
  exact ext_of_ans (nogo e) (mixed e) hx h hb Z ρ H w vals hs hl
def e3 : Exts := moreExt (moreExt (moreExt (moreExt (moreExt (moreExt (moreExt (moreExt e1
  14 (atArgs [seaV] (.tup [intA 10, intA 0])))
  19 (atArgs [seaV, at3 0 1 0] (.tup [wOld, intA 0])))
  15 (atArgs [seaV, intA 6] (.tup [at3 0 1 2, intA 0])))
  21 (atArgs [seaV, wSea] (.tup [slN 3 [at3 0 0 1, at3 0 1 2, at3 1 0 0, at3 1 0 2], intA 0])))
  20 (atArgs [seaV] (.tup [slN 1 [wAnd, wIs, wOld, wSea, wThe], intA 0])))
  25 (atArgs [seaV, saltV] (.tup [wantV, intA 0])))
  22 (atArgs [seaV, wantV, intA 4] (.tup [saltV, intA 0])))
  32 (atArgs [seaV, .vs 2 [saltV] (some 1)] (.tup [slN 3 [at3 0 0 3, at3 0 1 1], intA 0]))
theorem extOK3 : ExtOK (Cx e3) := by
  unfold e3
  refine ext_one extOK1 (C := Cx e1) rfl ?_ a_doubt rfl
  refine ext_one extOK2 (C := Cx e1) rfl ?_ a_find rfl
  refine ext_one extOK1 (C := Cx e1) rfl ?_ a_read rfl
  refine ext_one extOK1 (C := Cx e1) rfl ?_ a_vocab rfl
  refine ext_one extOK1 (C := Cx e1) rfl ?_ a_places rfl
  refine ext_one extOK1 (C := Cx e1) rfl ?_ a_placeOf rfl
  refine ext_one extOK1 (C := Cx e1) rfl ?_ a_at rfl
  refine ext_one extOK1 (C := Cx e1) rfl ?_ a_words rfl
  exact extOK1
theorem a_alive : Ans (Cx e3) 12 [] (.v (.bool true)) := ans_of_ev (n := 1000) (by kernel_rfl)
end Go.Ev
namespace Go.Ev
open Go.Proofs
set_option maxRecDepth 100000
set_option linter.unusedSimpArgs false
/-! ### the configuration of a law -/
def eA : Exts := moreExt e0 12 (atArgs [] (.v (.bool true)))
theorem extOKA : ExtOK (Cx eA) := by
  refine extOK_more (C := Cx e0) (f := 12) (g := atArgs [] (.v (.bool true))) rfl ?_ extOK0 rfl
  intro args v hv Z ρ H w vals hs hl
  obtain ⟨rfl, rfl⟩ := atArgs_some hv
  exact ext_of_ans (nogo e3) (mixed e3) extOK3 a_alive rfl Z ρ H w vals hs hl
theorem quietA : Quiet eA := by
  intro f h1 h2
  unfold eA moreExt
  rw [if_neg (fun h => h1 (Nat.eq_of_beq_eq_true h))]
  exact quiet0 f h1 h2
theorem eA12 : eA 12 = some (atArgs [] (.v (.bool true))) := rfl
end Go.Ev
namespace Go.Ev
open Go.Proofs
set_option maxRecDepth 100000
set_option linter.unusedSimpArgs false
/-! ### from arguments of plain data to copies -/
end Go.Ev
namespace Go.Ev
open Go.Proofs
set_option maxRecDepth 100000
set_option linter.unusedSimpArgs false
attribute [local irreducible] Wp WpS
theorem okFrom_iff (t : Txt) : ∀ (l : Txt) (j : Nat), okFrom t j l = true ↔ ∀ (i : Nat) (c : Chap), l[i]? = some c → condC t (j + i) c = true
  | [], j => by simp [okFrom]
  | x :: l, j => by
    unfold okFrom
    rw [Bool.and_eq_true, okFrom_iff t l (j + 1)]
    constructor
    · rintro ⟨h1, h2⟩ i c hc
      cases i with
      | zero => simp at hc; subst hc; exact h1
      | succ i => rw [show j + (i + 1) = j + 1 + i by omega]; exact h2 i c (by simpa using hc)
    · intro h
      exact ⟨h 0 x rfl, fun i c hc => by rw [show j + 1 + i = j + (i + 1) by omega]; exact h (i + 1) c (by simpa using hc)⟩
theorem idB_map (t : Txt) (id : Int) (n : Nat) : idB t id 0 n = ((t.map (·.1)).take n).any fun x => decide (x = id) := by
  unfold idB
  rw [List.drop_zero, ← List.map_take, List.any_map]; rfl
theorem readT_ids (t : Txt) (rs : List Rd) : (readT t rs).map (·.1) = t.map (·.1) := by
  apply List.ext_getElem?
  intro i
  unfold readT
  rw [List.getElem?_map, List.getElem?_map, List.getElem?_mapIdx]
  cases t[i]? <;> simp
theorem Right.text {t : Txt} {id : Int} {rs : List Rd} (h : Right t id rs) (ht : textB t = true) : textB (readT t rs) = true := by
  have hs := small_of ht
  have hs2 := h.small hs
  unfold textB at ht ⊢
  rw [Bool.and_eq_true] at ht ⊢
  have hl : (readT t rs).length = t.length := by unfold readT; rw [List.length_mapIdx]
  refine ⟨by rw [hl]; exact ht.1, (okFrom_iff _ _ _).2 fun i c hc => ?_⟩
  have hil : i < t.length := by rw [← hl]; exact (List.getElem?_eq_some_iff.1 hc).1
  obtain ⟨c0, hc0⟩ := at_lt t i hil
  have h0 := (okFrom_iff t t 0).1 ht.2 i c0 hc0
  have hcm := List.mem_of_getElem? hc
  rw [readT_get hc0] at hc
  have hid : c.1 = c0.1 := by cases hc; rfl
  have hlen : c.2.length = c0.2.length := by cases hc; simp
  unfold condC at h0 ⊢
  simp only [Bool.and_eq_true] at h0 ⊢
  obtain ⟨⟨⟨e1, e2⟩, e3⟩, e4⟩ := h0
  rw [Nat.zero_add] at e3 ⊢
  refine ⟨⟨⟨by rw [hid]; exact e1, by rw [hlen]; exact e2⟩, by rw [hid, idB_map, readT_ids, ← idB_map]; exact e3⟩, List.all_eq_true.2 fun l hl => ?_⟩
  unfold lineB
  have hw := hs2.words c hcm l hl
  rw [Bool.and_eq_true]
  refine ⟨?_, List.all_eq_true.2 fun s hm => hs2.word c hcm l hl s hm⟩
  unfold withinB
  simp only [List.all_cons, List.all_nil, Bool.and_true, Bool.and_eq_true, decide_eq_true_eq]; omega
theorem call23 {e : Exts} (he : Quiet e) {t u : Txt} (ht : Fits t) (hu : Fits u) {ch ch' : AV} {xs xs' : List AV} (hch : SlOf 2 xs ch) (hall : All2 ChapA t xs) (hch' : SlOf 2 xs' ch') (hall' : All2 ChapA u xs') (h1 : textB t = true) (h2 : textB u = true) (h3 : alikeB t u = true) (me : FuncId) (d : Option Tmp) (H : Heap) : callA (Cx e) (lim (Cx e)) me 23 d [.agg [ch], .agg [ch']] H = some (.tup [.v (.int .i64 (apartT t u)), .v (.int .i64 0)], H) :=
  (ans23 he t u ht hu ch ch' xs xs' hch hall hch' hall' h1 h2 h3).call (ext_23 he) (pure_23 _ _ _) (by simp only [boundL_cons, bound_agg, hch.bound, hch'.bound, boundL_nil]; rfl) H
theorem call27 {e : Exts} (he : Quiet e) {t u : Txt} (ht : Fits t) (hu : Fits u) {ch ch' : AV} {xs xs' : List AV} (hch : SlOf 2 xs ch) (hall : All2 ChapA t xs) (hch' : SlOf 2 xs' ch') (hall' : All2 ChapA u xs') (me : FuncId) (d : Option Tmp) (H : Heap) : callA (Cx e) (lim (Cx e)) me 27 d [.agg [ch], .agg [ch']] H = some (.v (.bool (decide (t = u))), H) :=
  (ans27 he t u ht hu ch ch' xs xs' hch hall hch' hall').call (ext_27 he) (pure_27 _ _ _) (by simp only [boundL_cons, bound_agg, hch.bound, hch'.bound, boundL_nil]; rfl) H
theorem ready_text {t : Txt} (h : readyB t = true) : textB t = true := by unfold readyB at h; simp only [Bool.and_eq_true] at h; exact h.2
end Go.Ev
/- The same, of functions that look at memory of their caller's. -/
namespace Go.Ev
def Yields2F (C : Cfg) (f : FuncId) (cap : List AV) (items : List (List AV)) (F : Heap → Prop) : Prop :=
  ∀ (l : Nat) (S : Type) (R : S → Fm → Prop) (stp : S → List AV → Bool × S) (ok : S → List AV → Prop) (live : S → Prop) (n0 k : Nat), Src2 C l S R stp ok live n0 k → (∀ s m H, R s m → Has m H → H.lock = k → F H) →
    ∀ s m H, okRun stp ok items s → live s → R s m → Has m H → H.lock = k → n0 ≤ H.size → ∃ H' m', lim C (.call f ([.yld l] ++ cap) H) = some (.ret (.tup []) H') ∧ R (runIt stp items s).2 m' ∧ Has m' H' ∧ Moves m H m' H'
section
variable {C : Cfg} {me : FuncId} {S : Type} {R : S → Fm → Prop} {stp : S → List AV → AExit × S} {lv : S → Prop} {ok : S → List AV → Prop} {n0 k d : Nat}
theorem wp_range2F {F : Heap → Prop} {f : FuncId} {cap : List AV} {items : List (List AV)} (hy : Yields2F C f cap items F) {g : Operand} {ps : Array Tmp} {asg body : Code} {a : AAct} {H : Heap} {K : Post} (hg : a.eval g = some (.fn (.func f) [] cap))
    (R : S → Fm → Prop) (stp : S → List AV → AExit × S) (lv : S → Prop) (ok : S → List AV → Prop) {n0 k : Nat} (hn0 : n0 ≤ H.size) (hk : k ≤ H.size) (hlen : ∀ x ∈ items, x.length = ps.size)
    (hF : ∀ s m H, R s m → Has m H → H.lock = k → F H) (hanch : ∀ s m, R s m → Anch n0 m) (hdm : ∀ s m, R s m → ¬ keyIn H.size m ∧ ¬ keyIn (H.size + 1) m)
    (hlv : ∀ s x, lv s → ok s x → (stp s x).1 = .normal → lv (stp s x).2)
    (hbody : ∀ (L L' : ALoop) s m x H', L'.dfr = H.size → lv s → ok s x → x.length = ps.size → R s m → Has m H' → H'.get H.size = some .dfr → loopObj H' (H.size + 1) = some L → H'.lock = k → H.size + 2 ≤ H'.size →
      Wp C me (some (H.size + 1)) asg ⟨a.size, setTmps a.size a.tmps (ps.toList.zip x), []⟩ H' (as2K C me R H.size body L L' m H' (stp s x)))
    (s0 : S) (m0 : Fm) (hok : okRun (fun s x => (isGo (stp s x).1, (stp s x).2)) ok items s0) (h0 : lv s0) (hR0 : R s0 m0) (hH0 : Has m0 H) (hlk : H.lock = k)
    (hK : ∀ m' H', R (foldE stp items s0).2 m' → Has m' H' → H'.get H.size = some .dfr → H'.get (H.size + 1) = some .dead → Moves m0 H ((H.size + 1, .dead) :: m') H' → H.size + 2 ≤ H'.size → AtK K (foldE stp items s0).1 ⟨a.size, a.tmps, H.size :: a.marks⟩ H') :
    Wp C me none (.rangeFunc g ps asg body) a H K := by
  generalize hd : H.size = d at *
  have hsrc := src2_range (C := C) (me := me) (R := R) (stp := stp) (lv := lv) (ok := ok) (sz := a.size) (ts := a.tmps) (ps := ps) (asg := asg) (body := body) hn0 hk hanch hdm hlv hbody
  have hbeg : (H.put d .dfr).put (d + 1) (.loop (busyL me a.size a.tmps ps asg body d .ready none)) = H.plus [some .dfr, some (.loop (busyL me a.size a.tmps ps asg body d .ready none))] := by
    have h1 : H.put d .dfr = H.plus [some .dfr] := by rw [← hd]; exact put_push _
    rw [h1]
    exact plus_put_end hd [some .dfr] (.loop (busyL me a.size a.tmps ps asg body d .ready none))
  generalize hHb : H.plus [some AObj.dfr, some (.loop (busyL me a.size a.tmps ps asg body d .ready none))] = Hb at hbeg
  have hsb : Hb.size = d + 2 := by rw [← hHb, plus_size, hd]; rfl
  have hg0 : Hb.get d = some .dfr := by
    rw [← hHb]; exact plus_mid_get hd [] _ _
  have hg1 : Hb.get (d + 1) = some (.loop (busyL me a.size a.tmps ps asg body d .ready none)) := by
    rw [← hHb]; exact plus_mid_get hd [some .dfr] [] _
  have hHasB : Has ((d, .dfr) :: (d + 1, .loop (busyL me a.size a.tmps ps asg body d .ready none)) :: m0) Hb := by
    intro p hp
    rcases List.mem_cons.1 hp with rfl | hp
    · exact hg0
    · rcases List.mem_cons.1 hp with rfl | hp
      · exact hg1
      · rw [← hHb]; exact hH0.plus _ p hp
  obtain ⟨H1, m1, hc1, ⟨m', hm', rfl⟩, hH1, hmv⟩ := hy (d + 1) (S × AExit) _ _ _ _ _ _ hsrc (fun q m' H hq hH hl => by obtain ⟨m, hm, rfl⟩ := hq; exact hF q.1 m H hm (fun p hp => hH p (List.mem_cons_of_mem _ (List.mem_cons_of_mem _ hp))) hl) (s0, .normal) _ Hb (okRun_q items s0 .normal hok hlen) ⟨h0, rfl⟩ ⟨m0, hR0, rfl⟩ hHasB (by rw [← hHb]; exact hlk) (by omega)
  have hanch1 := hsrc.anch _ _ ⟨m', hm', rfl⟩
  rw [run_range] at hm' hH1 hmv hanch1
  simp only at hm' hH1 hmv hanch1
  generalize hp : foldE stp items s0 = p at *
  have hcb := callB_yld (C := C) (me := me) (d := none) (l := d + 1) (by simp) hc1
  have hH2 := hH1.trim hanch1 (Nat.le_of_eq hsb.symm) [AV.tup []] []
  have hmv2 := hmv.trim [AV.tup []] [] (n := Hb.size) rfl
  generalize hT : H1.trim Hb.size [AV.tup []] [] = H2 at *
  have hl2 : H2.get (d + 1) = some (.loop (busyL me a.size a.tmps ps asg body d (stateOf p.1) (pend p.1))) := hH2 (d + 1, _) (by simp)
  have hd2 : H2.get d = some .dfr := hH2 (d, _) (by simp)
  have hs2 : d + 2 ≤ H2.size := by have := hmv2.size; omega
  have hfin : AtK K p.1 ⟨a.size, a.tmps, d :: a.marks⟩ (H2.put (d + 1) .dead) := by
    have hmd := hdm _ _ hm'
    refine hK m' (H2.put (d + 1) .dead) hm' ?_ ?_ ?_ ?_ ?_
    · intro q hq
      rw [put_get_ne _ (by omega) (fun e => hmd.2 ⟨q, hq, e⟩)]
      exact hH2 q (List.mem_cons_of_mem _ (List.mem_cons_of_mem _ hq))
    · rw [put_get_ne _ (by omega) (by omega)]; exact hd2
    · exact put_get_eq _ (by omega)
    · refine ⟨?_, ?_, fun b hb hnb => ?_, fun q hq => ?_⟩
      · show H2.lock = H.lock
        rw [hmv2.lock, ← hHb]; rfl
      · rw [put_sizeI _ (by omega)]; omega
      · rw [put_get_ne _ (by omega) (by omega), hmv2.same b (by omega) ?_, ← hHb]
        · exact plus_get _ hb
        · rintro ⟨q, hq, he⟩
          rcases List.mem_cons.1 hq with rfl | hq
          · simp only at he; omega
          · rcases List.mem_cons.1 hq with rfl | hq
            · simp only at he; omega
            · exact hnb ⟨q, hq, he⟩
      · rcases List.mem_cons.1 hq with rfl | hq
        · exact Or.inr (by simp only; omega)
        · rcases hmv2.keys q (List.mem_cons_of_mem _ (List.mem_cons_of_mem _ hq)) with ⟨r, hr, he⟩ | h
          · rcases List.mem_cons.1 hr with rfl | hr
            · exact absurd ⟨q, hq, he.symm⟩ hmd.1
            · rcases List.mem_cons.1 hr with rfl | hr
              · exact absurd ⟨q, hq, he.symm⟩ hmd.2
              · exact Or.inl ⟨r, hr, he⟩
          · exact Or.inr (by omega)
    · rw [put_sizeI _ (by omega)]; exact hs2
  refine wp_range0 (f := f) (first := []) (cap := cap) hg (v := .tup []) (H2 := H2) ?_ (r := busyL me a.size a.tmps ps asg body d (stateOf p.1) (pend p.1)) ?_ ?_ ?_ ?_
  · rw [hd]
    rw [← hbeg] at hcb
    exact hcb
  · rw [hd]; exact get_loopObj hl2
  · unfold busyL stateOf; cases p.1 <;> simp [pend]
  · rw [hd]; rfl
  · rw [hd]
    obtain ⟨e, s⟩ := p
    cases e with
    | normal => exact hfin
    | ret => exact hfin
    | exit i => exact hfin
end
section
variable {C : Cfg} {me : FuncId} {S : Type}
end
end Go.Ev
namespace Go.Ev
open Go.Proofs
set_option maxRecDepth 100000
set_option linter.unusedSimpArgs false
attribute [local irreducible] Wp WpS
/-- a call of what is handed in, where what is known of memory lies before the region -/
theorem effV_yld2 {C : Cfg} {me : FuncId} {d : Option Tmp} {l : Nat} {S : Type} {R : S → Fm → Prop} {stp : S → List AV → Bool × S} {ok : S → List AV → Prop} {live : S → Prop} {n0 k base top : Nat} {G : Heap} {cont : AV → Heap → Prop} (hsrc : Src2 C l S R stp ok live n0 k) (s : S) (m : Fm) (x : List AV) (hlv : live s) (hok : ok s x)
    (hR : R s m) (hH : Has m G) (hm : ∀ p ∈ m, p.1 < base) (hk : G.lock = k) (hn : n0 ≤ G.size) (ht : top = G.size) (hbt : base ≤ top)
    (hcont : ∀ m' G', R (stp s x).2 m' → Has m' G' → G'.lock = k → G.size ≤ G'.size → (∀ b, b < base → ¬ keyIn b m → G'.get b = G.get b) → (∀ p ∈ m', keyIn p.1 m ∨ G.size ≤ p.1) → cont (.v (.bool (stp s x).1)) G') : effV C me base top d (.yld l) x G cont := by
  refine ⟨rfl, fun Gh h1 h2 h3 => ?_⟩
  have hHh : Has m Gh := fun p hp => (h3 p.1 (Or.inl (hm p hp))).trans (hH p hp)
  obtain ⟨Y, m', hY, hR', hH', hmv⟩ := hsrc.round s m x Gh hlv hok hR hHh (h1.trans hk) (by omega)
  refine ⟨.v (.bool (stp s x).1), Y, by unfold callX; simp only [hY], by have := hmv.size; omega, fun G' g1 g2 g3 _ => ?_⟩
  have hkeys : ∀ p ∈ m', keyIn p.1 m ∨ G.size ≤ p.1 := fun p hp => by rw [← h2]; exact hmv.keys p hp
  refine hcont m' G' hR' (fun p hp => ?_) (g1.trans hk) (by have := hmv.size; omega) (fun b hb hnb => ?_) hkeys
  · rw [g3 p.1 ?_]
    · exact hH' p hp
    · rcases hkeys p hp with ⟨q, hq, he⟩ | h
      · left; rw [← he]; exact hm q hq
      · right; omega
  · rw [g3 b (Or.inl hb)]
    rcases Nat.lt_or_ge b Gh.size with h | h
    · rw [hmv.same b h hnb, h3 b (Or.inl hb)]
    · omega
/-- readings of a pair that lies in memory -/
theorem call53 {e : Exts} (he : Quiet e) {X : Heap} {b : Nat} {lx ly : AV} {a c : Line} {tb : List Int} (h : PrH X b lx ly a c tb) (ha : a.length ≤ 10) (hc : c.length ≤ 10) (hT : TabOK a c tb (-1) 0) (k n w : Int) (me : FuncId) (d : Option Tmp) : callA (Cx e) (lim (Cx e)) me 53 d [.ptr b 0 0, .agg [.v (.int .i64 k), .v (.int .i64 n), .v (.int .i64 w)]] X = some (ofV (foundL k n 0 a c), X) := by
  have hb : boundL [AV.ptr b 0 0, .agg [.v (.int .i64 k), .v (.int .i64 n), .v (.int .i64 w)]] ≠ 0 := by
    intro h0
    have : Nat.max (b + 1) (Nat.max (Nat.max 0 (Nat.max 0 (Nat.max 0 0))) 0) = 0 := h0
    have h1 := Nat.le_max_left (b + 1) (Nat.max (Nat.max 0 (Nat.max 0 (Nat.max 0 0))) 0)
    have h2 : b + 1 ≤ 0 := this ▸ h1
    omega
  unfold callA callB callKind
  rw [ext_53 he]
  simp only [pure_53, if_true]
  have h2 := fn53 he (X := { X with lock := X.size }) (h.lock _) rfl ha hc hT k n w
  unfold Fn' at h2
  rw [bindO_iff] at h2
  obtain ⟨o, h3, h4⟩ := h2
  rw [if_neg (fun h => hb (Nat.eq_of_beq_eq_true h)), show ([AV.ptr b 0 0, .agg [.v (.int .i64 k), .v (.int .i64 n), .v (.int .i64 w)]]).any isYld = false from rfl]
  simp only [Bool.false_eq_true, if_false]
  cases o with
  | ret v H =>
    simp only [intA] at h3
    simp only [h3]
    exact congrArg (Option.map fun v => (v, X)) h4
  | _ => exact h4.elim
theorem stillV_53 {e : Exts} (he : Quiet e) {me : FuncId} {d : Option Tmp} {G : Heap} {cont : AV → Heap → Prop} {b base top : Nat} {lx ly : AV} {a c : Line} {tb : List Int} (h : PrH G b lx ly a c tb) (hb : b < base) (ha : a.length ≤ 10) (hc : c.length ≤ 10) (hT : TabOK a c tb (-1) 0) (k n w : Int)
    (hcont : cont (ofV (foundL k n 0 a c)) G) : stillV (Cx e) me base top d (.fn (.func 53) [] []) [.ptr b 0 0, .agg [.v (.int .i64 k), .v (.int .i64 n), .v (.int .i64 w)]] G cont := by
  refine ⟨?_, _, fun Gh h1 h2 h3 => ⟨Gh, ?_⟩, hcont⟩
  · unfold kind2
    have hk : callKind (Cx e) me 53 d ([] ++ [AV.ptr b 0 0, .agg [.v (.int .i64 k), .v (.int .i64 n), .v (.int .i64 w)]] ++ []) = 2 := by
      unfold callKind
      rw [pure_53]
      have hb : ¬ (Nat.beq (boundL ([] ++ [AV.ptr b 0 0, .agg [.v (.int .i64 k), .v (.int .i64 n), .v (.int .i64 w)]] ++ [])) 0 = true) := by
        intro h0
        have h0 := Nat.eq_of_beq_eq_true h0
        have : Nat.max (b + 1) (Nat.max (Nat.max 0 (Nat.max 0 (Nat.max 0 0))) 0) = 0 := h0
        have h1 := Nat.le_max_left (b + 1) (Nat.max (Nat.max 0 (Nat.max 0 (Nat.max 0 0))) 0)
        have h2 : b + 1 ≤ 0 := this ▸ h1
        omega
      rw [if_pos rfl, if_neg hb]; rfl
    simp only [ext_53 he, hk]; rfl
  · unfold callX
    simp only [List.nil_append, List.append_nil]
    obtain ⟨mm, g, hr⟩ := h.row
    exact call53 he ⟨by rw [h2]; exact h.lt, ⟨mm, g, get_row ((h3 b (Or.inl hb)).trans (row_of_get hr))⟩, h.left, h.right, h.len⟩ ha hc hT k n w me d
end Go.Ev
namespace Go.Ev
open Go.Proofs
set_option maxRecDepth 100000
set_option linter.unusedSimpArgs false
attribute [local irreducible] Wp WpS
theorem bd2K_at {S : Type} (R : S → Fm → Prop) (d : Nat) (L' : ALoop) (m : Fm) (H : Heap) (p : AExit × S) (e : AExit) (a : AAct) (H' : Heap) : AtK (bd2K R d L' m H p) e a H' = (e = p.1 ∧ ∃ m', R p.2 m' ∧ Has m' H' ∧ loopObj H' (d + 1) = some L' ∧ Moves ((d + 1, .loop L') :: m) H ((d + 1, .loop L') :: m') H') := rfl
theorem okRun72 {S : Type} {e : Exts} {ch2 : AV} (tbf : Nat → Nat → List Int) (xf : Nat → Nat → AV) (stp : S → List AV → Bool × S) (ok : S → List AV → Prop) : ∀ (T : List (List AV)) (s : S), (∀ x ∈ T, Ok72 (fun _ => True) tbf xf e ch2 x) → okRun stp ok (T.map (pairI tbf xf)) s → okRun (fun s x => (isGo (stp72 tbf xf stp s x).1, (stp72 tbf xf stp s x).2)) (fun s x => Ok72 (ok s) tbf xf e ch2 x) T s
  | [], _, _, _ => trivial
  | x :: r, s, hx, h => by
    rw [List.map_cons] at h
    refine ⟨?_, fun hg => ?_⟩
    · obtain ⟨i, k, lx, a, c, rfl, h1, h2, h3, -, h5, h6⟩ := hx x (List.mem_cons_self ..)
      exact ⟨i, k, lx, a, c, rfl, h1, h2, h3, h.1, h5, h6⟩
    · refine okRun72 tbf xf stp ok r _ (fun y hy => hx y (List.mem_cons_of_mem _ hy)) (h.2 ?_)
      unfold stp72 at hg
      simp only at hg
      cases hq : (stp s (pairI tbf xf x)).1 with
      | true => rfl
      | false => rw [hq] at hg; cases hg
/-- what is known while the pairs are handed over -/
def R72 {S : Type} (R : S → Fm → Prop) (N : Nat) (l : Nat) (s : S) (m : Fm) : Prop := ∃ m0, R s m0 ∧ ¬ keyIn N m0 ∧ ¬ keyIn (N + 1) m0 ∧ ¬ keyIn (N + 2) m0 ∧ m = (N, .cells 0 (bound (.yld l)) 123 1 false [.yld l]) :: m0
set_option maxHeartbeats 4000000 in
theorem yields2_72 {e : Exts} (he : Quiet e) (ch : AV) (xs : List AV) (hch : SlOf 2 xs ch) (hall : ∀ y ∈ xs, OkCh y) (hlen : xs.length < 2 ^ 63) (ch2 : AV) (b1 b2 : Nat) (tbf : Nat → Nat → List Int) (xf : Nat → Nat → AV)
    (hcall : ∀ x ∈ chapIts 0 xs, Ok72 (fun _ => True) tbf xf e ch2 x) : Yields2F (Cx e) 72 [.ptr b1 0 0, .ptr b2 0 0] ((chapIts 0 xs).map (pairI tbf xf)) (F72 b1 b2 ch ch2) := by
  intro l S R stp ok live n0 k hsrc hF s m H hok hlv hR hH hlk hsz
  have hk0 : k = 0 := hlk.symm.trans (hF s m H hR hH hlk).1
  subst hk0
  have key : Fn' (Cx e) 72 [.yld l, .ptr b1 0 0, .ptr b2 0 0] H fun v H' => v = .tup [] ∧ ∃ m', R (runIt stp ((chapIts 0 xs).map (pairI tbf xf)) s).2 m' ∧ Has m' H' ∧ Moves m H m' H' := by
    obtain ⟨N, hN⟩ : ∃ N, H.size = N := ⟨_, rfl⟩
    have hlkN : H.lock ≤ N := by omega
    generalize hKK : (fun v H' => v = .tup [] ∧ ∃ m', R (runIt stp ((chapIts 0 xs).map (pairI tbf xf)) s).2 m' ∧ Has m' H' ∧ Moves m H m' H' : PostO) = KK
    have hrX : ∀ F, (H.plus F).row b1 0 = some (0, 79, 1, false, [ch]) := fun F => ((hF s m H hR hH hlk).plus F).2.1
    rw [fn_step (fn_72 e) (show Tryz.f72.body = some _ from rfl), ← plus_nil H]
    simp -implicitDefEqProofs only [Tryz.f72, go_sem, ↓reduceIte, Int.reduceEq, Int.reduceLT, Int.reduceLE, List.reduceReplicate, intA, setT_nil, setT_cons, ↓boolP_bool, ↓iteB_true, ↓iteB_false, sizeP hN, putP0 hN, putP hN, settleP0 hN, settleP hN, rowP0 hN, rowP hN, storeP0 hN hlkN, storeP hN hlkN, List.length_nil, Nat.add_zero, hrX, hch.cells, call64 he ch xs hch]
    have hN1 : (H.plus [some (.cells 0 (bound (.yld l)) 123 1 false [.yld l])]).size = N + 1 := by rw [plus_size, hN]; rfl
    have hgN : (H.plus [some (.cells 0 (bound (.yld l)) 123 1 false [.yld l])]).get N = some (.cells 0 (bound (.yld l)) 123 1 false [.yld l]) := plus_mid_get hN [] [] _
    refine wp_range2 (yields2_88 ch xs hch hall hlen) rfl (R72 R N l) (stp72 tbf xf stp) live (fun s x => Ok72 (ok s) tbf xf e ch2 x) (n0 := N + 1) (k := 0) (by rw [hN1]; exact Nat.le_refl _) (Nat.zero_le _) (fun x hx => ?_) ?_ ?_ (fun s x hl hx h => ?_) ?_ s ((N, .cells 0 (bound (.yld l)) 123 1 false [.yld l]) :: m) (okRun72 tbf xf stp ok _ s hcall hok) hlv ⟨m, hR, not_key hH (by omega), not_key hH (by omega), not_key hH (by omega), rfl⟩ ?_ (by rw [plus_lock]; exact hlk) ?_
    · obtain ⟨i, k, lx, a, c, rfl, -⟩ := hcall x hx
      rfl
    · rintro s' m' ⟨m0, hR0, k1, k2, k3, rfl⟩ n hn ⟨p, hp, hpn⟩
      rcases List.mem_cons.1 hp with rfl | hp
      · simp only at hpn; omega
      · obtain ⟨q, hq, h1, h2⟩ := hsrc.anch s' m0 hR0 n (by omega) ⟨p, hp, hpn⟩
        exact ⟨q, List.mem_cons_of_mem _ hq, h1, h2⟩
    · rintro s' m' ⟨m0, hR0, k1, k2, k3, rfl⟩
      rw [hN1]
      constructor
      · rintro ⟨p, hp, he⟩
        rcases List.mem_cons.1 hp with rfl | hp
        · simp only at he; omega
        · exact k2 ⟨p, hp, he⟩
      · rintro ⟨p, hp, he⟩
        rcases List.mem_cons.1 hp with rfl | hp
        · simp only at he; omega
        · exact k3 ⟨p, hp, he⟩
    · obtain ⟨i, k, lx, a, c, rfl, h1, h2, h3, h4, h5, h6⟩ := hx
      refine hsrc.step _ _ hl h4 ?_
      unfold stp72 at h
      simp only at h
      cases hq : (stp s (pairI tbf xf [placeA i k 0, lx])).1 with
      | true => rfl
      | false => rw [hq] at h; cases h
    · rw [hN1]
      rintro L L' s x' x H' - hl ⟨i, k, lx, a, c, rfl, h1, h2, h3, h4, h5, h6⟩ - ⟨m0, hR0, k1, k2, k3, rfl⟩ hHm hd0 hlo hlk' hsz'
      have hHm0 : Has m0 H' := fun p hp => hHm p (List.mem_cons_of_mem _ hp)
      obtain ⟨N2, hN2⟩ : ∃ N2, H'.size = N2 := ⟨_, rfl⟩
      have hlk2 : H'.lock ≤ N2 := by omega
      have hp1 : stp72 tbf xf stp s [placeA i k 0, lx] = (if (stp s (pairI tbf xf [placeA i k 0, lx])).1 then .normal else .ret, (stp s (pairI tbf xf [placeA i k 0, lx])).2) := rfl
      generalize stp72 tbf xf stp s [placeA i k 0, lx] = p72 at hp1 ⊢
      have hgN' : H'.get N = some (.cells 0 (bound (.yld l)) 123 1 false [.yld l]) := hHm (N, _) (List.mem_cons_self ..)
      rw [← plus_nil H']
      simp -implicitDefEqProofs only [go_sem, ↓reduceIte, Int.reduceEq, Int.reduceLT, Int.reduceLE, List.reduceReplicate, intA, setT_nil, setT_cons, ↓boolP_bool, ↓iteB_true, ↓iteB_false, placeA, List.zip_cons_cons, List.zip_nil_right, List.zip_nil_left, sizeP hN2, putP0 hN2, putP hN2, settleP0 hN2, settleP hN2, rowP0 hN2, rowP hN2, storeP0 hN2 hlk2, storeP hN2 hlk2, List.length_nil, Nat.add_zero]
      obtain ⟨E0, hE0⟩ : ∃ E0 : List (Option AObj), [some (.cells 0 0 32 1 false [.v (.int .i64 i), .v (.int .i64 k), .v (.int .i64 0)])] = E0 := ⟨_, rfl⟩
      have hlo1 : loopObj (H'.plus E0) (N + 1 + 1) = some L := get_loopObj ((plus_get _ (by omega)).trans (loopObj_getI hlo))
      rw [hE0, plus_nil]
      refine ⟨rfl, hlo1, ?_⟩
      obtain ⟨X, hX⟩ : ∃ X, (H'.plus E0).put (N + 1 + 1) (.loop L') = X := ⟨_, rfl⟩
      have hszE : (H'.plus E0).size = N2 + 1 := by rw [plus_size, hN2, ← hE0]; rfl
      have hN3 : X.size = N2 + 1 := by rw [← hX, put_sizeI _ (by omega)]; exact hszE
      have hXg : ∀ b, b ≠ N + 1 + 1 → b < N2 → X.get b = H'.get b := fun b hb hb2 => by rw [← hX, put_get_ne _ (by omega) hb]; exact plus_get _ (by omega)
      have hXlk : X.lock = 0 := by rw [← hX]; exact hlk'
      have hlk3 : X.lock ≤ N2 + 1 := by omega
      have hXL : X.get (N + 1 + 1) = some (.loop L') := by rw [← hX]; exact put_get_eq _ (by omega)
      have hXc : X.get N2 = some (.cells 0 0 32 1 false [.v (.int .i64 i), .v (.int .i64 k), .v (.int .i64 0)]) := by rw [← hX, put_get_ne _ (by omega) (by omega), ← hE0]; exact plus_mid_get hN2 [] [] _
      have hXH : Has m0 X := fun p hp => (hXg p.1 (fun he => k3 ⟨p, hp, by omega⟩) (by have := get_ltS (hHm0 p hp); omega)).trans (hHm0 p hp)
      have hXN : X.get N = some (.cells 0 (bound (.yld l)) 123 1 false [.yld l]) := (hXg N (by omega) (by omega)).trans hgN'
      have hXF := hF s m0 X hR0 hXH hXlk
      have hb2n : b2 < N2 + 1 := by have := get_ltS (row_of_get hXF.2.2); omega
      have hrbX : ∀ F, (X.plus F).row N 0 = some (bound (.yld l), 123, 1, false, [.yld l]) := fun F => get_row ((plus_get _ (by omega)).trans hXN)
      have hrcX : ∀ F, (X.plus F).row N2 0 = some (0, 32, 1, false, [.v (.int .i64 i), .v (.int .i64 k), .v (.int .i64 0)]) := fun F => get_row ((plus_get _ (by omega)).trans hXc)
      have hr2X : ∀ F, (X.plus F).row b2 0 = some (0, 24, 1, false, [ch2]) := fun F => (hXF.plus F).2.2
      have g1 : ltB N (N2 + 1) = true := by unfold ltB; simp; omega
      have g2 : ltB N2 (N2 + 1) = true := by unfold ltB; simp
      have g3 : ltB b2 (N2 + 1) = true := by unfold ltB; simp; omega
      rw [hX, ← plus_nil X]
      simp -implicitDefEqProofs only [go_sem, ↓reduceIte, Int.reduceEq, Int.reduceLT, Int.reduceLE, List.reduceReplicate, intA, setT_nil, setT_cons, ↓boolP_bool, ↓iteB_true, ↓iteB_false, sizeP hN3, putP0 hN3, putP hN3, settleP0 hN3, settleP hN3, rowP0 hN3, rowP hN3, storeP0 hN3 hlk3, storeP hN3 hlk3, List.length_nil, Nat.add_zero]
      refine wp_drawX [([], [], false), ([0], [], false), ([], [], false), ([0, 1], [], false), ([], [], false), ([0, 1, 3], [], false), ([0, 1], [], false), ([0, 1], [], false), ([], [], true), ([], [], false)] (by kernel_rfl) (by kernel_rfl) ?_
      simp -implicitDefEqProofs only [go_sem, ↓reduceIte, Int.reduceEq, Int.reduceLT, Int.reduceLE, List.reduceReplicate, intA, setT_nil, setT_cons, ↓boolP_bool, ↓iteB_true, ↓iteB_false, hrbX, hrcX, hr2X, g1, g2, g3, h5, h6, List.isEmpty_nil, sizeP hN3, putP0 hN3, putP hN3, settleP0 hN3, settleP hN3, rowP0 hN3, rowP hN3, storeP0 hN3 hlk3, storeP hN3 hlk3, List.length_nil, Nat.add_zero]
      show effV _ _ _ _ _ _ (pairI tbf xf [placeA i k 0, lx]) _ _
      have hltX : ∀ p ∈ m0, p.1 < N2 + 1 := fun p hp => by have := get_ltS (hXH p hp); omega
      refine effV_yld2 hsrc s m0 _ hl h4 hR0 (hXH.plus _) hltX ((plus_lock _ _).trans hXlk) (by rw [plus_size]; omega) (by rw [plus_size, hN3]; rfl) (by omega) fun m1 G' q1 q2 q3 q4 q5 q6 => ?_
      show AtO (contP _ _ _ _ _ _ _ _ _ _ _) _ _
      rw [plus_size, hN3] at q4 q6
      rw [hp1]
      generalize hZ : settleH (N2 + 1) G' = Z
      have hZH : Has m1 Z := by rw [← hZ]; exact q2.settle _
      have hZl : Z.lock = 0 := by rw [← hZ]; exact settle_lock.trans q3
      have hZg : ∀ b, b < N2 + 1 → ¬ keyIn b m0 → Z.get b = X.get b := fun b hb hnb => by rw [← hZ, settle_lo hb, q5 b hb hnb]; exact plus_get _ (by omega)
      have hZs : N2 + 1 ≤ Z.size := by rw [← hZ]; exact settle_size' (by omega)
      have hfin : ∃ m', R72 R N l (stp s (pairI tbf xf [placeA i k 0, lx])).2 m' ∧ Has m' Z ∧ loopObj Z (N + 1 + 1) = some L' ∧ Moves ((N + 1 + 1, .loop L') :: (N, .cells 0 (bound (.yld l)) 123 1 false [.yld l]) :: m0) H' ((N + 1 + 1, .loop L') :: m') Z := by
        have hoff : ∀ b, b ≤ N + 2 → ¬ keyIn b m0 → ¬ keyIn b m1 := by
          rintro b hb hnb ⟨p, hp, he⟩
          rcases q6 p hp with ⟨q, hq, he2⟩ | h
          · exact hnb ⟨q, hq, by omega⟩
          · omega
        refine ⟨(N, .cells 0 (bound (.yld l)) 123 1 false [.yld l]) :: m1, ⟨m1, q1, hoff _ (by omega) k1, hoff _ (by omega) k2, hoff _ (by omega) k3, rfl⟩, fun p hp => ?_, get_loopObj ((hZg _ (by omega) k3).trans hXL), ?_, by omega, fun b hb hnb => ?_, fun p hp => ?_⟩
        · rcases List.mem_cons.1 hp with rfl | hp
          · exact (hZg N (by omega) k1).trans hXN
          · exact hZH p hp
        · rw [hZl, hlk']
        · have h9 : ¬ keyIn b m0 := fun ⟨q, hq, he⟩ => hnb ⟨q, List.mem_cons_of_mem _ (List.mem_cons_of_mem _ hq), he⟩
          have h10 : b ≠ N + 1 + 1 := fun he => hnb ⟨_, List.mem_cons_self .., he.symm⟩
          rw [hZg b (by omega) h9, hXg b h10 (by omega)]
        · rcases List.mem_cons.1 hp with rfl | hp
          · exact Or.inl ⟨_, List.mem_cons_self .., rfl⟩
          · rcases List.mem_cons.1 hp with rfl | hp
            · exact Or.inl ⟨_, List.mem_cons_of_mem _ (List.mem_cons_self ..), rfl⟩
            · rcases q6 p hp with ⟨q, hq, he⟩ | h
              · exact Or.inl ⟨q, List.mem_cons_of_mem _ (List.mem_cons_of_mem _ hq), he⟩
              · exact Or.inr (by omega)
      generalize stp s (pairI tbf xf [placeA i k 0, lx]) = r at hfin ⊢
      obtain ⟨rb, rs⟩ := r
      simp only at hfin
      cases rb
      · simp -implicitDefEqProofs only [go_sem, ↓reduceIte, Int.reduceEq, Int.reduceLT, Int.reduceLE, List.reduceReplicate, intA, setT_nil, setT_cons, ↓boolP_bool, ↓iteB_true, ↓iteB_false, hZ, bd2K_at]
        exact hfin
      · simp -implicitDefEqProofs only [go_sem, ↓reduceIte, Int.reduceEq, Int.reduceLT, Int.reduceLE, List.reduceReplicate, intA, setT_nil, setT_cons, ↓boolP_bool, ↓iteB_true, ↓iteB_false, hZ, bd2K_at]
        exact hfin
    · intro p hp
      rcases List.mem_cons.1 hp with rfl | hp
      · exact hgN
      · exact hH.plus _ p hp
    · rw [hN1]
      rintro m' H' ⟨m1, hR1, k1, k2, k3, rfl⟩ hH1 hd hdd hmv hsz'
      rw [fold72] at hR1 ⊢
      generalize hr : runIt stp ((chapIts 0 xs).map (pairI tbf xf)) s = r at hKK hR1 ⊢
      simp only at hR1 ⊢
      have hlk' : H'.lock = 0 := by rw [hmv.lock, plus_lock]; exact hlk
      have hkill : killAll [N + 1] H' = some (H'.put (N + 1) .dead) := by
        unfold killAll
        rw [hd]
        simp only
        rw [if_pos (by omega)]
        unfold killAll; rfl
      have hfin : ∃ m', R r.2 m' ∧ Has m' (H'.put (N + 1) .dead) ∧ Moves m H m' (H'.put (N + 1) .dead) := by
        refine ⟨m1, hR1, fun p hp => ?_, ?_, ?_, fun b hb hnb => ?_, fun p hp => ?_⟩
        · rw [put_get_ne _ (by omega) (fun he => k2 ⟨p, hp, he⟩)]
          exact hH1 p (List.mem_cons_of_mem _ hp)
        · show H'.lock = H.lock
          omega
        · rw [put_sizeI _ (by omega)]; omega
        · rw [put_get_ne _ (by omega) (by omega), hmv.same b (by omega) ?_]
          · exact plus_get _ hb
          · rintro ⟨q, hq, he⟩
            rcases List.mem_cons.1 hq with rfl | hq
            · simp only at he; omega
            · exact hnb ⟨q, hq, he⟩
        · rcases hmv.keys p (List.mem_cons_of_mem _ (List.mem_cons_of_mem _ hp)) with ⟨q, hq, he⟩ | h
          · rcases List.mem_cons.1 hq with rfl | hq
            · exact absurd ⟨p, hp, he.symm⟩ k1
            · exact Or.inl ⟨q, hq, he⟩
          · exact Or.inr (by omega)
      subst hKK
      cases hb : r.1 with
      | true =>
        simp -implicitDefEqProofs only [go_sem, ↓reduceIte, Int.reduceEq, Int.reduceLT, Int.reduceLE, List.reduceReplicate, intA, setT_nil, setT_cons, ↓boolP_bool, ↓iteB_true, ↓iteB_false, hkill]
        exact ⟨rfl, hfin⟩
      | false =>
        simp -implicitDefEqProofs only [go_sem, ↓reduceIte, Int.reduceEq, Int.reduceLT, Int.reduceLE, List.reduceReplicate, intA, setT_nil, setT_cons, ↓boolP_bool, ↓iteB_true, ↓iteB_false, hkill]
        exact ⟨rfl, hfin⟩
  obtain ⟨v, H', h1, h2⟩ : ∃ v H', lim (Cx e) (.call 72 ([.yld l] ++ [.ptr b1 0 0, .ptr b2 0 0]) H) = some (.ret v H') ∧ (v = .tup [] ∧ ∃ m', R (runIt stp ((chapIts 0 xs).map (pairI tbf xf)) s).2 m' ∧ Has m' H' ∧ Moves m H m' H') := by
    unfold Fn' at key
    rw [bindO_iff] at key
    obtain ⟨o, h1, h2⟩ := key
    cases o with
    | ret v H' => exact ⟨v, H', h1, h2⟩
    | _ => exact h2.elim
  obtain ⟨rfl, m', h3, h4, h5⟩ := h2
  exact ⟨H', m', h1, h3, h4, h5⟩
end Go.Ev
