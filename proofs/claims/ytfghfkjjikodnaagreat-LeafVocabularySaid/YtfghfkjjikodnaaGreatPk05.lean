/- What the proof of this claim stands on, part 6: an evaluator of the model, proved right, and what it answers for functions of the program. -/
import Derived.Test.YtfghfkjjikodnaaGreatPk04
set_option linter.unusedSimpArgs false
namespace Go.Ev
open Go.Proofs
set_option maxRecDepth 100000
set_option linter.unusedSimpArgs false
attribute [local irreducible] Wp WpS
theorem call80 {e : Exts} (he : Quiet e) (t : Txt) (ht : Fits t) (ch : AV) (xs : List AV) (hch : SlOf 2 xs ch) (hall : All2 ChapA t xs) (l : List Rd) (x : AV) (hx : RdsA l x) (hn : l.length < 2 ^ 63) (hrd : ∀ r ∈ l, RdF r) (me : FuncId) (d : Option Tmp) (H : Heap) : callA (Cx e) (lim (Cx e)) me 80 d [.agg [ch], x] H = some (.v (.bool (l.all (fitOne t))), H) :=
  (ans80 he t ht ch xs hch hall l x hx hn hrd).call (ext_80 he) (pure_80 _ _ _) (by simp only [boundL_cons, bound_agg, hch.bound, SlOf.bound hx, boundL_nil]; rfl) H
theorem fitsA8 : fitsA 8 1 = true := by decide
set_option maxHeartbeats 4000000 in
theorem ans58 {e : Exts} (he : Quiet e) (t : Txt) (ht : Fits t) (ch : AV) (xs : List AV) (hch : SlOf 2 xs ch) (hall : All2 ChapA t xs) (id : Int) (hid : withinB 0 9999 [id] = true) (rs : List Rd) (x : AV) (hx : RdsA rs x) (hrs : ¬ 20 < (rs.length : Int)) (hrd : ∀ r ∈ rs, RdF r) (hfit : rs.all (fitOne t) = true) (hord : ordB rs = true) (ys : List AV) (o : AV) (ho : SlOf 2 ys o) (hys : ∀ y ∈ ys, OkCh y) (hyl : ys.length < 2 ^ 63) (hit : ∀ z ∈ chapIts 0 ys, Item58 z) (hcnt : (chapIts 0 ys).length < 2 ^ 32) (h55 : Ans (Cx e) 55 [.agg [ch], .agg [intA id, x]] (.agg [o])) : Ans (Cx e) 58 [.agg [ch], .agg [intA id, x]] (.v (.bool (withinB 1 10 (lensOf ys)))) := by
  have hxr := hx
  have hx : SlOf 5 (rs.map rdV) x := hx
  have hc55 : ∀ (me : FuncId) (d : Option Tmp) (H : Heap), callA (Cx e) (lim (Cx e)) me 55 d [.agg [ch], .agg [.v (.int .i64 id), x]] H = some (.agg [o], H) := fun me d H =>
    h55.call (ext_55 he) (pure_55 _ _ _) (by simp only [boundL_cons, bound_agg, hch.bound, intA, bound_v, hx.bound, boundL_nil]; rfl) H
  have h51 := call51 he id
  rw [hid] at h51
  have h80 := call80 he t ht ch xs hch hall rs x hxr (by omega) hrd
  rw [hfit] at h80
  have h81 := call81 he rs x hxr (by omega)
  rw [hord] at h81
  unfold Ans
  rw [fn_step (fn_58 e) (show Tryz.f58.body = some _ from rfl)]
  simp -implicitDefEqProofs only [Tryz.f58, go_sem, ↓reduceIte, Int.reduceEq, Int.reduceLT, Int.reduceLE, List.reduceReplicate, intA, setT_nil, setT_cons, ↓boolP_bool, ↓iteB_true, ↓iteB_false, hch.cells, hch.flat, hch.bound, hx.cells, hx.flat, hx.bound, hx.len, List.length_map, h51, h80, h81, hrs, hc55, ho.cells, ho.flat, ho.bound, call64 he o ys ho]
  refine wp_range2 (yields2_88 o ys ho hys hyl) rfl (R58 ch id x) stp58 (fun _ => True) ok58 (n0 := 3) (k := 0) (Nat.le_refl _) (Nat.zero_le _) ?_ (fun s m h => R58_anch s m h) (fun s m h => R58_free s m h) ?_ ?_ [] (base58 ch id x (.v (.slice none 0 0)) 0) ?_ ?_ ?_ ?_ ?_ ?_
  · intro z hz
    obtain ⟨p, z, els, rfl, -⟩ := hit z hz
    rfl
  · intro _ _ _ _ _; trivial
  · intro L L' s m z X hL hs hok hxl hR hH hd0 hl1 hlk hsz
    obtain ⟨⟨p, z, els, rfl, hz⟩, hsl⟩ := hok
    obtain ⟨lv, m2, rows, hl, rfl⟩ := hR
    have hsz : 5 ≤ X.size := hsz
    have hl1 : loopObj X 4 = some L := hl1
    have hd0 : X.get 3 = some .dfr := hd0
    generalize hN : X.size = N at *
    have hlkN : X.lock ≤ N := by rw [hlk]; exact Nat.zero_le _
    rw [← plus_nil X]
    simp -implicitDefEqProofs only [go_sem, ↓reduceIte, Int.reduceEq, Int.reduceLT, Int.reduceLE, List.reduceReplicate, intA, setT_nil, setT_cons, sizeP hN, putP0 hN, putP hN, settleP0 hN, settleP hN, rowP0 hN, rowP hN, storeP0 hN hlkN, storeP hN hlkN]
    refine ⟨rfl, ?_, ?_⟩
    · refine get_loopObj ?_
      rw [plus_get _ (by omega)]; exact loopObj_getI hl1
    · rw [putLo (by omega)]
      have hf := R58_free (ch := ch) (id := id) (x := x) s _ ⟨lv, m2, rows, hl, rfl⟩
      have hH4 := hH.put (.loop L') (b := 4) (by omega) hf.2
      have hN4 : (X.put 4 (.loop L')).size = N := by rw [put_sizeI _ (by omega)]; exact hN
      have hlk4 : (X.put 4 (.loop L')).lock = 0 := hlk
      have hl4 : (X.put 4 (.loop L')).get 4 = some (.loop L') := put_get_eq _ (by omega)
      have hsm4 : ∀ b, b ≠ 4 → (X.put 4 (.loop L')).get b = X.get b := fun b hb => put_get_ne _ (by omega) hb
      generalize X.put 4 (.loop L') = Y at *
      have hlkY : Y.lock ≤ N := by rw [hlk4]; exact Nat.zero_le _
      have h2' : Y.row 2 0 = some (m2, 133, 1, false, [lv]) := get_row (hH4 (2, _) (List.mem_append_left _ (by unfold base58; simp)))
      have hr2 : ∀ E, (Y.plus E).row 2 0 = some (m2, 133, 1, false, [lv]) := fun E => by rw [rowLo (by omega)]; exact h2'
      have hst := fun (w : AV) (hw : w.flat = true) E => storeLoK (X := Y) (b := 2) (v := 0) (k := 0) (x := w) (by omega) (by omega) h2' (Nat.le_refl _) hw E
      have hst := fun b' v' l' c' E => hst (.sl b' v' 0 l' c') rfl E
      have hn : lenIt [p, z] = (els.length : Int) := by show ((slElems z).length : Int) = _; rw [hz.elems]
      rcases hl with ⟨rfl, rfl, rfl⟩ | ⟨b, v, rfl, hb5, hbm, rfl⟩
      · simp -implicitDefEqProofs only [go_sem, ↓reduceIte, Int.reduceEq, Int.reduceLT, Int.reduceLE, List.reduceReplicate, intA, setT_nil, setT_cons, sizeP hN4, putP0 hN4, putP hN4, settleP0 hN4, settleP hN4, rowP0 hN4, rowP hN4, storeP0 hN4 hlkY, storeP hN4 hlkY, hr2, hz.len, fitsA8, hst, List.flatMap_cons, List.flatMap_nil]
        rw [show stp58 [] [p, z] = (.normal, [] ++ [(els.length : Int)]) by unfold stp58; rw [hn]]
        rw [plus_nil]
        refine ⟨rfl, ?_⟩
        have hmm : N < (if m2 ≤ bound (AV.sl N 0 0 1 none) then bound (AV.sl N 0 0 1 none) else m2) := by rw [bound_sl]; split <;> omega
        generalize (if m2 ≤ bound (AV.sl N 0 0 1 none) then bound (AV.sl N 0 0 1 none) else m2) = m2' at *
        have hP : (Y.put 2 (.cells 0 m2' 133 1 false [.sl N 0 0 1 none])).size = N := by rw [put_sizeI _ (by omega)]; exact hN4
        have hH5 : Has (base58 ch id x (.v (.slice none 0 0)) m2 ++ []) Y := hH4
        have hfin := fin58 (W := settleH N ((Y.put 2 (.cells 0 m2' 133 1 false [.sl N 0 0 1 none])).plus [some (.cells 0 0 3 1 true [.v (.int .i64 els.length)])])) (s := []) hsm4 hl4 hN hlk hsz hH5 (els.length : Int) N 0 m2' ?_ ?_ ?_ ?_ ?_ hsz (Or.inl (Nat.le_refl _)) hmm
        · simpa using hfin
        · rw [settle_lo (by omega), plus_get _ (by omega)]; exact put_get_eq _ (by omega)
        · refine settle_some ?_
          rw [plus_get_hi _ (by omega), hP, Nat.sub_self]; rfl
        · intro b hb h2 hbb
          rw [settle_lo (by omega), plus_get _ (by omega), put_get_ne _ (by omega) (by omega)]
        · rw [settle_lock]; exact hlk4
        · exact settle_size' (by rw [plus_size, hP]; omega)
      · have hgb : Y.get b = some (.cells v 0 3 1 true (s.map intA)) := hH4 _ (List.mem_append_right _ (List.mem_singleton.2 rfl))
        have hbN : b < N := by have := get_ltS hgb; omega
        have hrb : ∀ E, (Y.plus E).row b v = some (0, 3, 1, true, s.map intA) := fun E => by rw [rowLo (by omega)]; exact get_row hgb
        have happ := fun E slot => appTo_own (H := Y.plus E) (slot := slot) (e := 3) (sz := 1) (b' := 8) (n := 1) (new := [.v (.int .i64 els.length)]) (hrb E) (by rw [Nat.mul_one, List.length_map]) (by show Y.lock ≤ _; omega) (by unfold fitsA; exact decide_eq_true (by omega)) (by omega) (by omega)
        have hpl := fun E o => putLo (X := Y) (b := b) (by omega) E o
        have hsto := fun o (w : AV) (hw : w.flat = true) E => storeLoK (X := Y.put b o) (b := 2) (v := 0) (k := 0) (x := w) (by rw [put_sizeI _ (by omega)]; omega) (by show Y.lock ≤ 2; omega) (get_row ((put_get_ne o (by omega) (by omega)).trans (row_of_get h2'))) (Nat.le_refl _) hw E
        have hsto := fun o b' v' l' c' E => hsto o (.sl b' v' 0 l' c') rfl E
        simp -implicitDefEqProofs only [go_sem, ↓reduceIte, Int.reduceEq, Int.reduceLT, Int.reduceLE, List.reduceReplicate, intA, setT_nil, setT_cons, sizeP hN4, putP0 hN4, putP hN4, settleP0 hN4, settleP hN4, rowP0 hN4, rowP hN4, storeP0 hN4 hlkY, storeP hN4 hlkY, hr2, hz.len, hst, List.flatMap_cons, List.flatMap_nil, happ, hpl, hsto]
        rw [show stp58 s [p, z] = (.normal, s ++ [(els.length : Int)]) by unfold stp58; rw [hn]]
        rw [plus_nil X]
        refine ⟨rfl, ?_⟩
        have hmm : b < (if m2 ≤ bound (AV.sl b (v + 1) 0 (s.length + 1) none) then bound (AV.sl b (v + 1) 0 (s.length + 1) none) else m2) := by rw [bound_sl]; split <;> omega
        generalize (if m2 ≤ bound (AV.sl b (v + 1) 0 (s.length + 1) none) then bound (AV.sl b (v + 1) 0 (s.length + 1) none) else m2) = m2' at *
        have hP1 : (Y.put b (.cells (v + 1) 0 3 1 true (s.map intA ++ [.v (.int .i64 els.length)]))).size = N := by rw [put_sizeI _ (by omega)]; exact hN4
        have hP : ((Y.put b (.cells (v + 1) 0 3 1 true (s.map intA ++ [.v (.int .i64 els.length)]))).put 2 (.cells 0 m2' 133 1 false [.sl b (v + 1) 0 (s.length + 1) none])).size = N := by rw [put_sizeI _ (by omega)]; exact hP1
        have hfin := fin58 (W := settleH N (((Y.put b (.cells (v + 1) 0 3 1 true (s.map intA ++ [.v (.int .i64 els.length)]))).put 2 (.cells 0 m2' 133 1 false [.sl b (v + 1) 0 (s.length + 1) none])).plus [])) (s := s) hsm4 hl4 hN hlk hsz hH4 (els.length : Int) b (v + 1) m2' ?_ ?_ ?_ ?_ ?_ hb5 (Or.inr ⟨_, List.mem_singleton.2 rfl, rfl⟩) hmm
        · exact hfin
        · rw [settle_lo (by omega), plus_get _ (by omega)]; exact put_get_eq _ (by omega)
        · rw [settle_lo (by omega), plus_get _ (by omega), put_get_ne _ (by omega) (by omega), put_get_eq _ (by omega), List.map_append]; rfl
        · intro b' hb h2 hbb
          rw [settle_lo (by omega), plus_get _ (by omega), put_get_ne _ (by omega) (by omega), put_get_ne _ (by omega) (by omega)]
        · rw [settle_lock]; exact hlk4
        · exact settle_size' (by rw [plus_size, hP]; omega)
  · exact (run58 _ _ hit (by simp only [List.length_nil]; omega)).1
  · trivial
  · exact ⟨_, 0, [], Or.inl ⟨rfl, rfl, rfl⟩, by rw [List.append_nil]⟩
  · intro q hq
    unfold base58 at hq
    simp only [List.mem_cons, List.not_mem_nil, or_false] at hq
    rcases hq with rfl | rfl | rfl <;> rfl
  · rfl
  · intro m' H' hR hH hd hdead hmv hsz
    rw [(run58 _ _ hit (by simp only [List.length_nil]; omega)).2] at hR ⊢
    obtain ⟨lv, m2, rows, hl, rfl⟩ := hR
    have hlk : H'.lock = 0 := hmv.lock
    have hsz : 5 ≤ H'.size := hsz
    have hd : H'.get 3 = some .dfr := hd
    simp only [List.nil_append, chapIts_lens] at hl
    have hr2 : H'.row 2 0 = some (m2, 133, 1, false, [lv]) := get_row (hH (2, _) (List.mem_append_left _ (by unfold base58; simp)))
    have hcl : (lensOf ys).length < 2 ^ 63 := by rw [← chapIts_lens 0 ys, List.length_map]; omega
    have hslh : SlH H' ((lensOf ys).map intA) lv := by
      rcases hl with ⟨h0, rfl, -⟩ | ⟨b, v, rfl, hb5, hbm, rfl⟩
      · exact Or.inl (Or.inl ⟨rfl, by rw [h0]; rfl⟩)
      · have hgb : H'.get b = some (.cells v 0 3 1 true ((lensOf ys).map intA)) := hH _ (List.mem_append_right _ (List.mem_singleton.2 rfl))
        exact Or.inr ⟨b, v, none, 0, 3, true, _, by rw [List.length_map], get_size hgb, get_row hgb, List.take_length, Nat.le_refl _⟩
    have hc82 := callP82 he (lensOf ys) lv hslh hcl
    have hkill : killAll [3] H' = some (H'.put 3 .dead) := by
      unfold killAll
      rw [hd]
      show (if H'.lock ≤ 3 then killAll [] (H'.put 3 .dead) else none) = _
      rw [if_pos (by omega)]; rfl
    clear hmv hdead
    simp -implicitDefEqProofs only [go_sem, ↓reduceIte, Int.reduceEq, Int.reduceLT, Int.reduceLE, List.reduceReplicate, intA, setT_nil, setT_cons, hr2, hc82, hkill]
theorem has58 {e : Exts} (he : Quiet e) (t : Txt) (ht : Fits t) (ch : AV) (xs : List AV) (hch : SlOf 2 xs ch) (hall : All2 ChapA t xs) (id : Int) (hid : withinB 0 9999 [id] = true) (rs : List Rd) (x : AV) (hx : RdsA rs x) (hrs : ¬ 20 < (rs.length : Int)) (hrd : ∀ r ∈ rs, RdF r) (hfit : rs.all (fitOne t) = true) (hord : ordB rs = true) (ys : List AV) (o : AV) (ho : SlOf 2 ys o) (hys : ∀ y ∈ ys, OkCh y) (hyl : ys.length < 2 ^ 63) (hit : ∀ z ∈ chapIts 0 ys, Item58 z) (hcnt : (chapIts 0 ys).length < 2 ^ 32) (h55 : Ans (Cx e) 55 [.agg [ch], .agg [intA id, x]] (.agg [o])) : Has58 e ch id x (withinB 1 10 (lensOf ys)) := fun me d H =>
  (ans58 he t ht ch xs hch hall id hid rs x hx hrs hrd hfit hord ys o ho hys hyl hit hcnt h55).call (ext_58 he) (pure_58 _ _ _) (by simp only [boundL_cons, bound_agg, hch.bound, intA, bound_v, SlOf.bound hx, boundL_nil]; rfl) H
end Go.Ev
namespace Go.Ev
open Go.Proofs
set_option maxRecDepth 100000
set_option linter.unusedSimpArgs false
/-! ### a line of a copy, read in either way -/
/-- how readings of one line stand one behind the other -/
def Bhd (a b : Rd) : Prop := a.wd ≤ b.wd ∧ (a.kind ≠ 2 → a.wd < b.wd)
/-- a way to write a copy's line word by word -/
structure Way (ls : Line) (on : Rd → Prop) (W : List Rd → List ByteArray → Nat → List ByteArray) : Prop where
  none : ∀ ds w s, ls[w]? = some s → W [] ds w = ds ++ [s]
  last : ∀ ds, W [] ds ls.length = ds
  skip : ∀ (r : Rd) (l : List Rd) (ds : List ByteArray) (w : Nat), r.wd ≠ (w : Nat) → W (r :: l) ds w = W l ds w
  put : ∀ (r : Rd) (l : List Rd) (ds : List ByteArray) (w : Nat), on r → r.wd = (w : Nat) → r.kind = 2 → W (r :: l) ds w = W l (ds ++ [r.word]) w
  other : ∀ (r : Rd) (l : List Rd) (ds : List ByteArray) (w : Nat), on r → r.wd = (w : Nat) → r.kind ≠ 2 → w < ls.length → (∀ q ∈ l, q.wd ≠ (w : Nat)) → W (r :: l) ds w = ds ++ if r.word = emp then [] else [r.word]
theorem Way.far {ls : Line} {on : Rd → Prop} {W : List Rd → List ByteArray → Nat → List ByteArray} (hW : Way ls on W) (ds : List ByteArray) (w : Nat) : ∀ l : List Rd, (∀ r ∈ l, r.wd ≠ (w : Nat)) → W l ds w = W [] ds w
  | [], _ => rfl
  | r :: l, h => by rw [hW.skip r l ds w (h r (List.mem_cons_self ..)), hW.far ds w l fun q hq => h q (List.mem_cons_of_mem _ hq)]
theorem drop_take_succ (ls : Line) (p n : Nat) (s : ByteArray) (h : ls[p]? = some s) : (ls.drop p).take (n + 1) = s :: (ls.drop (p + 1)).take n := by
  obtain ⟨hp, rfl⟩ := List.getElem?_eq_some_iff.1 h
  rw [List.drop_eq_getElem_cons hp, List.take_succ_cons]
theorem Way.free {ls : Line} {on : Rd → Prop} {W : List Rd → List ByteArray → Nat → List ByteArray} (hW : Way ls on W) (l : List Rd) : ∀ (n p : Nat) (ds : List ByteArray), p + n ≤ ls.length → (∀ r ∈ l, ((p + n : Nat) : Int) ≤ r.wd) → (List.range' p n).foldl (W l) ds = ds ++ (ls.drop p).take n
  | 0, p, ds, _, _ => by simp
  | n + 1, p, ds, h1, h2 => by
    obtain ⟨s, hs⟩ := at_lt ls p (by omega)
    rw [List.range'_succ, List.foldl_cons, hW.far ds p l (fun r hr => by have := h2 r hr; omega), hW.none ds p s hs, hW.free l n (p + 1) (ds ++ [s]) (by omega) (fun r hr => by have := h2 r hr; omega), drop_take_succ ls p n s hs, List.append_assoc]
    rfl
theorem foldl_eq {α β : Type} {f g : α → β → α} : ∀ (l : List β) (a : α), (∀ b ∈ l, ∀ a, f a b = g a b) → l.foldl f a = l.foldl g a
  | [], _, _ => rfl
  | b :: l, a, h => by rw [List.foldl_cons, List.foldl_cons, h b (List.mem_cons_self ..) a, foldl_eq l _ fun c hc => h c (List.mem_cons_of_mem _ hc)]
theorem range'_split (p q n : Nat) (h1 : p ≤ q) (h2 : q ≤ n) : List.range' p (n - p) = List.range' p (q - p) ++ List.range' q (n - q) := by
  have h := List.range'_append (s := p) (m := q - p) (n := n - q) (step := 1)
  rw [Nat.one_mul, show p + (q - p) = q by omega, show q - p + (n - q) = n - p by omega] at h
  exact h.symm
/-- the word is what the kind says -/
structure RdW (ls : Line) (r : Rd) : Prop where
  kind : r.kind = 1 ∨ r.kind = 2 ∨ r.kind = 3
  word : r.kind = 1 ↔ r.word = emp
  hi : r.wd + (if r.kind = 2 then 0 else 1) ≤ ls.length
theorem way_read {ls : Line} {on : Rd → Prop} {W : List Rd → List ByteArray → Nat → List ByteArray} (hW : Way ls on W) : ∀ (l : List Rd) (p : Nat) (ds : List ByteArray), p ≤ ls.length → (∀ r ∈ l, on r ∧ RdW ls r ∧ (p : Int) ≤ r.wd) → l.Pairwise Bhd →
    (List.range' p (ls.length + 1 - p)).foldl (W l) ds = (l.foldl (rdOne ls) (p, ds)).2 ++ ls.drop (l.foldl (rdOne ls) (p, ds)).1
  | [], p, ds, hp, _, _ => by
    rw [range'_split p ls.length (ls.length + 1) hp (Nat.le_succ _), List.foldl_append, hW.free [] (ls.length - p) p ds (by omega) (fun r hr => nomatch hr), Nat.add_sub_cancel_left]
    show W [] _ ls.length = _
    rw [hW.last]
    show _ = ds ++ ls.drop p
    rw [List.take_of_length_le (by rw [List.length_drop]; exact Nat.le_refl _)]
  | r :: l, p, ds, hp, hr, hs => by
    obtain ⟨hon, hrw, hpw⟩ := hr r (List.mem_cons_self ..)
    obtain ⟨hb, hs'⟩ := List.pairwise_cons.1 hs
    obtain ⟨q, hq⟩ : ∃ q : Nat, r.wd = q := ⟨r.wd.toNat, by omega⟩
    have hhi := hrw.hi
    have hql : q ≤ ls.length := by split at hhi <;> omega
    have hqt : r.wd.toNat = q := by omega
    have hall : ∀ x ∈ r :: l, (q : Int) ≤ x.wd := fun x hx => by
      rcases List.mem_cons.1 hx with rfl | hx
      · omega
      · have := (hb x hx).1; omega
    have hf := hW.free (r :: l) (q - p) p ds (by omega) (fun x hx => by have := hall x hx; omega)
    rw [range'_split p q (ls.length + 1) (by omega) (by omega), List.foldl_append, hf]
    have hrest : ∀ (a : List ByteArray) (n : Nat), (List.range' (q + 1) n).foldl (W (r :: l)) a = (List.range' (q + 1) n).foldl (W l) a := fun a n =>
      foldl_eq _ a fun w hw a => hW.skip r l a w (by have := (List.mem_range'_1.1 hw).1; omega)
    by_cases hk : r.kind = 2
    · have hd : (r :: l).foldl (rdOne ls) (p, ds) = l.foldl (rdOne ls) (q, ds ++ (ls.drop p).take (q - p) ++ [r.word]) := by
        rw [List.foldl_cons]; unfold rdOne
        simp only [hk, hqt, if_true]
        rw [if_neg (by omega)]
      rw [hd, ← way_read hW l q _ hql (fun x hx => ⟨(hr x (List.mem_cons_of_mem _ hx)).1, (hr x (List.mem_cons_of_mem _ hx)).2.1, hall x (List.mem_cons_of_mem _ hx)⟩) hs']
      rw [show ls.length + 1 - q = (ls.length - q) + 1 by omega, List.range'_succ, List.foldl_cons, List.foldl_cons, hW.put r l _ q hon hq hk, hrest]
    · have hlt : q < ls.length := by rw [if_neg hk] at hhi; omega
      have hne : ∀ x ∈ l, x.wd ≠ (q : Nat) := fun x hx => by have := (hb x hx).2 hk; omega
      have hw : (if r.kind = 1 then ([] : List ByteArray) else [r.word]) = if r.word = emp then [] else [r.word] := by
        by_cases h1 : r.kind = 1
        · rw [if_pos h1, if_pos (hrw.word.1 h1)]
        · rw [if_neg h1, if_neg (fun h => h1 (hrw.word.2 h))]
      have hd : (r :: l).foldl (rdOne ls) (p, ds) = l.foldl (rdOne ls) (q + 1, ds ++ (ls.drop p).take (q - p) ++ if r.word = emp then [] else [r.word]) := by
        rw [List.foldl_cons]; unfold rdOne
        simp only [hk, hqt, if_false, hw]
      rw [hd, ← way_read hW l (q + 1) _ hlt (fun x hx => ⟨(hr x (List.mem_cons_of_mem _ hx)).1, (hr x (List.mem_cons_of_mem _ hx)).2.1, by have := (hb x hx).2 hk; omega⟩) hs']
      rw [show ls.length + 1 - q = (ls.length + 1 - (q + 1)) + 1 by omega, List.range'_succ, List.foldl_cons, hW.other r l _ q hon hq hk hlt hne, hrest]
theorem way_line {ls : Line} {on : Rd → Prop} {W : List Rd → List ByteArray → Nat → List ByteArray} (hW : Way ls on W) (l : List Rd) (hr : ∀ r ∈ l, on r ∧ RdW ls r ∧ 0 ≤ r.wd) (hs : l.Pairwise Bhd) : (List.range (ls.length + 1)).foldl (W l) [] = readLineL ls l := by
  rw [List.range_eq_range']
  exact way_read hW l 0 [] (Nat.zero_le _) hr hs
/-- readings of a line, one behind the other, are read -/
theorem rdsOk_of {ls : Line} : ∀ (l : List Rd) (p : Nat), (∀ r ∈ l, RdW ls r ∧ (p : Int) ≤ r.wd) → l.Pairwise Bhd → RdsOk ls p l
  | [], _, _, _ => trivial
  | r :: l, p, hr, hs => by
    obtain ⟨hrw, hpw⟩ := hr r (List.mem_cons_self ..)
    obtain ⟨hb, hs'⟩ := List.pairwise_cons.1 hs
    refine ⟨⟨hpw, hrw.kind, hrw.hi⟩, rdsOk_of l _ (fun x hx => ⟨(hr x (List.mem_cons_of_mem _ hx)).1, ?_⟩) hs'⟩
    have h := hb x hx
    have h0 : 0 ≤ r.wd := by omega
    by_cases hk : r.kind = 2
    · rw [if_pos hk]; have := h.1; omega
    · rw [if_neg hk]; have := h.2 hk; omega
/-! ### the reference's way -/
theorem refI_far (k n : Int) (w : Nat) (l : List Rd) (h : ∀ q ∈ l, q.wd ≠ (w : Nat)) (s : List ByteArray × ByteArray) : l.foldl (refI k n w) s = s := by
  induction l generalizing s with
  | nil => rfl
  | cons r l ih =>
    have : refI k n w s r = s := by unfold refI; rw [if_neg (fun hh => h r (List.mem_cons_self ..) hh.2.2)]
    rw [List.foldl_cons, this, ih fun q hq => h q (List.mem_cons_of_mem _ hq)]
theorem way_ref (ls : Line) (hne : ∀ s ∈ ls, s ≠ emp) (k n : Int) : Way ls (fun r => r.ch = k ∧ r.ln = n) (fun l => refW ls l k n) := by
  refine ⟨fun ds w s hs => ?_, fun ds => ?_, fun r l ds w h => ?_, fun r l ds w ho h hk => ?_, fun r l ds w ho h hk hw hf => ?_⟩
  · unfold refW
    simp only [List.foldl_nil, hs, Option.getD_some]
    rw [if_neg (hne s (List.mem_of_getElem? hs))]
  · unfold refW
    simp only [List.foldl_nil, List.getElem?_eq_none_iff.2 (Nat.le_refl _), Option.getD_none, if_true]
  · unfold refW
    rw [List.foldl_cons, show refI k n w (ds, (ls[w]?).getD emp) r = (ds, (ls[w]?).getD emp) by unfold refI; rw [if_neg (fun hh => h hh.2.2)]]
  · unfold refW
    rw [List.foldl_cons, show refI k n w (ds, (ls[w]?).getD emp) r = (ds ++ [r.word], (ls[w]?).getD emp) by unfold refI; rw [if_pos ⟨ho.1, ho.2, h⟩, if_pos hk]]
  · unfold refW
    rw [List.foldl_cons, show refI k n w (ds, (ls[w]?).getD emp) r = (ds, r.word) by unfold refI; rw [if_pos ⟨ho.1, ho.2, h⟩, if_neg hk], refI_far k n w l hf]
    simp only
    split
    · rw [List.append_nil]
    · rfl
theorem atLine_iff {k n : Int} {r : Rd} : atLine k n 0 r = true ↔ r.ch = k ∧ r.ln = n := by
  unfold atLine eqP; simp
theorem refW_filter (ls : Line) (rs : List Rd) (k n : Int) (ds : List ByteArray) (w : Nat) : refW ls rs k n ds w = refW ls (rs.filter (atLine k n 0)) k n ds w := by
  have h : ∀ (l : List Rd) (s : List ByteArray × ByteArray), l.foldl (refI k n w) s = (l.filter (atLine k n 0)).foldl (refI k n w) s := by
    intro l
    induction l with
    | nil => intro s; rfl
    | cons r l ih =>
      intro s
      cases ha : atLine k n 0 r
      · have : refI k n w s r = s := by unfold refI; rw [if_neg (fun hh => by rw [atLine_iff.2 ⟨hh.1, hh.2.1⟩] at ha; cases ha)]
        rw [List.foldl_cons, this, ih, List.filter_cons_of_neg (by rw [ha]; simp)]
      · rw [List.filter_cons_of_pos ha, List.foldl_cons, List.foldl_cons, ih]
  unfold refW; rw [h rs]
/-! ### the law's way -/
def putAt (k n w : Int) (r : Rd) : Bool := decide (r.kind = 2) && eqP r.ch r.ln r.wd k n w
def lawW (ls : Line) (rs : List Rd) (k n : Int) (ds : List ByteArray) (w : Nat) : List ByteArray :=
  let d := ds ++ (rs.filter (putAt k n w)).map Rd.word
  match ls[w]? with
  | none => d
  | some s => if standL rs k n w s = emp then d else d ++ [standL rs k n w s]
theorem eqP_wd {r : Rd} {k n : Int} {w : Nat} (h : r.wd ≠ (w : Nat)) : eqP r.ch r.ln r.wd k n w = false := by
  unfold eqP; simp; intro _ _ h2; exact h h2
theorem eqP_on {r : Rd} {k n : Int} {w : Nat} (h : r.ch = k ∧ r.ln = n) (hw : r.wd = (w : Nat)) : eqP r.ch r.ln r.wd k n w = true := by
  unfold eqP; simp [h.1, h.2, hw]
theorem stand_cons_no {r : Rd} {l : List Rd} {k n w : Int} {s : ByteArray} (h : takesB k n w r = false) : standL (r :: l) k n w s = standL l k n w s := by unfold standL; rw [List.find?_cons, h]
theorem stand_cons_yes {r : Rd} {l : List Rd} {k n w : Int} {s : ByteArray} (h : takesB k n w r = true) : standL (r :: l) k n w s = r.word := by unfold standL; rw [List.find?_cons, h]
theorem way_law (ls : Line) (hne : ∀ s ∈ ls, s ≠ emp) (k n : Int) : Way ls (fun r => r.ch = k ∧ r.ln = n) (fun l => lawW ls l k n) := by
  refine ⟨fun ds w s hs => ?_, fun ds => ?_, fun r l ds w h => ?_, fun r l ds w ho h hk => ?_, fun r l ds w ho h hk hw hf => ?_⟩
  · unfold lawW
    have h0 : standL [] k n w s = s := rfl
    simp only [hs, List.filter_nil, List.map_nil, List.append_nil, h0]
    rw [if_neg (hne s (List.mem_of_getElem? hs))]
  · unfold lawW
    simp only [List.getElem?_eq_none_iff.2 (Nat.le_refl _), List.filter_nil, List.map_nil, List.append_nil]
  · have h1 : putAt k n w r = false := by unfold putAt; rw [eqP_wd h, Bool.and_false]
    have h2 : takesB k n w r = false := by unfold takesB; rw [eqP_wd h]; rfl
    unfold lawW
    rw [List.filter_cons_of_neg (by rw [h1]; simp)]
    simp only [stand_cons_no h2]
  · have h1 : putAt k n w r = true := by unfold putAt; rw [eqP_on ho h, Bool.and_true]; exact decide_eq_true hk
    have h2 : takesB k n w r = false := by unfold takesB; rw [decide_eq_true hk, Bool.not_true, Bool.and_false]
    unfold lawW
    rw [List.filter_cons_of_pos h1]
    simp only [stand_cons_no h2, List.map_cons, List.append_assoc, List.singleton_append]
  · have h1 : putAt k n w r = false := by unfold putAt; rw [decide_eq_false hk]; rfl
    have h2 : takesB k n w r = true := by unfold takesB; rw [eqP_on ho h, decide_eq_false hk]; rfl
    have h3 : l.filter (putAt k n w) = [] := List.filter_eq_nil_iff.2 fun q hq => by unfold putAt; rw [eqP_wd (hf q hq), Bool.and_false]; simp
    obtain ⟨s, hs⟩ := at_lt ls w hw
    unfold lawW
    rw [List.filter_cons_of_neg (by rw [h1]; simp), h3]
    simp only [hs, stand_cons_yes h2, List.map_nil, List.append_nil]
    split
    · rw [List.append_nil]
    · rfl
theorem lawW_filter (ls : Line) (rs : List Rd) (k n : Int) (ds : List ByteArray) (w : Nat) : lawW ls rs k n ds w = lawW ls (rs.filter (atLine k n 0)) k n ds w := by
  have ha : ∀ r : Rd, eqP r.ch r.ln r.wd k n w = true → atLine k n 0 r = true := fun r h => by
    unfold eqP at h; simp at h; exact atLine_iff.2 ⟨h.1, h.2.1⟩
  have h1 : rs.filter (putAt k n w) = (rs.filter (atLine k n 0)).filter (putAt k n w) := by
    rw [List.filter_filter]
    refine List.filter_congr fun r _ => ?_
    cases hp : putAt k n w r
    · rfl
    · have : eqP r.ch r.ln r.wd k n w = true := by unfold putAt at hp; simp only [Bool.and_eq_true] at hp; exact hp.2
      rw [ha r this]; rfl
  have h2 : ∀ s, standL rs k n w s = standL (rs.filter (atLine k n 0)) k n w s := fun s => by
    induction rs with
    | nil => rfl
    | cons r l ih =>
      cases hl : atLine k n 0 r
      · have ht : takesB k n w r = false := by
          cases ht : takesB k n w r
          · rfl
          · unfold takesB at ht; simp only [Bool.and_eq_true] at ht; rw [ha r ht.1] at hl; cases hl
        rw [stand_cons_no ht, List.filter_cons_of_neg (by rw [hl]; simp)]
        exact ih (by rw [List.filter_filter]; refine List.filter_congr fun r _ => ?_; cases hp : putAt k n w r
                     · rfl
                     · have : eqP r.ch r.ln r.wd k n w = true := by unfold putAt at hp; simp only [Bool.and_eq_true] at hp; exact hp.2
                       rw [ha r this]; rfl)
      · rw [List.filter_cons_of_pos hl]
        unfold standL
        rw [List.find?_cons, List.find?_cons]
        cases ht : takesB k n w r
        · exact ih (by rw [List.filter_filter]; refine List.filter_congr fun r _ => ?_; cases hp : putAt k n w r
                       · rfl
                       · have : eqP r.ch r.ln r.wd k n w = true := by unfold putAt at hp; simp only [Bool.and_eq_true] at hp; exact hp.2
                         rw [ha r this]; rfl)
        · rfl
  unfold lawW; rw [← h1]; simp only [← h2]
end Go.Ev
namespace Go.Ev
open Go.Proofs
set_option maxRecDepth 100000
set_option linter.unusedSimpArgs false
/-! ### readings in order -/
def Ahd (a b : Rd) : Prop := a.ch < b.ch ∨ (a.ch = b.ch ∧ (a.ln < b.ln ∨ (a.ln = b.ln ∧ a.wd ≤ b.wd ∧ (a.kind ≠ 2 → a.wd < b.wd))))
theorem Ahd.trans {a b c : Rd} (h1 : Ahd a b) (h2 : Ahd b c) : Ahd a c := by
  unfold Ahd at *; omega
theorem pairR_ahd {a b : Rd} (h : pairR a b = true) : Ahd a b := by
  unfold pairR beforeB eqP at h
  unfold Ahd
  simp only [Bool.not_eq_true', Bool.or_eq_false_iff, Bool.and_eq_false_iff, Bool.not_eq_false', decide_eq_false_iff_not, decide_eq_true_eq, ne_eq] at h
  obtain ⟨h1, h2⟩ := h
  split at h1
  · simp only [decide_eq_false_iff_not] at h1; omega
  · split at h1
    · simp only [decide_eq_false_iff_not] at h1; omega
    · simp only [decide_eq_false_iff_not] at h1; omega
theorem cmpI_pos (a b : Int) : 0 < cmpI a b ↔ b < a := by unfold cmpI; split <;> (try split) <;> omega
theorem cmpI_zero (a b : Int) : cmpI a b = 0 ↔ a = b := by unfold cmpI; split <;> (try split) <;> omega
theorem cmpP_pos (a b c a' b' c' : Int) : 0 < cmpP a b c a' b' c' ↔ a' < a ∨ (a = a' ∧ (b' < b ∨ (b = b' ∧ c' < c))) := by
  unfold cmpP
  simp only [orI]
  have h1 := cmpI_pos a a'; have h2 := cmpI_pos b b'; have h3 := cmpI_pos c c'
  have e1 := cmpI_zero a a'; have e2 := cmpI_zero b b'; have e3 := cmpI_zero c c'
  split
  · split
    · split <;> omega
    · omega
  · omega
theorem ahd_pairB {a b : Rd} (h : Ahd a b) : pairB a b = true := by
  unfold Ahd at h
  have hc : ¬ 0 < cmpP a.ch a.ln a.wd b.ch b.ln b.wd := by rw [cmpP_pos]; omega
  have he : (eqP a.ch a.ln a.wd b.ch b.ln b.wd && !decide (a.kind = 2)) = false := by
    unfold eqP
    simp only [Bool.and_eq_false_iff, Bool.not_eq_false', decide_eq_false_iff_not, decide_eq_true_eq]
    omega
  unfold pairB
  rw [he, decide_eq_false hc]; rfl
theorem rdsB_all (t : Txt) : ∀ (l : List Rd) (p : Option Rd), rdsB t p l = true → (∀ r ∈ l, readB t r = true) ∧ l.Pairwise Ahd ∧ (∀ q, p = some q → ∀ r ∈ l, Ahd q r)
  | [], _, _ => ⟨(fun r h => nomatch h), List.Pairwise.nil, (fun _ _ r h => nomatch h)⟩
  | r :: l, p, h => by
    unfold rdsB at h
    simp only [Bool.and_eq_true] at h
    obtain ⟨⟨h1, h2⟩, h3⟩ := h
    obtain ⟨i1, i2, i3⟩ := rdsB_all t l (some r) h3
    have i3 := i3 r rfl
    refine ⟨fun x hx => ?_, List.pairwise_cons.2 ⟨i3, i2⟩, fun q hq x hx => ?_⟩
    · rcases List.mem_cons.1 hx with rfl | hx
      · exact h1
      · exact i1 x hx
    · subst hq
      have hr := pairR_ahd h2
      rcases List.mem_cons.1 hx with rfl | hx
      · exact hr
      · exact hr.trans (i3 x hx)
theorem ordB_of : ∀ (l : List Rd), l.Pairwise Ahd → ordB l = true
  | [], _ => rfl
  | [a], _ => rfl
  | a :: b :: r, h => by
    obtain ⟨h1, h2⟩ := List.pairwise_cons.1 h
    show (pairB a b && ordB (b :: r)) = true
    rw [ahd_pairB (h1 b (List.mem_cons_self ..)), ordB_of (b :: r) h2]; rfl
theorem wordB_ne {s : ByteArray} (h : wordB s = true) : s ≠ emp := by
  rintro rfl
  unfold wordB at h
  simp only [Bool.and_eq_true] at h
  have := h.1
  revert this; decide
/-- a copy whose readings fit, in order -/
structure Cpy (t : Txt) (rs : List Rd) : Prop where
  fit : ∀ r ∈ rs, readB t r = true
  ord : rs.Pairwise Ahd
theorem Cpy.of {t : Txt} {rs : List Rd} (h : rdsB t none rs = true) : Cpy t rs := ⟨(rdsB_all t rs none h).1, (rdsB_all t rs none h).2.1⟩
/-- the readings of one line -/
def ofLn (rs : List Rd) (k n : Int) : List Rd := rs.filter (atLine k n 0)
theorem ofLn_mem {rs : List Rd} {k n : Int} {r : Rd} : r ∈ ofLn rs k n ↔ r ∈ rs ∧ r.ch = k ∧ r.ln = n := by
  unfold ofLn; rw [List.mem_filter, atLine_iff]
theorem Cpy.bhd {t : Txt} {rs : List Rd} (h : Cpy t rs) (k n : Int) : (ofLn rs k n).Pairwise Bhd := by
  have h1 : (ofLn rs k n).Pairwise Ahd := h.ord.sublist List.filter_sublist
  refine h1.imp_of_mem fun ha hb hr => ?_
  have h2 := (ofLn_mem.1 ha).2
  have h3 := (ofLn_mem.1 hb).2
  unfold Ahd at hr
  unfold Bhd
  omega
theorem Cpy.rdw {t : Txt} {rs : List Rd} (h : Cpy t rs) {k n : Int} {ls : Line} (hl : lineAt t k n = some ls) {r : Rd} (hr : r ∈ ofLn rs k n) : RdW ls r ∧ 0 ≤ r.wd := by
  obtain ⟨hm, h1, h2⟩ := ofLn_mem.1 hr
  have hf := h.fit r hm
  unfold readB at hf
  rw [h1, h2, hl] at hf
  simp only at hf
  split at hf
  · rename_i hk
    unfold fits1 at hf
    simp only [Bool.and_eq_true, decide_eq_true_eq] at hf
    exact ⟨⟨Or.inl hk, ⟨fun _ => hf.2, fun _ => hk⟩, by rw [if_neg (by omega)]; omega⟩, hf.1.1⟩
  · split at hf
    · rename_i hk1 hk
      unfold fits2 withinB at hf
      simp only [List.all_cons, List.all_nil, Bool.and_true, Bool.and_eq_true, decide_eq_true_eq] at hf
      exact ⟨⟨Or.inr (Or.inl hk), ⟨fun h => absurd h hk1, fun h => absurd h (wordB_ne hf.2)⟩, by rw [if_pos hk]; omega⟩, hf.1.1⟩
    · split at hf
      · rename_i hk1 hk2 hk
        unfold fits3 at hf
        simp only [Bool.and_eq_true, decide_eq_true_eq] at hf
        exact ⟨⟨Or.inr (Or.inr hk), ⟨fun h => absurd h hk1, fun h => absurd h (wordB_ne hf.1.2)⟩, by rw [if_neg hk2]; omega⟩, hf.1.1.1⟩
      · cases hf
theorem Cpy.rdsOk {t : Txt} {rs : List Rd} (h : Cpy t rs) {k n : Int} {ls : Line} (hl : lineAt t k n = some ls) : RdsOk ls 0 (ofLn rs k n) :=
  rdsOk_of _ 0 (fun r hr => ⟨(h.rdw hl hr).1, by have := (h.rdw hl hr).2; omega⟩) (h.bhd k n)
theorem foldl_same {α β : Type} {f g : α → β → α} (h : ∀ a b, f a b = g a b) (l : List β) (a : α) : l.foldl f a = l.foldl g a := foldl_eq l a fun b _ a => h a b
theorem Cpy.line {t : Txt} {rs : List Rd} (h : Cpy t rs) {k n : Int} {ls : Line} (hl : lineAt t k n = some ls) (hne : ∀ s ∈ ls, s ≠ emp) : refLine ls rs k n = readLineL ls (ofLn rs k n) := by
  unfold refLine
  rw [foldl_same (g := refW ls (ofLn rs k n) k n) (fun a b => refW_filter ls rs k n a b)]
  exact way_line (way_ref ls hne k n) (ofLn rs k n) (fun r hr => ⟨(ofLn_mem.1 hr).2, h.rdw hl hr⟩) (h.bhd k n)
theorem Cpy.law {t : Txt} {rs : List Rd} (h : Cpy t rs) {k n : Int} {ls : Line} (hl : lineAt t k n = some ls) (hne : ∀ s ∈ ls, s ≠ emp) : (List.range (ls.length + 1)).foldl (lawW ls rs k n) [] = refLine ls rs k n := by
  rw [h.line hl hne, foldl_same (g := lawW ls (ofLn rs k n) k n) (fun a b => lawW_filter ls rs k n a b)]
  exact way_line (way_law ls hne k n) (ofLn rs k n) (fun r hr => ⟨(ofLn_mem.1 hr).2, h.rdw hl hr⟩) (h.bhd k n)
/-! ### the text of a copy -/
def readT (t : Txt) (rs : List Rd) : Txt := t.mapIdx fun k c => (c.1, c.2.mapIdx fun n l => refLine l rs k n)
theorem readT_get {t : Txt} {rs : List Rd} {k : Nat} {c : Chap} (h : t[k]? = some c) : (readT t rs)[k]? = some (c.1, c.2.mapIdx fun n l => refLine l rs k n) := by
  unfold readT; rw [List.getElem?_mapIdx, h]; rfl
theorem readT_line {t : Txt} {rs : List Rd} {k n : Nat} {c : Chap} {l : Line} (h : t[k]? = some c) (hl : c.2[n]? = some l) : ∃ d, (readT t rs)[k]? = some d ∧ d.2[n]? = some (refLine l rs k n) := by
  refine ⟨_, readT_get h, ?_⟩
  simp only
  rw [List.getElem?_mapIdx, hl]; rfl
theorem lineAt_nat {t : Txt} {k n : Nat} {c : Chap} {l : Line} (h : t[k]? = some c) (hl : c.2[n]? = some l) : lineAt t k n = some l := by
  unfold lineAt
  rw [if_pos (by omega)]
  simp only [Int.toNat_natCast, h, Option.bind_some, hl]
end Go.Ev
namespace Go.Ev
open Go.Proofs
set_option maxRecDepth 100000
set_option linter.unusedSimpArgs false
attribute [local irreducible] Wp WpS
/-! ### the text of a copy, as read answers it -/
theorem ofV_rds (l : List Rd) : RdsA l (ofV l) := by
  cases l with
  | nil => exact Or.inl ⟨rfl, rfl⟩
  | cons r f => exact Or.inr ⟨none, rfl⟩
theorem lnOf_sl (ls : List AV) : SlOf 1 ls (lnOf ls) := by
  unfold lnOf
  split
  · rename_i h; exact Or.inl ⟨rfl, h⟩
  · exact Or.inr ⟨none, rfl⟩
theorem Small.ne {t : Txt} (hs : Small t) {k n : Int} {ls : Line} (h : lineAt t k n = some ls) : ∀ s ∈ ls, s ≠ emp := fun s hm => by
  obtain ⟨c, hc, hl⟩ := lineAt_mem h
  exact wordB_ne (hs.word c hc ls hl s hm)
set_option maxHeartbeats 1000000 in
theorem readW {e : Exts} (he : Quiet e) (t : Txt) (hs : Small t) (ht : Fits t) (ch : AV) (xs : List AV) (hch : SlOf 2 xs ch) (hall : All2 ChapA t xs) (id : Int) (rs : List Rd) (x : AV) (hx : RdsA rs x) (hrs : rs.length < 2 ^ 32) (hc : Cpy t rs) :
    ∃ ys o, SlOf 2 ys o ∧ All2 ChapA (readT t rs) ys ∧ Ans (Cx e) 55 [.agg [ch], .agg [intA id, x]] (.agg [o]) := by
  have hQ : ∀ i k : Nat, ∃ w : AV, (w.flat = true ∧ w.cells = [w] ∧ bound w = 0) ∧ ∀ y z, xs[i]? = some y → (linesOf y)[k]? = some z → ∃ c l, t[i]? = some c ∧ c.2[k]? = some l ∧ LineA (refLine l rs i k) w ∧ Ans (Cx e) 76 [z, ofV (rs.filter (atLine i k 0))] w := by
    intro i k
    cases hy : xs[i]? with
    | none => exact ⟨.v (.slice none 0 0), ⟨rfl, rfl, rfl⟩, fun y z h => nomatch h⟩
    | some y =>
      cases hz : (linesOf y)[k]? with
      | none => exact ⟨.v (.slice none 0 0), ⟨rfl, rfl, rfl⟩, fun y' z h1 h2 => by cases h1; rw [hz] at h2; cases h2⟩
      | some z =>
        obtain ⟨c, hc1⟩ := at_lt t i (by rw [hall.1]; exact (List.getElem?_eq_some_iff.1 hy).1)
        obtain ⟨y', hy', l, rfl, lxs, hl, hls⟩ := hall.get hc1
        rw [hy] at hy'
        cases hy'
        have hlo : linesOf (.agg [intA c.1, l]) = lxs := hl.elems
        have hz' := hz
        rw [hlo] at hz'
        obtain ⟨ln, hln⟩ := at_lt c.2 k (by rw [hls.1]; exact (List.getElem?_eq_some_iff.1 hz').1)
        have hla : LineA ln z := hls.2 k ln z hln hz'
        have hLA := lineAt_nat hc1 hln
        have hlen := (hs.words c (List.mem_of_getElem? hc1) ln (List.mem_of_getElem? hln)).2
        have hfl : (rs.filter (atLine i k 0)).length < 2 ^ 32 := Nat.lt_of_le_of_lt (List.length_filter_le _ _) hrs
        obtain ⟨w, hw1, hw2⟩ := ans76 he ln (by omega) z hla (rs.filter (atLine i k 0)) (ofV (rs.filter (atLine i k 0))) (ofV_rds _) hfl (hc.rdsOk hLA)
        refine ⟨w, ⟨hw1.flat, hw1.cells, hw1.bound⟩, fun y z' h1 h2 => ?_⟩
        cases h1
        rw [hz] at h2
        cases h2
        refine ⟨c, ln, hc1, hln, ?_, hw2⟩
        show SlOf 1 (strs (refLine ln rs i k)) w
        rw [hc.line hLA (hs.ne hLA)]
        exact hw1
  have hwf := fun i k => Classical.choose_spec (hQ i k)
  generalize hW : (fun i k => Classical.choose (hQ i k)) = wf
  have hwf : ∀ i k : Nat, ((wf i k).flat = true ∧ (wf i k).cells = [wf i k] ∧ bound (wf i k) = 0) ∧ ∀ y z, xs[i]? = some y → (linesOf y)[k]? = some z → ∃ c l, t[i]? = some c ∧ c.2[k]? = some l ∧ LineA (refLine l rs i k) (wf i k) ∧ Ans (Cx e) 76 [z, ofV (rs.filter (atLine i k 0))] (wf i k) := by
    intro i k
    rw [← hW]
    exact hwf i k
  clear hW
  have hx6 := hs.chs
  have hxl := hall.1
  have hok := okCh2_of ht hall
  have hlines : ∀ y ∈ xs, ∃ c l lxs, c ∈ t ∧ y = .agg [intA c.1, l] ∧ linesOf y = lxs ∧ All2 LineA c.2 lxs := fun y hy => by
    obtain ⟨i, hi⟩ := List.getElem?_of_mem hy
    obtain ⟨c, hc1⟩ := at_lt t i (by rw [hall.1]; exact (List.getElem?_eq_some_iff.1 hi).1)
    obtain ⟨l, rfl, lxs, hl, hls⟩ := hall.2 i c y hc1 hi
    exact ⟨c, l, lxs, List.mem_of_getElem? hc1, rfl, hl.elems, hls⟩
  refine ⟨(stAt xs wf xs.length 0).map (fun c : AV × List AV => AV.agg [c.1, lnOf c.2]), .vs 2 _ none, Or.inr ⟨none, rfl⟩, ⟨?_, ?_⟩, ans55x he xs ch hch (fun y hy => (hok y hy).ok) (by omega) (by omega) id rs x hx hrs wf (fun i k y z h1 h2 => ?_) (fun i k => (hwf i k).1) (fun y hy => ?_) (fun y hy z hz => ?_) (by omega)⟩
  · unfold readT stAt
    rw [List.length_mapIdx, List.length_map, List.length_mapIdx, hall.1]
  · intro i c y h1 h2
    rw [List.getElem?_map, stAt_get] at h2
    have hil : i < t.length := by
      have := (List.getElem?_eq_some_iff.1 h1).1
      unfold readT at this; rwa [List.length_mapIdx] at this
    obtain ⟨c0, hc0⟩ := at_lt t i hil
    rw [readT_get hc0] at h1
    cases h1
    obtain ⟨y0, hy0, l, rfl, lxs, hl, hls⟩ := hall.get hc0
    have hlo : linesOf (.agg [intA c0.1, l]) = lxs := hl.elems
    rw [hy0, Option.map_some, Option.map_some, if_pos (by omega), hlo] at h2
    cases h2
    refine ⟨_, rfl, _, lnOf_sl _, ?_, ?_⟩
    · simp only [List.length_mapIdx, List.length_map, List.length_range]; exact hls.1
    · intro k a b h3 h4
      simp only at h3
      rw [List.getElem?_mapIdx] at h3
      rw [List.getElem?_map] at h4
      cases hk : c0.2[k]? with
      | none => rw [hk] at h3; cases h3
      | some ln =>
        rw [hk] at h3
        cases h3
        have hkl : k < lxs.length := by rw [← hls.1]; exact (List.getElem?_eq_some_iff.1 hk).1
        obtain ⟨z, hz⟩ := at_lt lxs k hkl
        rw [List.getElem?_range hkl] at h4
        cases h4
        obtain ⟨c', l', h5, h6, h7, -⟩ := (hwf i k).2 _ z hy0 (by rw [hlo]; exact hz)
        rw [hc0] at h5
        cases h5
        rw [hk] at h6
        cases h6
        exact h7
  · obtain ⟨_, _, -, -, -, h⟩ := (hwf i k).2 y z h1 h2
    exact h
  · obtain ⟨c, l, lxs, hm, -, hlo, hls⟩ := hlines y hy
    rw [hlo, ← hls.1]
    have := (hs.lines c hm).2
    omega
  · obtain ⟨c, l, lxs, hm, -, hlo, hls⟩ := hlines y hy
    rw [hlo] at hz
    obtain ⟨k, hk⟩ := List.getElem?_of_mem hz
    obtain ⟨ln, hln⟩ := at_lt c.2 k (by rw [hls.1]; exact (List.getElem?_eq_some_iff.1 hk).1)
    exact (hls.2 k ln z hln hk : SlOf 1 (strs ln) z).bound
/-! ### the lines of a copy are lines -/
theorem linesN_get (rs : List Rd) (k : Nat) : ∀ (ls : List Line) (n j : Nat) (l : Line), linesN rs k n ls = true → ls[j]? = some l → withinB 1 10 [((refLine l rs k ((n + j : Nat) : Int)).length : Int)] = true
  | [], _, _, _, _, h => by simp at h
  | x :: r, n, j, l, h1, h2 => by
    unfold linesN at h1
    simp only [Bool.and_eq_true] at h1
    cases j with
    | zero => simp at h2; subst h2; exact h1.1
    | succ j =>
      have := linesN_get rs k r (n + 1) j l h1.2 (by simpa using h2)
      rwa [show n + 1 + j = n + (j + 1) by omega] at this
theorem chapsN_get (rs : List Rd) : ∀ (t : Txt) (k i : Nat) (c : Chap), chapsN rs k t = true → t[i]? = some c → linesN rs (k + i) 0 c.2 = true
  | [], _, _, _, _, h => by simp at h
  | x :: r, k, i, c, h1, h2 => by
    unfold chapsN at h1
    simp only [Bool.and_eq_true] at h1
    cases i with
    | zero => simp at h2; subst h2; exact h1.1
    | succ i =>
      have := chapsN_get rs r (k + 1) i c h1.2 (by simpa using h2)
      rwa [show k + 1 + i = k + (i + 1) by omega] at this
/-- whatever a copy's line has is a word of the base's, or of a reading -/
theorem refI_mem (k n w : Int) (s : ByteArray) : ∀ (rs : List Rd) (st : List ByteArray × ByteArray), (s ∈ (rs.foldl (refI k n w) st).1 → s ∈ st.1 ∨ ∃ r ∈ rs, s = r.word) ∧ ((rs.foldl (refI k n w) st).2 = st.2 ∨ ∃ r ∈ rs, (rs.foldl (refI k n w) st).2 = r.word)
  | [], st => ⟨fun h => Or.inl h, Or.inl rfl⟩
  | r :: rs, st => by
    obtain ⟨h1, h2⟩ := refI_mem k n w s rs (refI k n w st r)
    rw [List.foldl_cons]
    have hq : refI k n w st r = st ∨ refI k n w st r = (st.1 ++ [r.word], st.2) ∨ refI k n w st r = (st.1, r.word) := by
      unfold refI; split
      · split
        · exact Or.inr (Or.inl rfl)
        · exact Or.inr (Or.inr rfl)
      · exact Or.inl rfl
    refine ⟨fun h => ?_, ?_⟩
    · rcases h1 h with h3 | ⟨q, hq1, hq2⟩
      · rcases hq with hq | hq | hq
        · rw [hq] at h3; exact Or.inl h3
        · rw [hq] at h3
          rcases List.mem_append.1 h3 with h3 | h3
          · exact Or.inl h3
          · exact Or.inr ⟨r, List.mem_cons_self .., List.mem_singleton.1 h3⟩
        · rw [hq] at h3; exact Or.inl h3
      · exact Or.inr ⟨q, List.mem_cons_of_mem _ hq1, hq2⟩
    · rcases h2 with h3 | ⟨q, hq1, hq2⟩
      · rcases hq with hq | hq | hq
        · rw [hq] at h3 ⊢; exact Or.inl h3
        · rw [hq] at h3 ⊢; exact Or.inl h3
        · rw [hq] at h3 ⊢; exact Or.inr ⟨r, List.mem_cons_self .., h3⟩
      · exact Or.inr ⟨q, List.mem_cons_of_mem _ hq1, hq2⟩
theorem refW_mem (l : Line) (rs : List Rd) (k n : Int) (s : ByteArray) (ds : List ByteArray) (w : Nat) (h : s ∈ refW l rs k n ds w) : s ∈ ds ∨ s ∈ l ∨ ∃ r ∈ rs, s = r.word := by
  obtain ⟨h1, h2⟩ := refI_mem k n w s rs (ds, (l[w]?).getD emp)
  unfold refW at h
  simp only at h
  split at h
  · rcases h1 h with h | h
    · exact Or.inl h
    · exact Or.inr (Or.inr h)
  · rename_i hne
    rcases List.mem_append.1 h with h | h
    · rcases h1 h with h | h
      · exact Or.inl h
      · exact Or.inr (Or.inr h)
    · have hs := List.mem_singleton.1 h
      rcases h2 with h3 | ⟨r, hr, h3⟩
      · rw [h3] at hs hne
        simp only at hs hne
        cases hw : l[w]? with
        | none => rw [hw] at hne; exact absurd rfl hne
        | some y => rw [hw] at hs; exact Or.inr (Or.inl (hs ▸ List.mem_of_getElem? hw))
      · exact Or.inr (Or.inr ⟨r, hr, hs.trans h3⟩)
theorem refLine_mem (l : Line) (rs : List Rd) (k n : Int) (s : ByteArray) : ∀ w : Nat, s ∈ (List.range w).foldl (refW l rs k n) [] → s ∈ l ∨ ∃ r ∈ rs, s = r.word
  | 0, h => by simp at h
  | w + 1, h => by
    rw [List.range_succ, List.foldl_append] at h
    rcases refW_mem l rs k n s _ w h with h | h
    · exact refLine_mem l rs k n s w h
    · exact h
theorem readT_mem {t : Txt} {rs : List Rd} {c : Chap} {l : Line} (hc : c ∈ readT t rs) (hl : l ∈ c.2) : ∃ (k n : Nat) (d : Chap) (ln : Line), t[k]? = some d ∧ d.2[n]? = some ln ∧ l = refLine ln rs k n ∧ c.2.length = d.2.length := by
  obtain ⟨k, hk⟩ := List.getElem?_of_mem hc
  have hil : k < t.length := by
    have := (List.getElem?_eq_some_iff.1 hk).1
    unfold readT at this; rwa [List.length_mapIdx] at this
  obtain ⟨d, hd⟩ := at_lt t k hil
  rw [readT_get hd] at hk
  cases hk
  obtain ⟨n, hn⟩ := List.getElem?_of_mem hl
  simp only at hn
  rw [List.getElem?_mapIdx] at hn
  cases hk : d.2[n]? with
  | none => rw [hk] at hn; cases hn
  | some ln => rw [hk] at hn; cases hn; exact ⟨k, n, d, ln, hd, hk, rfl, by simp⟩
theorem readT_chap {t : Txt} {rs : List Rd} {c : Chap} (hc : c ∈ readT t rs) : ∃ d ∈ t, c.1 = d.1 ∧ c.2.length = d.2.length := by
  obtain ⟨k, hk⟩ := List.getElem?_of_mem hc
  have hil : k < t.length := by
    have := (List.getElem?_eq_some_iff.1 hk).1
    unfold readT at this; rwa [List.length_mapIdx] at this
  obtain ⟨d, hd⟩ := at_lt t k hil
  rw [readT_get hd] at hk
  cases hk
  exact ⟨d, List.mem_of_getElem? hd, rfl, by simp⟩
theorem rdOnes_mem {ls : Line} {s : ByteArray} : ∀ (l : List Rd) (st : Nat × List ByteArray), s ∈ (l.foldl (rdOne ls) st).2 → s ∈ st.2 ∨ s ∈ ls ∨ ∃ r ∈ l, r.kind ≠ 1 ∧ s = r.word
  | [], st, h => Or.inl h
  | r :: l, st, h => by
    rw [List.foldl_cons] at h
    rcases rdOnes_mem l _ h with h | h | ⟨q, hq, h⟩
    · unfold rdOne at h
      simp only at h
      rcases List.mem_append.1 h with h | h
      · rcases List.mem_append.1 h with h | h
        · exact Or.inl h
        · exact Or.inr (Or.inl (List.mem_of_mem_drop (List.mem_of_mem_take h)))
      · split at h
        · exact nomatch h
        · rename_i hk
          exact Or.inr (Or.inr ⟨r, List.mem_cons_self .., hk, List.mem_singleton.1 h⟩)
    · exact Or.inr (Or.inl h)
    · exact Or.inr (Or.inr ⟨q, List.mem_cons_of_mem _ hq, h⟩)
theorem readLineL_mem {ls : Line} {l : List Rd} {s : ByteArray} (h : s ∈ readLineL ls l) : s ∈ ls ∨ ∃ r ∈ l, r.kind ≠ 1 ∧ s = r.word := by
  unfold readLineL at h
  rcases List.mem_append.1 h with h | h
  · rcases rdOnes_mem l _ h with h | h | h
    · exact nomatch h
    · exact Or.inl h
    · exact Or.inr h
  · exact Or.inl (List.mem_of_mem_drop h)
theorem Cpy.wordB {t : Txt} {rs : List Rd} (h : Cpy t rs) {r : Rd} (hr : r ∈ rs) (hk : r.kind ≠ 1) : wordB r.word = true := by
  have hf := h.fit r hr
  unfold readB at hf
  split at hf
  · cases hf
  · rw [if_neg hk] at hf
    split at hf
    · unfold fits2 at hf; simp only [Bool.and_eq_true] at hf; exact hf.2
    · split at hf
      · unfold fits3 at hf; simp only [Bool.and_eq_true] at hf; exact hf.1.2
      · cases hf
/-- what the reference's Copy says of a copy -/
structure Right (t : Txt) (id : Int) (rs : List Rd) : Prop where
  id : withinB 0 9999 [id] = true
  len : ¬ 20 < (rs.length : Int)
  cpy : Cpy t rs
  lines : ∀ (k n : Nat) (c : Chap) (l : Line), t[k]? = some c → c.2[n]? = some l → 1 ≤ (refLine l rs k n).length ∧ (refLine l rs k n).length ≤ 10
theorem Right.of {t : Txt} {id : Int} {rs : List Rd} (h : copyB t id rs = true) : Right t id rs := by
  unfold copyB at h
  simp only [Bool.and_eq_true, Bool.not_eq_true', decide_eq_false_iff_not] at h
  obtain ⟨⟨h1, h2⟩, h3, h4⟩ := h
  refine ⟨h1, h2, Cpy.of h3, fun k n c l hc hl => ?_⟩
  have := linesN_get rs (0 + k) c.2 0 n l (chapsN_get rs t 0 k c h4 hc) hl
  rw [Nat.zero_add, Nat.zero_add] at this
  unfold withinB at this
  simp only [List.all_cons, List.all_nil, Bool.and_true, Bool.and_eq_true, decide_eq_true_eq] at this
  omega
theorem Right.small {t : Txt} {id : Int} {rs : List Rd} (h : Right t id rs) (hs : Small t) : Small (readT t rs) := by
  refine ⟨?_, fun c hc => ?_, fun c hc l hl => ?_, fun c hc l hl s hm => ?_⟩
  · unfold readT; rw [List.length_mapIdx]; exact hs.chs
  · obtain ⟨d, hd, -, h2⟩ := readT_chap hc
    rw [h2]; exact hs.lines d hd
  · obtain ⟨k, n, d, ln, h1, h2, rfl, -⟩ := readT_mem hc hl
    exact h.lines k n d ln h1 h2
  · obtain ⟨k, n, d, ln, h1, h2, rfl, -⟩ := readT_mem hc hl
    have hLA := lineAt_nat h1 h2
    rw [h.cpy.line hLA (hs.ne hLA)] at hm
    rcases readLineL_mem hm with hm | ⟨r, hr, hk, rfl⟩
    · exact hs.word d (List.mem_of_getElem? h1) ln (List.mem_of_getElem? h2) s hm
    · exact h.cpy.wordB ((ofLn_mem.1 hr).1) hk
theorem Right.fits {t : Txt} {id : Int} {rs : List Rd} (h : Right t id rs) (ht : Fits t) (hr : ∀ r ∈ rs, RdF r) : Fits (readT t rs) := by
  refine ⟨?_, fun c hc => ?_, fun c hc l hl => ?_, fun c hc l hl s hm => ?_⟩
  · unfold readT; rw [List.length_mapIdx]; exact ht.chs
  · obtain ⟨d, hd, -, h2⟩ := readT_chap hc
    rw [h2]; exact ht.lines d hd
  · obtain ⟨k, n, d, ln, h1, h2, rfl, -⟩ := readT_mem hc hl
    have := (h.lines k n d ln h1 h2).2
    omega
  · obtain ⟨k, n, d, ln, h1, h2, rfl, -⟩ := readT_mem hc hl
    rcases refLine_mem ln rs k n s _ hm with h | ⟨r, h3, rfl⟩
    · exact ht.size d (List.mem_of_getElem? h1) ln (List.mem_of_getElem? h2) s h
    · exact (hr r h3).word
end Go.Ev
namespace Go.Ev
open Go.Proofs
set_option maxRecDepth 100000
set_option linter.unusedSimpArgs false
attribute [local irreducible] Wp WpS
/-! ### a copy that is right, by both -/
theorem lensOf_mem {t : Txt} {ys : List AV} (h : All2 ChapA t ys) {n : Int} (hn : n ∈ lensOf ys) : ∃ c ∈ t, ∃ l ∈ c.2, n = (l.length : Int) := by
  unfold lensOf at hn
  obtain ⟨y, hy, hz⟩ := List.mem_flatMap.1 hn
  obtain ⟨z, hzm, rfl⟩ := List.mem_map.1 hz
  obtain ⟨i, hi⟩ := List.getElem?_of_mem hy
  obtain ⟨c, hc⟩ := at_lt t i (by rw [h.1]; exact (List.getElem?_eq_some_iff.1 hi).1)
  obtain ⟨l, rfl, lxs, hl, hls⟩ := h.2 i c y hc hi
  have hlo : linesOf (.agg [intA c.1, l]) = lxs := hl.elems
  rw [hlo] at hzm
  obtain ⟨k, hk⟩ := List.getElem?_of_mem hzm
  obtain ⟨ln, hln⟩ := at_lt c.2 k (by rw [hls.1]; exact (List.getElem?_eq_some_iff.1 hk).1)
  have hla : SlOf 1 (strs ln) z := hls.2 k ln z hln hk
  exact ⟨c, List.mem_of_getElem? hc, ln, List.mem_of_getElem? hln, by rw [hla.elems, strs_len]⟩
theorem lensOf_len : ∀ (ys : List AV), (∀ y ∈ ys, (linesOf y).length ≤ 10) → (lensOf ys).length ≤ 10 * ys.length
  | [], _ => Nat.le_refl _
  | y :: r, h => by
    have ih := lensOf_len r fun z hz => h z (List.mem_cons_of_mem _ hz)
    have h1 := h y (List.mem_cons_self ..)
    unfold lensOf at ih ⊢
    rw [List.flatMap_cons, List.length_append, List.length_map, List.length_cons]; omega
theorem linesOf_len {t : Txt} {ys : List AV} (h : All2 ChapA t ys) (hs : Small t) : ∀ y ∈ ys, (linesOf y).length ≤ 10 := fun y hy => by
  obtain ⟨i, hi⟩ := List.getElem?_of_mem hy
  obtain ⟨c, hc⟩ := at_lt t i (by rw [h.1]; exact (List.getElem?_eq_some_iff.1 hi).1)
  obtain ⟨l, rfl, lxs, hl, hls⟩ := h.2 i c y hc hi
  have hlo : linesOf (.agg [intA c.1, l]) = lxs := hl.elems
  rw [hlo, ← hls.1]; exact (hs.lines c (List.mem_of_getElem? hc)).2
theorem item58_of {t : Txt} {ys : List AV} (h : All2 ChapA t ys) : ∀ z ∈ chapIts 0 ys, Item58 z := fun z hz => by
  obtain ⟨i, y, j, w, hi, hj, rfl⟩ := chapIts_of ys 0 z hz
  obtain ⟨c, hc⟩ := at_lt t i (by rw [h.1]; exact (List.getElem?_eq_some_iff.1 hi).1)
  obtain ⟨l, rfl, lxs, hl, hls⟩ := h.2 i c y hc hi
  have hlo : linesOf (.agg [intA c.1, l]) = lxs := hl.elems
  rw [hlo] at hj
  obtain ⟨ln, hln⟩ := at_lt c.2 j (by rw [hls.1]; exact (List.getElem?_eq_some_iff.1 hj).1)
  exact ⟨_, w, strs ln, rfl, hls.2 j ln w hln hj⟩
theorem copyW {e : Exts} (he : Quiet e) (t : Txt) (hs : Small t) (ht : Fits t) (htx : textB t = true) (ch : AV) (xs : List AV) (hch : SlOf 2 xs ch) (hall : All2 ChapA t xs) (id : Int) (rs : List Rd) (x : AV) (hx : RdsA rs x) (hrd : ∀ r ∈ rs, RdF r) (hR : Right t id rs) :
    ∃ ys o, SlOf 2 ys o ∧ All2 ChapA (readT t rs) ys ∧ Has58 e ch id x true ∧ Ans (Cx e) 25 [.agg [ch], .agg [intA id, x]] (.tup [.agg [o], intA 0]) := by
  have hlen := hR.len
  obtain ⟨ys, o, ho, hys, h55⟩ := readW he t hs ht ch xs hch hall id rs x hx (by omega) hR.cpy
  have hs2 := hR.small hs
  have ht2 := hR.fits ht hrd
  have hyl : ys.length ≤ 6 := by rw [← hys.1]; exact hs2.chs.2
  have hfit : rs.all (fitOne t) = true := List.all_eq_true.2 fun r hr => by
    rw [fit_read (fun l hl => ?_)]
    · exact hR.cpy.fit r hr
    · obtain ⟨c, hc, hlc⟩ := lineAt_mem hl
      have := (hs.words c hc l hlc).1
      omega
  have hcnt : (chapIts 0 ys).length < 2 ^ 32 := by
    have h1 := lensOf_len ys (linesOf_len hys hs2)
    rw [← chapIts_lens 0 ys, List.length_map] at h1
    omega
  have hw : withinB 1 10 (lensOf ys) = true := List.all_eq_true.2 fun n hn => by
    obtain ⟨c, hc, l, hl, rfl⟩ := lensOf_mem hys hn
    have := hs2.words c hc l hl
    simp only [Bool.and_eq_true, decide_eq_true_eq]; omega
  have h58 := has58 he t ht ch xs hch hall id hR.id rs x hx hlen hrd hfit (ordB_of rs hR.cpy.ord) ys o ho (fun y hy => (okCh2_of ht2 hys y hy).ok) (by omega) (item58_of hys) hcnt h55
  rw [hw] at h58
  exact ⟨ys, o, ho, hys, h58, ans25 he t ht htx ch xs hch hall id rs x hx h58 ys o ho h55⟩
/-! ### memory with a list of words that grows over what stays -/
structure MB (B : Nat) (base : Fm) (H : Heap) (ds : List ByteArray) (out : AV) : Prop where
  lock : H.lock = 0
  size : B ≤ H.size
  base : Has base H
  done : DoneR H ds out
/-- what stays is no list that grows, and lies in front -/
def Stay (B : Nat) (base : Fm) : Prop := ∀ p ∈ base, p.1 < B ∧ ∀ v m e sz cs, p.2 ≠ .cells v m e sz true cs
theorem MB.row {B : Nat} {base : Fm} {H : Heap} {ds : List ByteArray} {out : AV} (h : MB B base H ds out) {b v m e sz : Nat} {g : Bool} {cs : List AV} (hb : (b, AObj.cells v m e sz g cs) ∈ base) (E : List (Option AObj)) : (H.plus E).row b v = some (m, e, sz, g, cs) := by
  have hg := h.base _ hb
  rw [rowLo (get_ltS hg)]; exact get_row hg
theorem MB.plus {B : Nat} {base : Fm} {H : Heap} {ds : List ByteArray} {out : AV} (h : MB B base H ds out) (E : List (Option AObj)) : MB B base (H.plus E) ds out :=
  ⟨h.lock, by have := h.size; rw [plus_size]; omega, h.base.plus E, h.done.plus E⟩
theorem MB.trim {B : Nat} {base : Fm} {H : Heap} {ds : List ByteArray} {out : AV} (h : MB B base H ds out) (hS : Stay B base) {n : Nat} (hn : B ≤ n) (vs : List AV) (ms : List Nat) (hv : bound out ≤ boundL vs) : MB B base (H.trim n vs ms) ds out := by
  by_cases hn2 : n ≤ H.size
  · refine ⟨trim_lock.trans h.lock, Nat.le_trans hn (trim_size' hn2), fun p hp => (trim_lo (by have := (hS p hp).1; omega)).trans (h.base p hp), ?_⟩
    rcases h.done with hd | ⟨b, v, h1, h2, rfl, h4⟩
    · exact Or.inl hd
    · unfold Heap.trim
      split
      · rename_i hq
        rw [Bool.and_eq_true, Bool.and_eq_true, Bool.and_eq_true, Nat.ble_eq] at hq
        have h5 := hq.1.1.1
        have hb : b < n := by simp only [bound] at hv; omega
        have hg := (takeH_get (H := H) hb).trans (row_of_get h4)
        exact Or.inr ⟨b, v, h1, get_size hg, rfl, get_row hg⟩
      · exact Or.inr ⟨b, v, h1, h2, rfl, h4⟩
  · rw [trim_whole (by omega)]; exact h
theorem MB.more {B : Nat} {base : Fm} {H : Heap} {ds : List ByteArray} {b v : Nat} (h : MB B base H ds (.sl b v 0 ds.length none)) (hS : Stay B base) (hb : b < H.size) (hr : H.row b v = some (0, 9, 1, true, strs ds)) (s : List ByteArray) (n : Nat) (hn : n = ds.length + s.length) : MB B base (H.put b (.cells (v + 1) 0 9 1 true (strs (ds ++ s)))) (ds ++ s) (.sl b (v + 1) 0 n none) := by
  refine ⟨h.lock, by rw [put_sizeI _ hb]; exact h.size, fun p hp => ?_, Or.inr ⟨b, v + 1, ?_, by rw [put_sizeI _ hb]; exact hb, by rw [hn, List.length_append], row_put_same hb⟩⟩
  · have hne : p.1 ≠ b := by
      rintro rfl
      have h1 := (row_of_get hr).symm.trans (h.base p hp)
      exact (hS p hp).2 v 0 9 1 (strs ds) (Option.some.inj h1).symm
    exact (put_get_ne _ (by omega) hne).trans (h.base p hp)
  · have := h.lock
    show H.lock ≤ b
    omega
theorem MB.new {B : Nat} {base : Fm} {H : Heap} {ds : List ByteArray} {out : AV} (h : MB B base H ds out) {N : Nat} (hN : H.size = N) (E : List (Option AObj)) (k : Nat) (ds' : List ByteArray) (hE : E[k]? = some (some (.cells 0 0 9 1 true (strs ds')))) : MB B base (H.plus E) ds' (.sl (N + k) 0 0 ds'.length none) := by
  have hk := (List.getElem?_eq_some_iff.1 hE).1
  refine ⟨h.lock, by have := h.size; rw [plus_size]; omega, h.base.plus E, Or.inr ⟨N + k, 0, ?_, by rw [plus_size]; omega, rfl, ?_⟩⟩
  · have := h.lock
    show H.lock ≤ _
    omega
  · rw [rowP hN, hE]; rfl
end Go.Ev
namespace Go.Ev
open Go.Proofs
set_option maxRecDepth 100000
set_option linter.unusedSimpArgs false
attribute [local irreducible] Wp WpS
end Go.Ev
namespace Go.Ev
open Go.Proofs
set_option maxRecDepth 100000
set_option linter.unusedSimpArgs false
attribute [local irreducible] Wp WpS
end Go.Ev
namespace Go.Ev
open Go.Proofs
set_option maxRecDepth 100000
set_option linter.unusedSimpArgs false
attribute [local irreducible] Wp WpS
theorem MB.drop {B : Nat} {base : Fm} {H : Heap} {ds : List ByteArray} {out : AV} (h : MB B base H ds out) : MB B base H [] (.v (.slice none 0 0)) := ⟨h.lock, h.size, h.base, Or.inl ⟨rfl, rfl⟩⟩
theorem MB.sub {B B' : Nat} {base base' : Fm} {H : Heap} {ds : List ByteArray} {out : AV} (h : MB B base H ds out) (hB : B' ≤ B) (hb : ∀ p ∈ base', p ∈ base) : MB B' base' H ds out := ⟨h.lock, Nat.le_trans hB h.size, fun p hp => h.base p (hb p hp), h.done⟩
theorem MB.lay {B : Nat} {base : Fm} {H : Heap} {ds : List ByteArray} {out : AV} (h : MB B base H ds out) {N : Nat} (hN : H.size = N) (o : AObj) (E : List (Option AObj)) : MB (N + 1) (base ++ [(N, o)]) (H.plus (some o :: E)) ds out := by
  refine ⟨h.lock, by rw [plus_size, hN, List.length_cons]; omega, fun p hp => ?_, h.done.plus _⟩
  rcases List.mem_append.1 hp with hp | hp
  · exact h.base.plus _ p hp
  · obtain rfl := List.mem_singleton.1 hp
    rw [plus_get_hi _ (by omega), hN, Nat.sub_self]; rfl
theorem Stay.lay {B N : Nat} {base : Fm} (h : Stay B base) (hB : B ≤ N) {o : AObj} (ho : ∀ v m e sz cs, o ≠ .cells v m e sz true cs) : Stay (N + 1) (base ++ [(N, o)]) := by
  intro p hp
  rcases List.mem_append.1 hp with hp | hp
  · exact ⟨by have := (h p hp).1; omega, (h p hp).2⟩
  · obtain rfl := List.mem_singleton.1 hp
    exact ⟨Nat.lt_succ_self _, ho⟩
end Go.Ev
namespace Go.Ev
open Go.Proofs
set_option maxRecDepth 100000
set_option linter.unusedSimpArgs false
/-! ### from arguments of plain data to copies -/
theorem map_of {α β : Type} {f : α → β} {Q : α → Prop} : ∀ (xs : List β), (∀ y ∈ xs, ∃ r, y = f r ∧ Q r) → ∃ l : List α, xs = l.map f ∧ ∀ r ∈ l, Q r
  | [], _ => ⟨[], rfl, fun r h => nomatch h⟩
  | y :: xs, h => by
    obtain ⟨r, rfl, hr⟩ := h y (List.mem_cons_self ..)
    obtain ⟨l, rfl, hl⟩ := map_of xs fun z hz => h z (List.mem_cons_of_mem _ hz)
    exact ⟨r :: l, rfl, fun q hq => (List.mem_cons.1 hq).elim (fun e => e ▸ hr) (hl q)⟩
theorem cells3 {l : List AV} (h : l.length = 3) : ∃ a b c, l = [a, b, c] := by
  match l, h with
  | [a, b, c], _ => exact ⟨a, b, c, rfl⟩
theorem cells5 {l : List AV} (h : l.length = 5) : ∃ a b c d e, l = [a, b, c, d, e] := by
  match l, h with
  | [a, b, c, d, e], _ => exact ⟨a, b, c, d, e, rfl⟩
theorem place_of {N : Nat} {cs : List AV} (h : Plain Tryz.prog (N + 2) 32 cs) : ∃ a b c, cs = [intA a, intA b, intA c] := by
  obtain ⟨hl, hf⟩ := plain_struct (l := [(0, 3), (1, 3), (2, 3)]) (by kernel_rfl) (by kernel_rfl) h
  obtain ⟨a, b, c, rfl⟩ := cells3 (hl.trans (by kernel_rfl))
  have h0 := hf (0, 3) (by simp)
  have h1 := hf (1, 3) (by simp)
  have h2 := hf (2, 3) (by simp)
  have e0 : Tryz.prog.cellsOf 3 = 1 := by kernel_rfl
  simp only [e0, List.drop_zero, List.drop_succ_cons, List.take_succ_cons, List.take_zero] at h0 h1 h2
  obtain ⟨m, hm, -⟩ := plain_int (by kernel_rfl : Tryz.prog.underlying 3 = some (.int .i64)) h0
  obtain ⟨n, hn, -⟩ := plain_int (by kernel_rfl : Tryz.prog.underlying 3 = some (.int .i64)) h1
  obtain ⟨k, hk, -⟩ := plain_int (by kernel_rfl : Tryz.prog.underlying 3 = some (.int .i64)) h2
  simp only [List.cons.injEq, and_true] at hm hn hk
  exact ⟨m, n, k, by rw [hm, hn, hk]; rfl⟩
theorem u8_wf {m : Int} (h : (Lit.int .u8 m).wf = true) : 0 ≤ m ∧ m < 256 := by
  have h2 : (decide (IntKind.u8.min ≤ m) && decide (m ≤ IntKind.u8.max)) = true := h
  have e1 : IntKind.u8.min = 0 := by decide
  have e2 : IntKind.u8.max = 255 := by decide
  rw [e1, e2] at h2
  simp at h2; omega
theorem rd_of {N : Nat} {cs : List AV} (h : Plain Tryz.prog (N + 3) 65 cs) : ∃ r, AV.agg cs = rdV r ∧ RdF r := by
  obtain ⟨hl, hf⟩ := plain_struct (l := [(0, 32), (3, 5), (4, 9)]) (by kernel_rfl) (by kernel_rfl) h
  obtain ⟨a, b, c, d, e, rfl⟩ := cells5 (hl.trans (by kernel_rfl))
  have h0 := hf (0, 32) (by simp)
  have h1 := hf (3, 5) (by simp)
  have h2 := hf (4, 9) (by simp)
  have e0 : Tryz.prog.cellsOf 32 = 3 := by kernel_rfl
  have e1 : Tryz.prog.cellsOf 5 = 1 := by kernel_rfl
  have e2 : Tryz.prog.cellsOf 9 = 1 := by kernel_rfl
  simp only [e0, e1, e2, List.drop_zero, List.drop_succ_cons, List.take_succ_cons, List.take_zero] at h0 h1 h2
  obtain ⟨x, y, z, hp⟩ := place_of h0
  obtain ⟨m, hm, hw⟩ := plain_int (by kernel_rfl : Tryz.prog.underlying 5 = some (.int .u8)) h1
  obtain ⟨s, hs, hsz⟩ := plain_string (by kernel_rfl : Tryz.prog.underlying 9 = some .string) h2
  simp only [List.cons.injEq, and_true] at hp hm hs
  obtain ⟨rfl, rfl, rfl⟩ := hp
  subst hm hs
  have := u8_wf hw
  have hml := maxLen_lt
  exact ⟨⟨x, y, z, m, s⟩, rfl, ⟨this.1, this.2, by show s.size < _; omega⟩⟩
theorem copy_of {N : Nat} {x : AV} (h : Arg Tryz.prog (N + 5) 53 x) : ∃ id rs y, x = .agg [intA id, y] ∧ RdsA rs y ∧ ∀ r ∈ rs, RdF r := by
  obtain ⟨A, rfl, hp⟩ := arg_struct (by kernel_rfl) h
  obtain ⟨hl, hf⟩ := plain_struct (l := [(0, 3), (1, 51)]) (by kernel_rfl) (by kernel_rfl) hp
  obtain ⟨a, b, rfl⟩ := two_cells (hl.trans (by kernel_rfl))
  have h0 := hf (0, 3) (by simp)
  have h1 := hf (1, 51) (by simp)
  have e0 : Tryz.prog.cellsOf 3 = 1 := by kernel_rfl
  have e1 : Tryz.prog.cellsOf 51 = 1 := by kernel_rfl
  simp only [e0, e1, List.drop_zero, List.drop_succ_cons, List.take_succ_cons, List.take_zero] at h0 h1
  obtain ⟨m, hm, -⟩ := plain_int (by kernel_rfl : Tryz.prog.underlying 3 = some (.int .i64)) h0
  obtain ⟨y, xs, hy, hsl, hlen, hxs⟩ := plain_slice (c := 5) (by kernel_rfl : Tryz.prog.underlying 51 = some (.slice 65)) (by kernel_rfl) h1
  simp only [List.cons.injEq, and_true] at hm hy
  subst hm
  have key : ∀ z ∈ xs, ∃ r, z = rdV r ∧ RdF r := by
    intro z hz
    obtain ⟨d, rfl, hd5, hd⟩ := hxs z hz
    obtain ⟨a1, a2, a3, a4, a5, rfl⟩ := cells5 hd5
    exact rd_of hd
  obtain ⟨rs, rfl, hrs⟩ := map_of xs key
  exact ⟨m, rs, b, rfl, by rw [hy]; exact hsl, hrs⟩
end Go.Ev
namespace Go.Ev
open Go.Proofs Go.Sort
set_option maxRecDepth 100000
set_option linter.unusedSimpArgs false
attribute [local irreducible] Wp WpS
/-- a copy has not its word in a place, if and only if that is one of its places in doubt -/
theorem stand_doubt {t : Txt} (hs : Small t) {rs : List Rd} (hc : Cpy t rs) {a b c : Nat} {ln : Line} (hL : lineAt t a b = some ln) {own : ByteArray} (ho : ln[c]? = some own) : decide (standL rs a b c own = own) = !decide (((a : Int), (b : Int), (c : Int)) ∈ dbtL rs) := by
  have hne := hs.ne hL own (List.mem_of_getElem? ho)
  unfold standL
  cases hf : rs.find? (takesB a b c) with
  | none =>
    have hno := List.find?_eq_none.1 hf
    have h2 : ¬ ((a : Int), (b : Int), (c : Int)) ∈ dbtL rs := fun h => by
      obtain ⟨r, hr, hk, he⟩ := dbtL_mem.1 h
      refine hno r hr ?_
      unfold atR at he
      simp only [Prod.mk.injEq] at he
      unfold takesB eqP
      simp [he.1, he.2.1, he.2.2, hk]
    simp [h2]
  | some r =>
    have hr := List.mem_of_find?_eq_some hf
    have ht := List.find?_some hf
    unfold takesB eqP at ht
    simp only [Bool.and_eq_true, decide_eq_true_eq, Bool.not_eq_true', decide_eq_false_iff_not] at ht
    obtain ⟨⟨e1, e2, e3⟩, hk⟩ := ht
    have h2 : ((a : Int), (b : Int), (c : Int)) ∈ dbtL rs := dbtL_mem.2 ⟨r, hr, hk, by unfold atR; rw [e1, e2, e3]⟩
    have hfit := hc.fit r hr
    unfold readB at hfit
    rw [e1, e2, hL] at hfit
    simp only at hfit
    have hw : r.word ≠ own := by
      by_cases k1 : r.kind = 1
      · rw [if_pos k1] at hfit
        unfold fits1 at hfit
        simp only [Bool.and_eq_true, decide_eq_true_eq] at hfit
        rw [hfit.2]; exact fun e => hne e.symm
      · rw [if_neg k1, if_neg hk] at hfit
        by_cases k3 : r.kind = 3
        · rw [if_pos k3] at hfit
          unfold fits3 at hfit
          simp only [Bool.and_eq_true, Bool.not_eq_true', decide_eq_false_iff_not] at hfit
          have h3 := hfit.2
          rw [e3] at h3
          intro e
          refine h3 (e.trans ?_)
          unfold at0
          simp [ho]
        · rw [if_neg k3] at hfit; cases hfit
    simp [h2, hw]
theorem ans_of_call {C : Cfg} {me f : FuncId} {d : Option Tmp} {args : List AV} {H : Heap} {v : AV} (hx : C.ext f = none) (hp : C.pure me f d = true) (hb : boundL args = 0) (h : callA C (lim C) me f d args H = some (v, H)) : Ans C f args v := by
  unfold callA callB callKind at h
  rw [hx] at h
  simp only [hp, if_true] at h
  rw [if_pos (by rw [hb]; rfl)] at h
  refine Ans.iff.2 ?_
  simp only at h
  split at h
  · rename_i x H' hq
    simp only [Option.map_eq_some_iff, Prod.mk.injEq, and_true] at h
    obtain ⟨w, hw, rfl⟩ := h
    exact ⟨x, H', hq, hw⟩
  · cases h
/-- a copy of a list, as it is given -/
def CpA (c : Int × List Rd) (z : AV) : Prop := ∃ y, z = .agg [intA c.1, y] ∧ RdsA c.2 y ∧ ∀ r ∈ c.2, RdF r
theorem bound_cp {ch y : AV} {id : Int} {rs : List Rd} (h1 : bound ch = 0) (hy : RdsA rs y) : boundL [.agg [ch], .agg [intA id, y]] = 0 := by
  simp only [boundL_cons, bound_agg, h1, intA, bound_v, SlOf.bound hy, boundL_nil]; rfl
theorem bound_cp1 {y : AV} {id : Int} {rs : List Rd} (hy : RdsA rs y) : boundL [.agg [intA id, y]] = 0 := by
  simp only [boundL_cons, bound_agg, intA, bound_v, SlOf.bound hy, boundL_nil]; rfl
theorem cpsOk_of {t : Txt} (hs : Small t) (ht : Fits t) (htx : textB t = true) {ch : AV} {xs : List AV} (hch : SlOf 2 xs ch) (hall : All2 ChapA t xs) {cs : List (Int × List Rd)} {zs : List AV} (hz : All2 CpA cs zs) (hR : ∀ c ∈ cs, Right t c.1 c.2) : CpsOk ch cs zs := by
  refine ⟨hz.1, fun i c hc => ?_⟩
  obtain ⟨z, hzi, y, rfl, hy, hf⟩ := hz.get hc
  have hr := hR c (List.mem_of_getElem? hc)
  obtain ⟨ys, o, ho, hys, h58, h25⟩ := copyW quietA t hs ht htx ch xs hch hall c.1 c.2 y hy hf hr
  have hlen := hr.len
  have ha : Ans (Cx eA) 58 [.agg [ch], .agg [intA c.1, y]] (.v (.bool true)) := ans_of_call (me := 0) (d := none) (ext_58 quietA) (pure_58 _ _ _) (bound_cp hch.bound hy) (h58 0 none { objs := [], lock := 0 })
  exact ⟨y, hzi, hy, by omega, fun me d H => told rfl ha (bound_cp hch.bound hy) me d H, fun me d H => told rfl (ans59 quietA c.1 c.2 y hy (by omega)) (bound_cp1 hy) me d H⟩
theorem ans32 {t : Txt} (ht : Fits t) (htx : textB t = true) {ch : AV} {xs : List AV} (hch : SlOf 2 xs ch) (hall : All2 ChapA t xs) {cs : List (Int × List Rd)} {zs : List AV} (hcs : CpsOk ch cs zs) (hc5 : cs.length ≤ 5) {lx : AV} (hl : SlOf 2 zs lx) (hz : All2 CpA cs zs) : Ans Cs 32 [.agg [ch], lx] (.tup [plsV (doubtL cs), .v (.int .i64 0)]) := by
  have hr := rdb_closed hl (fun z hm => by
    obtain ⟨i, hi⟩ := List.getElem?_of_mem hm
    obtain ⟨c, hc⟩ := at_lt cs i (by rw [hz.1]; exact (List.getElem?_eq_some_iff.1 hi).1)
    obtain ⟨y, rfl, -⟩ := hz.2 i c z hc hi
    exact ⟨_, _, rfl⟩) { objs := [], lock := 0 }
  refine fn_mono (fn32 (X := { objs := [], lock := 0 }) (Nat.le_refl _) ht htx hch hall hcs hc5 hr) fun v H' h => ?_
  subst h
  show freezeV _ 1000000 _ = _
  generalize doubtL cs = l
  cases l <;> rfl
theorem call32 {t : Txt} (ht : Fits t) (htx : textB t = true) {ch : AV} {xs : List AV} (hch : SlOf 2 xs ch) (hall : All2 ChapA t xs) {cs : List (Int × List Rd)} {zs : List AV} (hcs : CpsOk ch cs zs) (hc5 : cs.length ≤ 5) {lx : AV} (hl : SlOf 2 zs lx) (hz : All2 CpA cs zs) (me : FuncId) (d : Option Tmp) (H : Heap) : callA Cs (lim Cs) me 32 d [.agg [ch], lx] H = some (.tup [plsV (doubtL cs), .v (.int .i64 0)], H) :=
  (ans32 ht htx hch hall hcs hc5 hl hz).call extS_32 (pureS_32 _ _) (by simp only [boundL_cons, bound_agg, hch.bound, hl.bound, boundL_nil]; rfl) H
end Go.Ev
namespace Go.Ev
open Go.Proofs Go.Sort
set_option maxRecDepth 100000
set_option linter.unusedSimpArgs false
attribute [local irreducible] Wp WpS
theorem call13S (t : Txt) (ht : Fits t) {ch : AV} {xs : List AV} (hch : SlOf 2 xs ch) (hall : All2 ChapA t xs) (me : FuncId) (d : Option Tmp) (H : Heap) : callA Cs (lim Cs) me 13 d [.agg [ch]] H = some (.v (.bool (readyB t)), H) :=
  told rfl (ans13 quietA t ht _ ⟨ch, rfl, xs, hch, hall⟩) (by simp only [boundL_cons, bound_agg, hch.bound, boundL_nil]; rfl) me d H
theorem call28S {t : Txt} (ht : Fits t) (hs : Small t) {ch : AV} {xs : List AV} (hch : SlOf 2 xs ch) (hall : All2 ChapA t xs) {c : Int × List Rd} {y : AV} (hy : RdsA c.2 y) (hf : ∀ r ∈ c.2, RdF r) (me : FuncId) (d : Option Tmp) (H : Heap) : callA Cs (lim Cs) me 28 d [.agg [ch], .agg [.v (.int .i64 c.1), y]] H = some (.v (.bool (rightB t c.1 c.2)), H) :=
  told rfl (ans28 quietA t ht (fun c hc l hl => by have := (hs.words c hc l hl).2; omega) ch xs hch hall c.1 c.2 y hy hf) (bound_cp hch.bound hy) me d H
theorem readyS {t : Txt} (h : readyB t = true) : textB t = true := by unfold readyB at h; simp only [Bool.and_eq_true] at h; exact h.2
theorem plsV_sl (l : List P3) : SlOf 3 (l.map p3V) (plsV l) := by
  cases l with
  | nil => exact Or.inl ⟨rfl, rfl⟩
  | cons p r => exact Or.inr ⟨none, rfl⟩
end Go.Ev
namespace Go.Ev
open Go.Proofs Go.Sort
set_option maxRecDepth 100000
set_option linter.unusedSimpArgs false
attribute [local irreducible] Wp WpS
/-! ### places by words, as plain lists -/
theorem places_mem {w : ByteArray} {l : List (Plc × ByteArray)} {q : P3} : q ∈ placesL w l ↔ ∃ y ∈ l, y.2 = w ∧ plI y.1 = q := by
  unfold placesL
  simp only [List.mem_map, List.mem_filter, decide_eq_true_eq, and_assoc]
theorem places_len (w : ByteArray) (l : List (Plc × ByteArray)) : (placesL w l).length ≤ l.length := by
  unfold placesL; rw [List.length_map]; exact List.length_filter_le _ _
theorem wdsV_bound (ws : List ByteArray) : bound (wdsV ws) = 0 := by cases ws <;> rfl
/-! calls -/
theorem callS20 {t : Txt} (ht : Fits t) (htx : textB t = true) {ch : AV} {xs : List AV} (hch : SlOf 2 xs ch) (hall : All2 ChapA t xs) (me : FuncId) (d : Option Tmp) (H : Heap) : callA Cs (lim Cs) me 20 d [.agg [ch]] H = some (.tup [wdsV (vocL t), .v (.int .i64 0)], H) :=
  (ans20 ht htx hch hall).call (C := Cx eA) (ext_20 quietA) (pure_20 eA me d) (by simp only [boundL_cons, bound_agg, hch.bound, boundL_nil]; rfl) H
theorem callS21 {t : Txt} (ht : Fits t) (htx : textB t = true) {ch : AV} {xs : List AV} (hch : SlOf 2 xs ch) (hall : All2 ChapA t xs) (w : ByteArray) (hw : wordB w = true) (hws : w.size < 2 ^ 63) (me : FuncId) (d : Option Tmp) (H : Heap) : callA Cs (lim Cs) me 21 d [.agg [ch], .v (.string w)] H = some (.tup [plsV (placesL w (wordsT 0 t)), .v (.int .i64 0)], H) :=
  (ans21 quietA ht htx hch hall w hws hw).call (C := Cx eA) (ext_21 quietA) (pure_21 eA me d) (by simp only [boundL_cons, bound_agg, hch.bound, bound_v, boundL_nil]; rfl) H
end Go.Ev
namespace Go.Ev
open Go.Proofs Go.Sort
set_option maxRecDepth 100000
set_option linter.unusedSimpArgs false
attribute [local irreducible] Wp WpS
theorem okFrom_iffV (t : Txt) : ∀ (l : Txt) (j : Nat), okFrom t j l = true ↔ ∀ (i : Nat) (c : Chap), l[i]? = some c → condC t (j + i) c = true
  | [], j => by simp [okFrom]
  | x :: l, j => by
    unfold okFrom
    rw [Bool.and_eq_true, okFrom_iffV t l (j + 1)]
    constructor
    · rintro ⟨h1, h2⟩ i c hc
      cases i with
      | zero => simp at hc; subst hc; exact h1
      | succ i => rw [show j + (i + 1) = j + 1 + i by omega]; exact h2 i c (by simpa using hc)
    · intro h
      exact ⟨h 0 x rfl, fun i c hc => by rw [show j + 1 + i = j + (i + 1) by omega]; exact h (i + 1) c (by simpa using hc)⟩
theorem idB_mapV (t : Txt) (id : Int) (n : Nat) : idB t id 0 n = ((t.map (·.1)).take n).any fun x => decide (x = id) := by
  unfold idB
  rw [List.drop_zero, ← List.map_take, List.any_map]; rfl
theorem readT_idsV (t : Txt) (rs : List Rd) : (readT t rs).map (·.1) = t.map (·.1) := by
  apply List.ext_getElem?
  intro i
  unfold readT
  rw [List.getElem?_map, List.getElem?_map, List.getElem?_mapIdx]
  cases t[i]? <;> simp
theorem Right.textV {t : Txt} {id : Int} {rs : List Rd} (h : Right t id rs) (ht : textB t = true) : textB (readT t rs) = true := by
  have hs := small_of ht
  have hs2 := h.small hs
  unfold textB at ht ⊢
  rw [Bool.and_eq_true] at ht ⊢
  have hl : (readT t rs).length = t.length := by unfold readT; rw [List.length_mapIdx]
  refine ⟨by rw [hl]; exact ht.1, (okFrom_iffV _ _ _).2 fun i c hc => ?_⟩
  have hil : i < t.length := by rw [← hl]; exact (List.getElem?_eq_some_iff.1 hc).1
  obtain ⟨c0, hc0⟩ := at_lt t i hil
  have h0 := (okFrom_iffV t t 0).1 ht.2 i c0 hc0
  have hcm := List.mem_of_getElem? hc
  rw [readT_get hc0] at hc
  have hid : c.1 = c0.1 := by cases hc; rfl
  have hlen : c.2.length = c0.2.length := by cases hc; simp
  unfold condC at h0 ⊢
  simp only [Bool.and_eq_true] at h0 ⊢
  obtain ⟨⟨⟨e1, e2⟩, e3⟩, e4⟩ := h0
  rw [Nat.zero_add] at e3 ⊢
  refine ⟨⟨⟨by rw [hid]; exact e1, by rw [hlen]; exact e2⟩, by rw [hid, idB_mapV, readT_idsV, ← idB_mapV]; exact e3⟩, List.all_eq_true.2 fun l hl => ?_⟩
  unfold lineB
  have hw := hs2.words c hcm l hl
  rw [Bool.and_eq_true]
  refine ⟨?_, List.all_eq_true.2 fun s hm => hs2.word c hcm l hl s hm⟩
  unfold withinB
  simp only [List.all_cons, List.all_nil, Bool.and_true, Bool.and_eq_true, decide_eq_true_eq]; omega
theorem lawW_mem (ls : Line) (rs : List Rd) (k n : Int) (s : ByteArray) {w : Nat} (hs : ls[w]? = some s) (hst : standL rs k n w s = s) (hne : s ≠ emp) : ∀ N : Nat, w < N → s ∈ (List.range N).foldl (lawW ls rs k n) []
  | 0, h => absurd h (Nat.not_lt_zero _)
  | N + 1, h => by
    rw [List.range_succ, List.foldl_append]
    show s ∈ lawW ls rs k n _ N
    unfold lawW
    simp only
    by_cases hw : w = N
    · subst hw
      rw [hs]
      simp only [hst]
      rw [if_neg hne]
      exact List.mem_append_right _ (List.mem_singleton.2 rfl)
    · have ih := lawW_mem ls rs k n s hs hst hne N (by omega)
      cases ls[N]? with
      | none => exact List.mem_append_left _ ih
      | some y =>
        simp only
        split
        · exact List.mem_append_left _ ih
        · exact List.mem_append_left _ (List.mem_append_left _ ih)
theorem line_voc {t : Txt} {k n : Nat} {c : Chap} {l : Line} (h1 : t[k]? = some c) (h2 : c.2[n]? = some l) {s : ByteArray} (hs : s ∈ l) : s ∈ vocL t := by
  obtain ⟨j, hj⟩ := List.getElem?_of_mem hs
  refine voc_mem.2 (List.mem_map.2 ⟨((k, n, j), s), ?_, rfl⟩)
  exact (wordsT_mem t 0 _).2 ⟨k, n, j, c, l, by rw [Nat.zero_add], h1, h2, hj⟩
/-- a copy's words are those of the base, and of its readings -/
theorem voc_known {t : Txt} {rs : List Rd} {w : ByteArray} (h : w ∈ vocL (readT t rs)) : w ∈ vocL t ∨ ∃ r ∈ rs, r.word = w := by
  obtain ⟨y, hy, rfl⟩ := List.mem_map.1 (voc_mem.1 h)
  obtain ⟨m, n, k, c, l, h1, h2, h3, h4⟩ := (wordsT_mem (readT t rs) 0 y).1 hy
  obtain ⟨k', n', d, ln, g1, g2, rfl, -⟩ := readT_mem (List.mem_of_getElem? h2) (List.mem_of_getElem? h3)
  rcases refLine_mem ln rs k' n' y.2 _ (List.mem_of_getElem? h4) with h | ⟨r, hr, e⟩
  · exact Or.inl (line_voc g1 g2 h)
  · exact Or.inr ⟨r, hr, e.symm⟩
/-- what is not in doubt the copy has -/
theorem voc_stands {t : Txt} (hs : Small t) {rs : List Rd} (hc : Cpy t rs) {y : Plc × ByteArray} (hy : y ∈ wordsT 0 t) (hn : plI y.1 ∉ dbtL rs) : y.2 ∈ vocL (readT t rs) := by
  obtain ⟨m, n, k, c, l, h1, h2, h3, h4⟩ := (wordsT_mem t 0 y).1 hy
  rw [Nat.zero_add] at h1
  have hL : lineAt t m n = some l := lineAt_nat h2 h3
  have hwd := hs.word c (List.mem_of_getElem? h2) l (List.mem_of_getElem? h3) _ (List.mem_of_getElem? h4)
  have hst := stand_doubt hs hc hL h4
  unfold plI at hn
  rw [h1] at hn
  rw [decide_eq_false hn] at hst
  have hst' : standL rs m n k y.2 = y.2 := of_decide_eq_true hst
  have hlaw := hc.law hL (fun s hm => wordB_ne (hs.word c (List.mem_of_getElem? h2) l (List.mem_of_getElem? h3) s hm))
  obtain ⟨d, g1, g2⟩ := readT_line (rs := rs) h2 h3
  refine line_voc g1 g2 ?_
  rw [← hlaw]
  exact lawW_mem l rs m n y.2 h4 hst' (wordB_ne hwd) _ (by have := (List.getElem?_eq_some_iff.1 h4).1; omega)
end Go.Ev
namespace Go.Ev
open Go.Proofs Go.Sort
set_option maxRecDepth 100000
set_option linter.unusedSimpArgs false
attribute [local irreducible] Wp WpS
@[go_sem] theorem keepS_34 : Cs.keep 34 = [0, 9, 8, 10, 7, 6, 1, 15, 4] := rfl
theorem fnS_34 : Cs.P.funcs[34]? = some Tryz.f34 := Tryz.func34
theorem extS_34 : Cs.ext 34 = none := rfl
theorem pureS_34 (h : FuncId) (d : Option Tmp) : Cs.pure h 34 d = true := by simp [Cs, Cx, pureF, impF, impC]
@[go_sem] theorem keepS_11 : Cs.keep 11 = [0, 1, 2, 3, 5, 42, 6, 7, 9, 11, 13, 80, 10, 83, 82, 84, 81, 14, 8, 16, 94, 93, 95, 92, 17, 19, 107, 111, 110, 112, 109, 21, 118, 23, 126, 22, 129, 128, 130, 127, 12, 135, 134, 136, 133, 26, 25, 28, 147, 4] := rfl
@[go_sem] theorem alterS_11 (d : Option Tmp) : Cs.alter 11 d = false := rfl
theorem fnS_11 : Cs.P.funcs[11]? = some Tryz.f11 := Tryz.func11
/-! ### is a word among others -/
theorem ans34 (l : List ByteArray) (x : AV) (hx : SlOf 1 (strs l) x) (hn : l.length < 2 ^ 62) (s : ByteArray) : Ans Cs 34 [x, .v (.string s)] (.v (.bool (decide (s ∈ l)))) := by
  have hl := hx.len
  rw [show (strs l).length = l.length from List.length_map _] at hl
  unfold Ans
  rw [fn_step fnS_34 (show Tryz.f34.body = some _ from rfl)]
  simp -implicitDefEqProofs only [Tryz.f34, go_sem, ↓reduceIte, Int.reduceEq, Int.reduceLT, Int.reduceLE, List.reduceReplicate, intA, setT_nil, setT_cons, ↓boolP_bool, ↓iteB_true, ↓iteB_false, hl]
  refine Lp_rule (P := fun μ a H => ∃ i, i + μ = l.length ∧ s ∉ l.take i ∧ a = ⟨17, [(0, x), (1, .v (.string s)), (4, .v (.bool false)), (7, x), (8, intA l.length), (9, intA i)], []⟩ ∧ H = ⟨[], 0⟩) ?_ l.length _ _ ⟨0, by omega, by simp, rfl, rfl⟩
  rintro μ _ _ ⟨i, hi, hno, rfl, rfl⟩
  by_cases hlt : (i : Int) < (l.length : Int)
  · obtain ⟨y, hy⟩ := at_lt l i (by omega)
    have hiy := hx.idx (strs_get hy)
    have hw := wrap_succ i (by omega)
    by_cases e : y = s
    · have hin : decide (s ∈ l) = true := decide_eq_true (e ▸ List.mem_of_getElem? hy)
      have he : decide (y = s) = true := decide_eq_true e
      rw [hin]
      simp -implicitDefEqProofs only [go_sem, ↓reduceIte, Int.reduceEq, Int.reduceLT, Int.reduceLE, List.reduceReplicate, intA, setT_nil, setT_cons, ↓boolP_bool, ↓iteB_true, ↓iteB_false, hlt, hiy, bin_seq, he]
    · have he : decide (y = s) = false := decide_eq_false e
      simp -implicitDefEqProofs only [go_sem, ↓reduceIte, Int.reduceEq, Int.reduceLT, Int.reduceLE, List.reduceReplicate, intA, setT_nil, setT_cons, ↓boolP_bool, ↓iteB_true, ↓iteB_false, hlt, hiy, hw, bin_seq, he, hx.bound, trim_at]
      exact ⟨μ - 1, by omega, i + 1, by omega, by rw [List.take_add_one, hy, List.mem_append, not_or]; exact ⟨hno, by simpa using fun h => e h.symm⟩, rfl, rfl⟩
  · obtain rfl : i = l.length := by omega
    rw [List.take_length] at hno
    have hin : decide (s ∈ l) = false := decide_eq_false hno
    rw [hin]
    simp -implicitDefEqProofs only [go_sem, ↓reduceIte, Int.reduceEq, Int.reduceLT, Int.reduceLE, List.reduceReplicate, intA, setT_nil, setT_cons, ↓boolP_bool, ↓iteB_true, ↓iteB_false, hlt]
theorem callS34 (l : List ByteArray) (hn : l.length < 2 ^ 62) (s : ByteArray) (me : FuncId) (d : Option Tmp) (H : Heap) : callA Cs (lim Cs) me 34 d [wdsV l, .v (.string s)] H = some (.v (.bool (decide (s ∈ l))), H) :=
  (ans34 l _ (wdsV_sl l) hn s).call extS_34 (pureS_34 _ _) (by simp only [boundL_cons, wdsV_bound, bound_v, boundL_nil]; rfl) H
theorem voc_len {t : Txt} (hs : Small t) : (vocL t).length < 2 ^ 62 := by
  have h2 := nodup_sub_len (voc_nodup t) (fun w hw => voc_mem.1 hw)
  rw [List.length_map] at h2
  have := wordsT_small hs
  omega
theorem allD_lenV : ∀ {cs : List (Int × List Rd)}, (∀ c ∈ cs, c.2.length ≤ 20) → (allD cs).length ≤ cs.length * 20
  | [], _ => Nat.le_refl _
  | c :: r, h => by
    have h3 := allD_lenV fun z hz => h z (List.mem_cons_of_mem c hz)
    have h4 := dbtL_len c.2
    have h5 := h c List.mem_cons_self
    show ((c :: r).flatMap fun c => dbtL c.2).length ≤ _
    change ((r).flatMap fun c => dbtL c.2).length ≤ _ at h3
    rw [List.flatMap_cons, List.length_append, List.length_cons]; omega
set_option maxHeartbeats 8000000 in
theorem ans11 (t : Txt) (ht : Fits t) (ch : AV) (xs : List AV) (hch : SlOf 2 xs ch) (hall : All2 ChapA t xs) (id : Int) (rs : List Rd) (y : AV) (hy : RdsA rs y) (hf : ∀ r ∈ rs, RdF r) : Ans Cs 11 [.agg [ch], .agg [intA id, y]] (.v (.bool true)) := by
  have h13 := call13S t ht hch hall
  have hyf : SlOf 5 (rs.map rdV) y := hy
  unfold Ans
  rw [fn_step fnS_11 (show Tryz.f11.body = some _ from rfl)]
  cases h1 : readyB t
  · rw [h1] at h13
    simp -implicitDefEqProofs only [Tryz.f11, go_sem, ↓reduceIte, Int.reduceEq, Int.reduceLT, Int.reduceLE, List.reduceReplicate, intA, setT_nil, setT_cons, ↓boolP_bool, ↓iteB_true, ↓iteB_false, hch.cells, hch.flat, hch.bound, hyf.cells, hyf.flat, hyf.bound, callS12, h13]
  rw [h1] at h13
  have htx := readyS h1
  have hs := small_of htx
  have h28 := call28S (c := (id, rs)) ht hs hch hall hy hf
  cases h2 : rightB t id rs
  · rw [show rightB t (id, rs).1 (id, rs).2 = rightB t id rs from rfl, h2] at h28
    simp -implicitDefEqProofs only [Tryz.f11, go_sem, ↓reduceIte, Int.reduceEq, Int.reduceLT, Int.reduceLE, List.reduceReplicate, intA, setT_nil, setT_cons, ↓boolP_bool, ↓iteB_true, ↓iteB_false, hch.cells, hch.flat, hch.bound, hyf.cells, hyf.flat, hyf.bound, callS12, h13, h28]
  rw [show rightB t (id, rs).1 (id, rs).2 = rightB t id rs from rfl, h2] at h28
  have hR : Right t id rs := Right.of (by unfold rightB at h2; simp only [Bool.and_eq_true] at h2; exact h2.2)
  obtain ⟨ys, o, ho, hys, h58, h25a⟩ := copyW quietA t hs ht htx ch xs hch hall id rs y hy hf hR
  have h25 : ∀ (me : FuncId) (d : Option Tmp) (H : Heap), callA Cs (lim Cs) me 25 d [.agg [ch], .agg [.v (.int .i64 id), y]] H = some (.tup [.agg [o], .v (.int .i64 0)], H) := fun me d H => h25a.call (C := Cx eA) (ext_25 quietA) (pure_25 eA me d) (bound_cp hch.bound hy) H
  have htx2 := hR.textV htx
  have hs2 := hR.small hs
  have ht2 := hR.fits ht hf
  have h20 := callS20 ht htx hch hall
  have h20b := callS20 ht2 htx2 ho hys
  have hz1 : All2 CpA [(id, rs)] [.agg [intA id, y]] := ⟨rfl, fun i c z hc hz => by
    match i with
    | 0 => simp at hc hz; subst hc hz; exact ⟨y, rfl, hy, hf⟩
    | i + 1 => simp at hc⟩
  have hR1 : ∀ c ∈ [(id, rs)], Right t c.1 c.2 := fun c hc => by obtain rfl := List.mem_singleton.1 hc; exact hR
  have h32 := call32 ht htx hch hall (cpsOk_of hs ht htx hch hall hz1 hR1) (by simp) (lx := .vs 2 [.agg [intA id, y]] (some 1)) (Or.inr ⟨_, rfl⟩) hz1
  unfold intA at h32
  have hBk : ∀ w ∈ vocL (readT t rs), w ∈ vocL t ∨ ∃ r ∈ rs, r.word = w := fun w hw => voc_known hw
  have hst : ∀ q ∈ wordsT 0 t, plI q.1 ∉ doubtL [(id, rs)] → q.2 ∈ vocL (readT t rs) := fun q hq hn => voc_stands hs hR.cpy hq fun h => hn (doubtL_mem.2 ⟨(id, rs), List.mem_singleton.2 rfl, h⟩)
  have hAl := voc_len hs
  have hBl := voc_len hs2
  have hDl : (doubtL [(id, rs)]).length < 2 ^ 62 := by
    have h1 := onceL_le (srtP (allD [(id, rs)]))
    rw [srtP_len] at h1
    have h2 := allD_lenV (cs := [(id, rs)]) fun c hc => by have := (hR1 c hc).len; omega
    simp only [List.length_cons, List.length_nil] at h2
    unfold doubtL; omega
  have hrl : rs.length < 2 ^ 62 := by have := hR.len; omega
  have hAm : ∀ w ∈ vocL t, ∃ q ∈ wordsT 0 t, q.2 = w := fun w hw => by
    obtain ⟨q, hq, rfl⟩ := List.mem_map.1 (voc_mem.1 hw)
    exact ⟨q, hq, rfl⟩
  have hwd : ∀ q ∈ wordsT 0 t, wordB q.2 = true ∧ q.2.size < 2 ^ 63 := fun q hq => by
    obtain ⟨m, n, k, c, l, h1, h2, h3, h4⟩ := (wordsT_mem t 0 q).1 hq
    exact ⟨hs.word c (List.mem_of_getElem? h2) l (List.mem_of_getElem? h3) _ (List.mem_of_getElem? h4), ht.size c (List.mem_of_getElem? h2) l (List.mem_of_getElem? h3) _ (List.mem_of_getElem? h4)⟩
  generalize vocL t = A at *
  generalize vocL (readT t rs) = B at *
  generalize doubtL [(id, rs)] = D at *
  have hA := wdsV_sl A
  have hB := wdsV_sl B
  have hD := plsV_sl D
  have hAn := hA.len
  have hBn := hB.len
  have hDn := hD.len
  have hRn := hyf.len
  rw [show (strs A).length = A.length from List.length_map _] at hAn
  rw [show (strs B).length = B.length from List.length_map _] at hBn
  rw [List.length_map] at hDn hRn
  simp -implicitDefEqProofs only [Tryz.f11, go_sem, ↓reduceIte, Int.reduceEq, Int.reduceLT, Int.reduceLE, List.reduceReplicate, intA, setT_nil, setT_cons, ↓boolP_bool, ↓iteB_true, ↓iteB_false, hch.cells, hch.flat, hch.bound, ho.cells, ho.flat, ho.bound, hyf.cells, hyf.flat, hyf.bound, callS12, h13, h28, h25, h20, h20b, h32, hBn]
  refine Lp_rule (P := fun μ a H => ∃ i : Nat, i + μ = B.length ∧ a = ⟨151, [(0, .agg [ch]), (1, .agg [intA id, y]), (2, .ptr 0 0 0), (3, .ptr 1 0 0), (4, .v (.bool false)), (5, .v (.bool true)), (42, .v (.bool false)), (6, .ptr 2 0 0), (7, intA 0), (8, wdsV A), (9, intA 0), (10, wdsV B), (11, intA 0), (12, plsV D), (13, intA 0), (80, .v (.bool false)), (14, .fn (.func 34) [] []), (81, wdsV B), (82, intA B.length), (83, intA i)], []⟩ ∧ H = ⟨[some (.cells 0 0 24 1 false [ch]), some (.cells 0 0 53 1 false [intA id, y]), some (.cells 0 0 24 1 false [o])], 0⟩) ?_ B.length _ _ ⟨0, by omega, rfl, rfl⟩
  rintro μ _ _ ⟨i, hi, rfl, rfl⟩
  by_cases hlt : (i : Int) < (B.length : Int)
  · obtain ⟨w, hwB⟩ := at_lt B i (by omega)
    have hiw := hB.idx (strs_get hwB)
    have hw := wrap_succ i (by omega)
    have h34 := callS34 A hAl w
    simp -implicitDefEqProofs only [go_sem, ↓reduceIte, Int.reduceEq, Int.reduceLT, Int.reduceLE, List.reduceReplicate, intA, setT_nil, setT_cons, ↓boolP_bool, ↓iteB_true, ↓iteB_false, hlt, hiw, h34, hRn, hch.bound]
    refine Lp_rule (P := fun μ a H => ∃ (j : Nat) (kn : Bool), j + μ = rs.length ∧ kn = (decide (w ∈ A) || (rs.take j).any fun r => decide (r.word = w)) ∧ a = ⟨151, [(0, .agg [ch]), (1, .agg [intA id, y]), (2, .ptr 0 0 0), (3, .ptr 1 0 0), (4, .v (.bool false)), (5, .v (.bool true)), (42, .v (.bool false)), (6, .ptr 2 0 0), (7, intA 0), (8, wdsV A), (9, intA 0), (10, wdsV B), (11, intA 0), (12, plsV D), (13, intA 0), (80, .v (.bool false)), (14, .fn (.func 34) [] []), (81, wdsV B), (82, intA B.length), (83, intA i), (84, .v (.bool true)), (16, .v (.string w)), (17, .v (.bool kn)), (92, y), (93, intA rs.length), (94, intA j)], []⟩ ∧ H = ⟨[some (.cells 0 0 24 1 false [ch]), some (.cells 0 0 53 1 false [intA id, y]), some (.cells 0 0 24 1 false [o])], 0⟩) ?_ rs.length _ _ ⟨0, decide (w ∈ A), by omega, by simp, rfl, rfl⟩
    rintro μ2 _ _ ⟨j, kn, hj, hkn, rfl, rfl⟩
    by_cases hlt2 : (j : Int) < (rs.length : Int)
    · obtain ⟨r, hr⟩ := at_lt rs j (by omega)
      have hir := hyf.idx (show (rs.map rdV)[j]? = some (rdV r) by rw [List.getElem?_map, hr]; rfl)
      unfold rdV at hir
      have hwj := wrap_succ j (by omega)
      have hany : (decide (w ∈ A) || (rs.take (j + 1)).any fun r => decide (r.word = w)) = (kn || decide (r.word = w)) := by
        rw [List.take_add_one, hr, List.any_append, ← Bool.or_assoc, ← hkn]; simp
      cases kn
      · simp -implicitDefEqProofs only [go_sem, ↓reduceIte, Int.reduceEq, Int.reduceLT, Int.reduceLE, List.reduceReplicate, intA, setT_nil, setT_cons, ↓boolP_bool, ↓iteB_true, ↓iteB_false, hlt2, hir, hwj, bin_seq, hch.bound, hyf.bound, wdsV_bound, plsV_bound, trim_at]
        exact ⟨μ2 - 1, by omega, j + 1, _, by omega, hany.symm, rfl, rfl⟩
      · simp -implicitDefEqProofs only [go_sem, ↓reduceIte, Int.reduceEq, Int.reduceLT, Int.reduceLE, List.reduceReplicate, intA, setT_nil, setT_cons, ↓boolP_bool, ↓iteB_true, ↓iteB_false, hlt2, hir, hwj, bin_seq, hch.bound, hyf.bound, wdsV_bound, plsV_bound, trim_at]
        exact ⟨μ2 - 1, by omega, j + 1, _, by omega, hany.symm, rfl, rfl⟩
    · obtain rfl : j = rs.length := by omega
      rw [List.take_length] at hkn
      have hkt : kn = true := by
        rw [hkn, Bool.or_eq_true]
        rcases hBk w (List.mem_of_getElem? hwB) with h | ⟨r, hr, e⟩
        · exact Or.inl (decide_eq_true h)
        · exact Or.inr (List.any_eq_true.2 ⟨r, hr, decide_eq_true e⟩)
      subst hkt
      simp -implicitDefEqProofs only [go_sem, ↓reduceIte, Int.reduceEq, Int.reduceLT, Int.reduceLE, List.reduceReplicate, intA, setT_nil, setT_cons, ↓boolP_bool, ↓iteB_true, ↓iteB_false, hlt2, hw, hch.bound, hyf.bound, wdsV_bound, plsV_bound, trim_at]
      exact ⟨μ - 1, by omega, i + 1, by omega, rfl, rfl⟩
  · obtain rfl : i = B.length := by omega
    simp -implicitDefEqProofs only [go_sem, ↓reduceIte, Int.reduceEq, Int.reduceLT, Int.reduceLE, List.reduceReplicate, intA, setT_nil, setT_cons, ↓boolP_bool, ↓iteB_true, ↓iteB_false, hlt, hAn]
    refine Lp_rule (P := fun μ a H => ∃ i : Nat, i + μ = A.length ∧ a = ⟨151, [(0, .agg [ch]), (1, .agg [intA id, y]), (2, .ptr 0 0 0), (3, .ptr 1 0 0), (4, .v (.bool false)), (5, .v (.bool true)), (42, .v (.bool false)), (6, .ptr 2 0 0), (7, intA 0), (8, wdsV A), (9, intA 0), (10, wdsV B), (11, intA 0), (12, plsV D), (13, intA 0), (80, .v (.bool false)), (14, .fn (.func 34) [] []), (81, wdsV B), (82, intA B.length), (83, intA B.length), (109, wdsV A), (110, intA A.length), (111, intA i)], []⟩ ∧ H = ⟨[some (.cells 0 0 24 1 false [ch]), some (.cells 0 0 53 1 false [intA id, y]), some (.cells 0 0 24 1 false [o])], 0⟩) ?_ A.length _ _ ⟨0, by omega, rfl, rfl⟩
    clear hlt hi
    rintro μ _ _ ⟨i, hi, rfl, rfl⟩
    by_cases hlt : (i : Int) < (A.length : Int)
    · obtain ⟨u, hu⟩ := at_lt A i (by omega)
      have hiu := hA.idx (strs_get hu)
      have hw := wrap_succ i (by omega)
      have h34 := callS34 B hBl u
      by_cases hin : u ∈ B
      · rw [decide_eq_true hin] at h34
        simp -implicitDefEqProofs only [go_sem, ↓reduceIte, Int.reduceEq, Int.reduceLT, Int.reduceLE, List.reduceReplicate, intA, setT_nil, setT_cons, ↓boolP_bool, ↓iteB_true, ↓iteB_false, hlt, hiu, hw, h34, hch.bound, hyf.bound, wdsV_bound, plsV_bound, trim_at]
        exact ⟨μ - 1, by omega, i + 1, by omega, rfl, rfl⟩
      · rw [decide_eq_false hin] at h34
        obtain ⟨q0, hq0, hqu⟩ := hAm u (List.mem_of_getElem? hu)
        have hwu := hwd q0 hq0
        rw [hqu] at hwu
        have h21 := callS21 ht htx hch hall u hwu.1 hwu.2
        have hQ := plsV_sl (placesL u (wordsT 0 t))
        have hQn := hQ.len
        rw [List.length_map] at hQn
        have hQl : (placesL u (wordsT 0 t)).length < 2 ^ 62 := by
          have h1 := places_len u (wordsT 0 t)
          have h2 := wordsT_small hs
          omega
        have hQD : ∀ p ∈ placesL u (wordsT 0 t), p ∈ D := fun p hp => by
          obtain ⟨q, hq, he, rfl⟩ := places_mem.1 hp
          by_cases h : plI q.1 ∈ D
          · exact h
          · exact absurd (he ▸ hst q hq h) hin
        generalize placesL u (wordsT 0 t) = Q at *
        simp -implicitDefEqProofs only [go_sem, ↓reduceIte, Int.reduceEq, Int.reduceLT, Int.reduceLE, List.reduceReplicate, intA, setT_nil, setT_cons, ↓boolP_bool, ↓iteB_true, ↓iteB_false, hlt, hiu, h34, h21, hQn, hch.bound, hyf.bound, wdsV_bound, plsV_bound, trim_at]
        refine Lp_rule (P := fun μ a H => ∃ k : Nat, k + μ = Q.length ∧ a = ⟨151, [(0, .agg [ch]), (1, .agg [intA id, y]), (2, .ptr 0 0 0), (3, .ptr 1 0 0), (4, .v (.bool false)), (5, .v (.bool true)), (42, .v (.bool false)), (6, .ptr 2 0 0), (7, intA 0), (8, wdsV A), (9, intA 0), (10, wdsV B), (11, intA 0), (12, plsV D), (13, intA 0), (80, .v (.bool false)), (14, .fn (.func 34) [] []), (81, wdsV B), (82, intA B.length), (83, intA B.length), (109, wdsV A), (110, intA A.length), (111, intA i), (112, .v (.bool true)), (21, .v (.string u)), (118, .v (.bool false)), (22, plsV Q), (23, intA 0), (126, .v (.bool false)), (127, plsV Q), (128, intA Q.length), (129, intA k)], []⟩ ∧ H = ⟨[some (.cells 0 0 24 1 false [ch]), some (.cells 0 0 53 1 false [intA id, y]), some (.cells 0 0 24 1 false [o])], 0⟩) ?_ Q.length _ _ ⟨0, by omega, rfl, rfl⟩
        rintro μ2 _ _ ⟨k, hk, rfl, rfl⟩
        by_cases hlt2 : (k : Int) < (Q.length : Int)
        · obtain ⟨p, hp⟩ := at_lt Q k (by omega)
          have hip := hQ.idx (show (Q.map p3V)[k]? = some (p3V p) by rw [List.getElem?_map, hp]; rfl)
          unfold p3V intA at hip
          have hwk := wrap_succ k (by omega)
          have hpD := hQD p (List.mem_of_getElem? hp)
          simp -implicitDefEqProofs only [go_sem, ↓reduceIte, Int.reduceEq, Int.reduceLT, Int.reduceLE, List.reduceReplicate, intA, setT_nil, setT_cons, ↓boolP_bool, ↓iteB_true, ↓iteB_false, hlt2, hip, hDn, hch.bound, hyf.bound, wdsV_bound, plsV_bound]
          refine Lp_rule (P := fun μ a H => ∃ (j : Nat) (f : Bool), j + μ = D.length ∧ f = ((D.take j).any fun q => decide (p = q)) ∧ a = ⟨151, [(0, .agg [ch]), (1, .agg [intA id, y]), (2, .ptr 0 0 0), (3, .ptr 1 0 0), (4, .v (.bool false)), (5, .v (.bool true)), (42, .v (.bool false)), (6, .ptr 2 0 0), (7, intA 0), (8, wdsV A), (9, intA 0), (10, wdsV B), (11, intA 0), (12, plsV D), (13, intA 0), (80, .v (.bool false)), (14, .fn (.func 34) [] []), (81, wdsV B), (82, intA B.length), (83, intA B.length), (109, wdsV A), (110, intA A.length), (111, intA i), (112, .v (.bool true)), (21, .v (.string u)), (118, .v (.bool false)), (22, plsV Q), (23, intA 0), (126, .v (.bool false)), (127, plsV Q), (128, intA Q.length), (129, intA k), (130, .v (.bool true)), (25, .ptr 3 0 0), (26, .v (.bool f)), (133, plsV D), (134, intA D.length), (135, intA j)], []⟩ ∧ H = ⟨[some (.cells 0 0 24 1 false [ch]), some (.cells 0 0 53 1 false [intA id, y]), some (.cells 0 0 24 1 false [o]), some (.cells 0 0 32 1 false [intA p.1, intA p.2.1, intA p.2.2])], 0⟩) ?_ D.length _ _ ⟨0, false, by omega, rfl, rfl, rfl⟩
          rintro μ3 _ _ ⟨j, f, hj, hf3, rfl, rfl⟩
          by_cases hlt3 : (j : Int) < (D.length : Int)
          · obtain ⟨q, hq⟩ := at_lt D j (by omega)
            have hiq := hD.idx (show (D.map p3V)[j]? = some (p3V q) by rw [List.getElem?_map, hq]; rfl)
            unfold p3V intA at hiq
            have hwj := wrap_succ j (by omega)
            obtain ⟨dq, hdq⟩ : ∃ dq, decide (p = q) = dq := ⟨_, rfl⟩
            have heq : eqP p.1 p.2.1 p.2.2 q.1 q.2.1 q.2.2 = dq := (eqP_iff p q).trans ((decide_eq_decide.2 Iff.rfl).trans hdq)
            have hany : ((D.take (j + 1)).any fun q => decide (p = q)) = (f || dq) := by
              rw [List.take_add_one, hq, List.any_append, ← hf3, ← hdq]; simp
            cases f
            · simp -implicitDefEqProofs only [go_sem, ↓reduceIte, Int.reduceEq, Int.reduceLT, Int.reduceLE, List.reduceReplicate, intA, setT_nil, setT_cons, ↓boolP_bool, ↓iteB_true, ↓iteB_false, hlt3, hiq, hwj, eq32, heq, hch.bound, hyf.bound, wdsV_bound, plsV_bound, trim_at]
              exact ⟨μ3 - 1, by omega, j + 1, _, by omega, hany.symm, rfl, rfl⟩
            · simp -implicitDefEqProofs only [go_sem, ↓reduceIte, Int.reduceEq, Int.reduceLT, Int.reduceLE, List.reduceReplicate, intA, setT_nil, setT_cons, ↓boolP_bool, ↓iteB_true, ↓iteB_false, hlt3, hiq, hwj, eq32, heq, hch.bound, hyf.bound, wdsV_bound, plsV_bound, trim_at]
              exact ⟨μ3 - 1, by omega, j + 1, _, by omega, hany.symm, rfl, rfl⟩
          · obtain rfl : j = D.length := by omega
            rw [List.take_length] at hf3
            have hft : f = true := by
              rw [hf3]
              exact List.any_eq_true.2 ⟨p, hpD, decide_eq_true rfl⟩
            subst hft
            simp -implicitDefEqProofs only [go_sem, ↓reduceIte, Int.reduceEq, Int.reduceLT, Int.reduceLE, List.reduceReplicate, intA, setT_nil, setT_cons, ↓boolP_bool, ↓iteB_true, ↓iteB_false, hlt3, hwk, hch.bound, hyf.bound, wdsV_bound, plsV_bound, trim_at]
            exact ⟨μ2 - 1, by omega, k + 1, by omega, rfl, rfl⟩
        · obtain rfl : k = Q.length := by omega
          simp -implicitDefEqProofs only [go_sem, ↓reduceIte, Int.reduceEq, Int.reduceLT, Int.reduceLE, List.reduceReplicate, intA, setT_nil, setT_cons, ↓boolP_bool, ↓iteB_true, ↓iteB_false, hlt2, hw, hch.bound, hyf.bound, wdsV_bound, plsV_bound, trim_at]
          exact ⟨μ - 1, by omega, i + 1, by omega, rfl, rfl⟩
    · obtain rfl : i = A.length := by omega
      simp -implicitDefEqProofs only [go_sem, ↓reduceIte, Int.reduceEq, Int.reduceLT, Int.reduceLE, List.reduceReplicate, intA, setT_nil, setT_cons, ↓boolP_bool, ↓iteB_true, ↓iteB_false, hlt]
end Go.Ev
