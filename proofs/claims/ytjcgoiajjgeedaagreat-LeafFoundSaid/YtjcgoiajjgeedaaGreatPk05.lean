/- What the proof of this claim stands on, part 6: an evaluator of the model, proved right, and what it answers for functions of the program. -/
import Derived.Test.YtjcgoiajjgeedaaGreatPk04
set_option linter.unusedSimpArgs false
namespace Go.Ev
open Go.Proofs
set_option maxRecDepth 100000
set_option linter.unusedSimpArgs false
attribute [local irreducible] Wp WpS
/-! ### readings found so far, and where they lie -/
def fI (fnd : Nat → Nat → List Rd) (x : List AV) : List Rd := match x with
  | .agg (.v (.int _ i) :: .v (.int _ k) :: _) :: _ => fnd i.toNat k.toNat
  | _ => []
theorem fI_at (fnd : Nat → Nat → List Rd) (i k : Nat) (r : List AV) : fI fnd (placeA i k 0 :: r) = fnd i k := rfl
def stp22 (fnd : Nat → Nat → List Rd) (s : List Rd) (x : List AV) : AExit × List Rd := (.normal, s ++ fI fnd x)
def okI22 (fnd : Nat → Nat → List Rd) (x : List AV) : Prop := ∃ (i k : Nat) (lx ly : AV) (a c : Line) (tb : List Int), x = [placeA i k 0, .agg (prC lx ly tb)] ∧ SlOf 1 (strs a) lx ∧ SlOf 1 (strs c) ly ∧ a.length ≤ 10 ∧ c.length ≤ 10 ∧ TabOK a c tb (-1) 0 ∧ fnd i k = foundL i k 0 a c
def ok22 (fnd : Nat → Nat → List Rd) (s : List Rd) (x : List AV) : Prop := okI22 fnd x ∧ s.length < 2 ^ 31
theorem fI_len {fnd : Nat → Nat → List Rd} {x : List AV} (h : okI22 fnd x) : (fI fnd x).length ≤ 20 := by
  obtain ⟨i, k, lx, ly, a, c, tb, rfl, -, -, ha, hc, -, hf⟩ := h
  rw [fI_at, hf, found_len]
  have := dist_sum a c; omega
theorem run22 (fnd : Nat → Nat → List Rd) : ∀ (T : List (List AV)) (s : List Rd), (∀ x ∈ T, okI22 fnd x) → s.length + 20 * T.length < 2 ^ 31 →
    okRun (fun s x => (isGo (stp22 fnd s x).1, (stp22 fnd s x).2)) (ok22 fnd) T s ∧ foldE (stp22 fnd) T s = (.normal, s ++ T.flatMap (fI fnd))
  | [], s, _, _ => ⟨trivial, by simp [foldE]⟩
  | x :: r, s, h, hl => by
    have h1 := fI_len (h x (List.mem_cons_self ..))
    rw [List.length_cons] at hl
    have ih := run22 fnd r (s ++ fI fnd x) (fun z hz => h z (List.mem_cons_of_mem _ hz)) (by rw [List.length_append]; omega)
    refine ⟨⟨⟨h x (List.mem_cons_self ..), by omega⟩, fun _ => ih.1⟩, ?_⟩
    rw [foldE_go rfl]
    show foldE (stp22 fnd) r (s ++ fI fnd x) = _
    rw [ih.2, List.flatMap_cons, List.append_assoc]
def L22 (D : Nat) (s : List Rd) (lv : AV) (m2 : Nat) (rows : Fm) : Prop := (s = [] ∧ lv = .v (.slice none 0 0) ∧ rows = []) ∨ ∃ b v, s ≠ [] ∧ lv = .sl b v 0 s.length none ∧ D + 2 ≤ b ∧ b < m2 ∧ rows = [(b, .cells v 0 65 5 true (rdCells s))]
def base22 (ch ch' : AV) (id : Int) (lv : AV) (m2 : Nat) : Fm := [(2, .cells 0 0 53 1 false [intA 0, .v (.slice none 0 0)]), (4, .cells 0 m2 53 1 false [intA id, lv]), (5, .cells 0 0 79 1 false [ch]), (6, .cells 0 0 24 1 false [ch'])]
def R22 (D : Nat) (ch ch' : AV) (id : Int) (s : List Rd) (m : Fm) : Prop := ∃ lv m2 rows, L22 D s lv m2 rows ∧ m = base22 ch ch' id lv m2 ++ rows
theorem base22_lt {ch ch' : AV} {id : Int} {lv : AV} {m2 : Nat} {p : Nat × AObj} (h : p ∈ base22 ch ch' id lv m2) : p.1 < 7 := by
  unfold base22 at h
  simp only [List.mem_cons, List.not_mem_nil, or_false] at h
  rcases h with rfl | rfl | rfl | rfl <;> simp
theorem L22.lo {D : Nat} {s : List Rd} {lv : AV} {m2 : Nat} {rows : Fm} (h : L22 D s lv m2 rows) {p : Nat × AObj} (hp : p ∈ rows) : D + 2 ≤ p.1 ∧ p.1 < m2 := by
  rcases h with ⟨-, -, rfl⟩ | ⟨b, v, -, -, h5, hb, rfl⟩
  · exact nomatch hp
  · rw [List.mem_singleton.1 hp]; exact ⟨h5, hb⟩
theorem R22_anch {D : Nat} {ch ch' : AV} {id : Int} (s : List Rd) (m : Fm) (h : R22 D ch ch' id s m) : Anch 7 m := by
  obtain ⟨lv, m2, rows, hl, rfl⟩ := h
  rintro n hn ⟨p, hp, hnp⟩
  refine ⟨(4, .cells 0 m2 53 1 false [intA id, lv]), List.mem_append_left _ (by unfold base22; simp), by show 4 < n; omega, ?_⟩
  show n < m2
  rcases List.mem_append.1 hp with hp | hp
  · have := base22_lt hp; omega
  · have := hl.lo hp; omega
theorem R22_free {D : Nat} (hD : 7 ≤ D) {ch ch' : AV} {id : Int} (s : List Rd) (m : Fm) (h : R22 D ch ch' id s m) : ¬ keyIn D m ∧ ¬ keyIn (D + 1) m := by
  obtain ⟨lv, m2, rows, hl, rfl⟩ := h
  have key : ∀ p ∈ base22 ch ch' id lv m2 ++ rows, p.1 ≠ D ∧ p.1 ≠ D + 1 := by
    intro p hp
    rcases List.mem_append.1 hp with hp | hp
    · have := base22_lt hp; omega
    · have := hl.lo hp; omega
  exact ⟨fun ⟨p, hp, he⟩ => (key p hp).1 he, fun ⟨p, hp, he⟩ => (key p hp).2 he⟩
theorem fin22 {D : Nat} (hD : 7 ≤ D) {ch ch' : AV} {id : Int} {s' : List Rd} {lv lv' : AV} {m2 m2' : Nat} {rows rows' : Fm} {X W : Heap} {N : Nat} {L' : ALoop} (hlW : W.get (D + 1) = some (.loop L')) (hXN : X.size = N) (hlk : X.lock = 0) (hsz : D + 2 ≤ N)
    (hH : Has (base22 ch ch' id lv m2 ++ rows) X) (hl' : L22 D s' lv' m2' rows') (hW4 : W.get 4 = some (.cells 0 m2' 53 1 false [intA id, lv'])) (hWr : Has rows' W)
    (hWo : ∀ b, b < N → b ≠ 4 → b ≠ D + 1 → ¬ keyIn b rows' → W.get b = X.get b) (hWl : W.lock = 0) (hWs : N ≤ W.size) (hb : ∀ p ∈ rows', N ≤ p.1 ∨ keyIn p.1 rows) :
    ∃ m', R22 D ch ch' id s' m' ∧ Has m' W ∧ loopObj W (D + 1) = some L' ∧ Moves ((D + 1, .loop L') :: (base22 ch ch' id lv m2 ++ rows)) X ((D + 1, .loop L') :: m') W := by
  have hlow : ∀ b, b < 7 → ¬ keyIn b rows' := fun b hb ⟨p, hp, he⟩ => by have := hl'.lo hp; omega
  have hbase : ∀ p ∈ base22 ch ch' id lv m2, p.1 ≠ 4 → W.get p.1 = some p.2 := fun p hp hne => by
    have := base22_lt hp
    rw [hWo p.1 (by omega) hne (by omega) (hlow _ this)]
    exact hH p (List.mem_append_left _ hp)
  refine ⟨base22 ch ch' id lv' m2' ++ rows', ⟨lv', m2', rows', hl', rfl⟩, fun p hp => ?_, get_loopObj hlW, hWl.trans hlk.symm, by omega, fun b hbn hk => ?_, fun p hp => ?_⟩
  · rcases List.mem_append.1 hp with hp | hp
    · unfold base22 at hp
      simp only [List.mem_cons, List.not_mem_nil, or_false] at hp
      rcases hp with rfl | rfl | rfl | rfl
      · exact hbase (2, _) (by unfold base22; simp) (by simp)
      · exact hW4
      · exact hbase (5, _) (by unfold base22; simp) (by simp)
      · exact hbase (6, _) (by unfold base22; simp) (by simp)
    · exact hWr p hp
  · have h1 : b ≠ D + 1 := fun h => hk ⟨_, List.mem_cons_self .., h.symm⟩
    have h4 : b ≠ 4 := fun h => hk ⟨(4, .cells 0 m2 53 1 false [intA id, lv]), List.mem_cons_of_mem _ (List.mem_append_left _ (by unfold base22; simp)), h.symm⟩
    refine hWo b (by omega) h4 h1 fun ⟨p, hp, he⟩ => ?_
    rcases hb p hp with h | ⟨q, hq, he2⟩
    · omega
    · exact hk ⟨q, List.mem_cons_of_mem _ (List.mem_append_right _ hq), by omega⟩
  · rcases List.mem_cons.1 hp with rfl | hp
    · exact Or.inl ⟨_, List.mem_cons_self .., rfl⟩
    · rcases List.mem_append.1 hp with hp | hp
      · left
        unfold base22 at hp
        simp only [List.mem_cons, List.not_mem_nil, or_false] at hp
        have hm : ∀ q ∈ base22 ch ch' id lv m2, keyIn q.1 ((D + 1, AObj.loop L') :: (base22 ch ch' id lv m2 ++ rows)) := fun q hq => ⟨q, List.mem_cons_of_mem _ (List.mem_append_left _ hq), rfl⟩
        rcases hp with rfl | rfl | rfl | rfl
        · exact hm (2, _) (by unfold base22; simp)
        · exact hm (4, .cells 0 m2 53 1 false [intA id, lv]) (by unfold base22; simp)
        · exact hm (5, _) (by unfold base22; simp)
        · exact hm (6, _) (by unfold base22; simp)
      · rcases hb p hp with h | ⟨q, hq, he⟩
        · exact Or.inr (by omega)
        · exact Or.inl ⟨q, List.mem_cons_of_mem _ (List.mem_append_right _ hq), he⟩
/-- all that is handed over, and all that is found -/
theorem found_map (g : List AV → List Rd) (t u : Txt) (xs : List AV) (hall : All2 ChapA t xs) (h3 : alikeB t u = true)
    (hg : ∀ (i k : Nat) (y z : AV) (cp cq : Chap) (a c : Line), xs[i]? = some y → (linesOf y)[k]? = some z → t[i]? = some cp → u[i]? = some cq → cp.2[k]? = some a → cq.2[k]? = some c → g [placeA i k 0, z] = foundL i k 0 a c) :
    (chapIts 0 xs).flatMap g = foundT 0 t u := by
  have key : ∀ (n i : Nat), i + n = t.length → (chapIts i (xs.drop i)).flatMap g = foundT i (t.drop i) (u.drop i) := by
    intro n
    induction n with
    | zero =>
      intro i hi
      rw [show xs.drop i = [] from List.drop_eq_nil_of_le (by rw [← hall.1]; omega), show t.drop i = [] from List.drop_eq_nil_of_le (by omega)]
      rw [foundT]; rfl; all_goals (intros; simp at *)
    | succ n ih =>
      intro i hi
      obtain ⟨cp, hcp⟩ := at_lt t i (by omega)
      obtain ⟨y, hy, l, rfl, lxs, hl, hls⟩ := hall.get hcp
      obtain ⟨cq, hcq, -, hlen⟩ := alike_get h3 hcp
      have hlo : linesOf (.agg [intA cp.1, l]) = lxs := hl.elems
      rw [chapIts_drop xs i _ hy, drop_eq_cons hcp, drop_eq_cons hcq, foundT, List.flatMap_append, ih (i + 1) (by omega), hlo]
      congr 1
      have inner : ∀ (m j : Nat), j + m = lxs.length → (lineIts i j (lxs.drop j)).flatMap g = foundC i j (cp.2.drop j) (cq.2.drop j) := by
        intro m
        induction m with
        | zero =>
          intro j hj
          rw [show lxs.drop j = [] from List.drop_eq_nil_of_le (by omega), show cp.2.drop j = [] from List.drop_eq_nil_of_le (by rw [hls.1]; omega)]
          rw [foundC]; rfl; all_goals (intros; simp at *)
        | succ m ih2 =>
          intro j hj
          obtain ⟨z, hz⟩ := at_lt lxs j (by omega)
          obtain ⟨a, ha⟩ := at_lt cp.2 j (by rw [hls.1]; omega)
          obtain ⟨c, hc⟩ := at_lt cq.2 j (by rw [← hlen, hls.1]; omega)
          rw [lineIts_drop i lxs j z hz, drop_eq_cons ha, drop_eq_cons hc, foundC, List.flatMap_cons, ih2 (j + 1) (by omega), hg i j _ z cp cq a c hy (by rw [hlo]; exact hz) hcp hcq ha hc]
      have := inner lxs.length 0 (by omega)
      simpa using this
  have := key t.length 0 (by omega)
  simpa using this
end Go.Ev
namespace Go.Ev
open Go.Proofs
set_option maxRecDepth 100000
set_option linter.unusedSimpArgs false
attribute [local irreducible] Wp WpS
theorem ofV_nil : ofV [] = .v (.slice none 0 0) := rfl
theorem rdCells_flat : ∀ f : List Rd, (rdCells f).all AV.flat = true
  | [] => rfl
  | r :: f => by rw [rdCells_cons, List.all_append, rdCells_flat f]; rfl
theorem rdCells_bound : ∀ f : List Rd, boundL (rdCells f) = 0
  | [] => rfl
  | r :: f => by rw [rdCells_cons]; exact rdCells_bound f
theorem freeze22 {D : Nat} {s : List Rd} {lv : AV} {m2 : Nat} {rows : Fm} {W : Heap} (hl : L22 D s lv m2 rows) (hr : ∀ p ∈ rows, W.get p.1 = some p.2) (hk : W.lock = 0) (id : Int) : freezeV { W with lock := 0 } 1000000 (.tup [.agg [.v (.int .i64 id), lv], .v (.int .i64 0)]) = some (.tup [.agg [.v (.int .i64 id), ofV s], .v (.int .i64 0)]) := by
  have hW : ({ W with lock := 0 } : Heap) = W := by cases W; simp only at hk; subst hk; rfl
  rw [hW]
  have key : ∀ k, freezeV W (k + 1) lv = some (ofV s) := fun k => by
    rcases hl with ⟨rfl, rfl, -⟩ | ⟨b, v, hs, rfl, -, -, rfl⟩
    · rfl
    · have hb : W.row b v = some (0, 65, 5, true, rdCells s) := get_row (hr _ (List.mem_singleton.2 rfl))
      unfold freezeV
      simp only [hb, hk]
      rw [if_neg (by omega), if_pos ⟨by rw [rdCells_len]; omega, by omega⟩, if_pos trivial, List.drop_zero, List.take_of_length_le (by rw [rdCells_len]; omega), chunk_rds]
      cases s with
      | nil => exact absurd rfl hs
      | cons r f => rfl
  have e : ∀ k, freezeV W (k + 9) (.tup [.agg [.v (.int .i64 id), lv], .v (.int .i64 0)]) = some (.tup [.agg [.v (.int .i64 id), ofV s], .v (.int .i64 0)]) := fun k => by
    have h1 : freezeL W (k + 5) [lv] = some [ofV s] := by
      rw [freezeL, key, freezeL]
    have h2 : freezeL W (k + 6) [.v (.int .i64 id), lv] = some [.v (.int .i64 id), ofV s] := by
      rw [freezeL, h1, freezeV]
    have h3 : freezeV W (k + 7) (.agg [.v (.int .i64 id), lv]) = some (.agg [.v (.int .i64 id), ofV s]) := by
      rw [freezeV, h2]; rfl
    have h4 : freezeL W (k + 7) [.v (.int .i64 0)] = some [.v (.int .i64 0)] := by
      rw [freezeL, freezeV, freezeL]
    rw [freezeV, freezeL, h3, h4]; rfl
  exact e 999991
theorem finW {D : Nat} (hD : 7 ≤ D) {ch ch' : AV} {id : Int} {s' : List Rd} {lv lv' : AV} {m2 m2' : Nat} {rows rows' : Fm} {X Y P : Heap} {N : Nat} {L' : ALoop} (hN : X.size = N) (hlk : X.lock = 0) (hsz : D + 2 ≤ N) (hH : Has (base22 ch ch' id lv m2 ++ rows) X) (hY : ∀ b, b ≠ D + 1 → Y.get b = X.get b) (hlY : Y.get (D + 1) = some (.loop L'))
    (hl' : L22 D s' lv' m2' rows') (hPs : P.size = N) (hPk : P.lock = 0) (hP4 : P.get 4 = some (.cells 0 m2' 53 1 false [intA id, lv'])) (hPo : ∀ b, b < N → b ≠ 4 → ¬ keyIn b rows' → P.get b = Y.get b) (E : List (Option AObj)) (hE : 2 ≤ E.length) (hrow : ∀ p ∈ rows', (P.plus E).get p.1 = some p.2) (hb : ∀ p ∈ rows', N ≤ p.1 ∨ keyIn p.1 rows) :
    ∃ m', R22 D ch ch' id s' m' ∧ Has m' (settleH (N + 2) (P.plus E)) ∧ loopObj (settleH (N + 2) (P.plus E)) (D + 1) = some L' ∧ Moves ((D + 1, .loop L') :: (base22 ch ch' id lv m2 ++ rows)) X ((D + 1, .loop L') :: m') (settleH (N + 2) (P.plus E)) := by
  have hlow : ¬ keyIn (D + 1) rows' := fun ⟨p, hp, he⟩ => by have := hl'.lo hp; omega
  have hs := settle_size' (n := N + 2) (H := P.plus E) (by rw [plus_size, hPs]; omega)
  refine fin22 hD ?_ hN hlk hsz hH hl' ?_ ?_ ?_ ?_ (by omega) hb
  · rw [settle_lo (by omega), plus_get _ (by omega), hPo _ (by omega) (by omega) hlow]; exact hlY
  · rw [settle_lo (by omega), plus_get _ (by omega)]; exact hP4
  · exact fun p hp => settle_some (hrow p hp)
  · intro b hb' h4 h5 h6
    rw [settle_lo (by omega), plus_get _ (by omega), hPo b hb' h4 h6, hY b h5]
  · rw [settle_lock]; exact hPk
/-- what Find answers for texts that are alike -/
def res22 (id : Int) (l : List Rd) : AV := if 20 < l.length then .tup [.agg [intA 0, .v (.slice none 0 0)], intA 4] else .tup [.agg [intA id, ofV l], intA 0]
set_option maxHeartbeats 8000000 in
theorem find22 {e : Exts} (he : Quiet e) (t u : Txt) (ht : Fits t) (hu : Fits u) (ch ch' : AV) (xs xs' : List AV) (hch : SlOf 2 xs ch) (hall : All2 ChapA t xs) (hch' : SlOf 2 xs' ch') (hall' : All2 ChapA u xs') (h1 : textB t = true) (h2 : textB u = true) (h3 : alikeB t u = true) (id : Int) (hid : withinB 0 9999 [id] = true) :
    Ans (Cx e) 22 [.agg [ch], .agg [ch'], intA id] (res22 id (foundT 0 t u)) := by
  have hst := small_of h1
  have hsu := small_of h2
  have h50 : ∀ (me : FuncId) (d : Option Tmp) (H : Heap), callA (Cx e) (lim (Cx e)) me 50 d [.agg [ch], .agg [ch']] H = some (.tup [.agg [ch], .v (.int .i64 0)], H) := fun me d H =>
    (ans50 he t u ht hu ch ch' xs xs' hch hall hch' hall' h1 h2 h3).call (ext_50 he) (pure_50 _ _ _) (by simp only [boundL_cons, bound_agg, hch.bound, hch'.bound, boundL_nil]; rfl) H
  have h51 := call51 he id
  rw [hid] at h51
  obtain ⟨F, h52⟩ := call52 he ⟨[some (.cells 0 0 24 1 false [ch]), some (.cells 0 0 24 1 false [ch']), some (.cells 0 0 53 1 false [.v (.int .i64 0), .v (.slice none 0 0)]), some (.cells 0 0 79 1 false [ch]), some (.cells 0 0 53 1 false [.v (.int .i64 id), .v (.slice none 0 0)])], 0⟩ 5 rfl ch ch' xs xs' hch hch' 22 (some 31)
  obtain ⟨pf, hpf⟩ : ∃ pf : Nat → Nat → AV × List Int, ∀ i k, Lin t u xs e ch' i k (pf i k) := ⟨fun i k => Classical.choose (lin_of he t u hst hsu hu ch' xs xs' hall hch' hall' h3 i k), fun i k => Classical.choose_spec (lin_of he t u hst hsu hu ch' xs xs' hall hch' hall' h3 i k)⟩
  have hxl : xs.length < 2 ^ 63 := by rw [← hall.1]; exact ht.chs
  have hline : ∀ x ∈ chapIts 0 xs, ∃ (i k : Nat) (y z : AV), xs[i]? = some y ∧ (linesOf y)[k]? = some z ∧ x = [placeA i k 0, z] := fun x hx => by
    obtain ⟨i, y, j, z, h4, h5, rfl⟩ := chapIts_of xs 0 x hx
    exact ⟨i, j, y, z, h4, h5, by rw [Nat.zero_add]⟩
  have hpair : ∀ (i k : Nat) (z : AV), pairI (fun i k => (pf i k).2) (fun i k => (pf i k).1) [placeA i k 0, z] = [placeA i k 0, .agg (prC z (pf i k).1 (pf i k).2)] := fun i k z => rfl
  have hy := yields2_72 he ch xs hch (fun y hy => (okCh2_of ht hall y hy).ok) hxl ch' 5 6 (fun i k => (pf i k).2) (fun i k => (pf i k).1) (fun x hx => by
    obtain ⟨i, k, y, z, h4, h5, rfl⟩ := hline x hx
    obtain ⟨cp, cq, a, c, -, -, -, -, g1, g2, g3, g4, g5⟩ := hpf i k y z h4 h5
    exact ⟨i, k, z, a, c, rfl, g1, g2, g3.len, trivial, g4, g5⟩)
  obtain ⟨fnd, hfnd⟩ : ∃ fnd : Nat → Nat → List Rd, ∀ (i k : Nat) (cp cq : Chap) (a c : Line), t[i]? = some cp → u[i]? = some cq → cp.2[k]? = some a → cq.2[k]? = some c → fnd i k = foundL i k 0 a c := ⟨fun i k => foundL i k 0 ((((t[i]?).map fun c => c.2[k]?).getD none).getD []) ((((u[i]?).map fun c => c.2[k]?).getD none).getD []), fun i k cp cq a c e1 e2 e3 e4 => by simp only [e1, e2, e3, e4, Option.map_some, Option.getD_some]⟩
  have hitems : ∀ x ∈ (chapIts 0 xs).map (pairI (fun i k => (pf i k).2) (fun i k => (pf i k).1)), okI22 fnd x := fun x hx => by
    obtain ⟨w, hw, rfl⟩ := List.mem_map.1 hx
    obtain ⟨i, k, y, z, h4, h5, rfl⟩ := hline w hw
    obtain ⟨cp, cq, a, c, e1, e2, e3, e4, g1, g2, g3, g4, g5⟩ := hpf i k y z h4 h5
    rw [hpair]
    exact ⟨i, k, z, _, a, c, _, rfl, g1, g2, (hst.words cp (List.mem_of_getElem? e1) a (List.mem_of_getElem? e3)).2, (hsu.words cq (List.mem_of_getElem? e2) c (List.mem_of_getElem? e4)).2, g3, hfnd i k cp cq a c e1 e2 e3 e4⟩
  have hall22 : ((chapIts 0 xs).map (pairI (fun i k => (pf i k).2) (fun i k => (pf i k).1))).flatMap (fI fnd) = foundT 0 t u := by
    rw [List.flatMap_map]
    refine found_map _ t u xs hall h3 fun i k y z cp cq a c h4 h5 e1 e2 e3 e4 => ?_
    show fI fnd (pairI _ _ [placeA i k 0, z]) = _
    rw [hpair, fI_at, hfnd i k cp cq a c e1 e2 e3 e4]
  have hcnt : ((chapIts 0 xs).map (pairI (fun i k => (pf i k).2) (fun i k => (pf i k).1))).length < 2 ^ 20 := by
    have h4 := lensOf_len xs (linesOf_len hall hst)
    rw [← chapIts_lens 0 xs, List.length_map] at h4
    have h5 := hst.chs
    rw [hall.1] at h5
    rw [List.length_map]; omega
  generalize (chapIts 0 xs).map (pairI (fun i k => (pf i k).2) (fun i k => (pf i k).1)) = items at hy hitems hall22 hcnt
  clear hpf hpair hline hfnd
  have hrun := run22 fnd items [] hitems (by simp only [List.length_nil]; omega)
  rw [hall22, List.nil_append] at hrun
  unfold Ans
  rw [fn_step (fn_22 e) (show Tryz.f22.body = some _ from rfl)]
  simp -implicitDefEqProofs only [Tryz.f22, go_sem, ↓reduceIte, Int.reduceEq, Int.reduceLT, Int.reduceLE, List.reduceReplicate, intA, setT_nil, setT_cons, ↓boolP_bool, ↓iteB_true, ↓iteB_false, hch.cells, hch.flat, hch.bound, hch'.cells, hch'.flat, hch'.bound, h50, h51, h52, Heap.plus, Option.isNone_some]
  refine wp_range2F hy rfl (R22 (F.length + 7) ch ch' id) (stp22 fnd) (fun _ => True) (ok22 fnd) (n0 := 7) (k := 0) (Nat.le_add_left 7 F.length) (Nat.zero_le _) ?_ ?_ (fun s m h => R22_anch s m h) (fun s m h => R22_free (Nat.le_add_left 7 F.length) s m h) (fun _ _ _ _ _ => trivial) ?_ [] (base22 ch ch' id (.v (.slice none 0 0)) 0) hrun.1 trivial ⟨_, 0, [], Or.inl ⟨rfl, rfl, rfl⟩, by rw [List.append_nil]⟩ ?_ rfl ?_
  · intro x hx
    obtain ⟨i, k, lx, ly, a, c, tb, rfl, -⟩ := hitems x hx
    rfl
  · rintro s m H ⟨lv, m2, rows, -, rfl⟩ hH hlk
    exact ⟨hlk, get_row (hH (5, .cells 0 0 79 1 false [ch]) (List.mem_append_left _ (by unfold base22; simp))), get_row (hH (6, .cells 0 0 24 1 false [ch']) (List.mem_append_left _ (by unfold base22; simp)))⟩
  · intro L L' s m x X hL _ hok hxl hR hH hd0 hl1 hlk hsz
    have hd0 : X.get (F.length + 7) = some .dfr := hd0
    have hl1 : loopObj X (F.length + 7 + 1) = some L := hl1
    have hsz : F.length + 7 + 2 ≤ X.size := hsz
    change Wp (Cx e) 22 (some (F.length + 7 + 1)) _ _ X (as2K (Cx e) 22 (R22 (F.length + 7) ch ch' id) (F.length + 7) _ L L' m X _)
    clear hy hrun h52 hL
    obtain ⟨D, hD⟩ : ∃ D, F.length + 7 = D := ⟨_, rfl⟩
    rw [hD] at hd0 hl1 hsz hR ⊢
    have hD7 : 7 ≤ D := by omega
    clear hD
    obtain ⟨⟨i, k, lx, ly, a, c, tb, rfl, hx1, hx2, ha, hc, hT, hf⟩, hsl⟩ := hok
    obtain ⟨lv, m2, rows, hl, rfl⟩ := hR
    obtain ⟨N, hN⟩ : ∃ N, X.size = N := ⟨_, rfl⟩
    have hlkN : X.lock ≤ N := by rw [hlk]; exact Nat.zero_le _
    have hszN : D + 2 ≤ N := by omega
    have f0 := prC_cells (.v (.slice none 0 0)) (.v (.slice none 0 0)) zT rfl rfl
    have n0 : (prC (.v (.slice none 0 0)) (.v (.slice none 0 0)) zT).length = 146 := by rw [prC_len]; rfl
    have n1 : (prC lx ly tb).length = 146 := by rw [prC_len, hT.len]
    have d0 : (prC (.v (.slice none 0 0)) (.v (.slice none 0 0)) zT).drop 146 = [] := List.drop_of_length_le (by omega)
    have hfl := prC_cells lx ly tb hx1.flat hx2.flat
    have hbo := prC_bound hx1 hx2 tb
    rw [show stp22 fnd s [placeA i k 0, .agg (prC lx ly tb)] = (.normal, s ++ foundL i k 0 a c) by unfold stp22; rw [fI_at, hf]]
    rw [← plus_nil X]
    simp -implicitDefEqProofs only [go_sem, ↓reduceIte, Int.reduceEq, Int.reduceLT, Int.reduceLE, List.reduceReplicate, intA, setT_nil, setT_cons, ↓boolP_bool, ↓iteB_true, ↓iteB_false, placeA, List.zip_cons_cons, List.zip_nil_right, List.zip_nil_left, zero104, f0, n0, n1, d0, hfl, hbo, sizeP hN, putP0 hN, putP hN, settleP0 hN, settleP hN, rowP0 hN, rowP hN, storeP0 hN hlkN, storeP hN hlkN, List.length_nil, Nat.add_zero]
    refine ⟨rfl, ?_, ?_⟩
    · refine get_loopObj ?_
      rw [plus_get _ (by omega)]; exact loopObj_getI hl1
    · rw [putLo (by omega), plus_nil X]
      have hfr := R22_free hD7 (ch := ch) (ch' := ch') (id := id) s _ ⟨lv, m2, rows, hl, rfl⟩
      have hHY := hH.put (.loop L') (b := D + 1) (by omega) hfr.2
      have hNY : (X.put (D + 1) (.loop L')).size = N := by rw [put_sizeI _ (by omega)]; exact hN
      have hlkY : (X.put (D + 1) (.loop L')).lock = 0 := hlk
      have hlY : (X.put (D + 1) (.loop L')).get (D + 1) = some (.loop L') := put_get_eq _ (by omega)
      have hsmY : ∀ b, b ≠ D + 1 → (X.put (D + 1) (.loop L')).get b = X.get b := fun b hb => put_get_ne _ (by omega) hb
      generalize X.put (D + 1) (.loop L') = Y at *
      have hlkYN : Y.lock ≤ N := by rw [hlkY]; exact Nat.zero_le _
      have h4' : Y.row 4 0 = some (m2, 53, 1, false, [.v (.int .i64 id), lv]) := get_row (hHY (4, .cells 0 m2 53 1 false [intA id, lv]) (List.mem_append_left _ (by unfold base22; simp)))
      have hr4 : ∀ E, (Y.plus E).row 4 0 = some (m2, 53, 1, false, [.v (.int .i64 id), lv]) := fun E => by rw [rowLo (by omega)]; exact h4'
      have hst := fun (w : AV) (hw : w.flat = true) E => storeLoK (X := Y) (b := 4) (v := 0) (k := 1) (x := w) (by omega) (by omega) h4' (Nat.le_refl _) hw E
      have hst := fun b' v' l' c' E => hst (.sl b' v' 0 l' c') rfl E
      have g4 : ltB 4 (N + 2) = true := by unfold ltB; simp; omega
      have gN : ltB N (N + 2) = true := by unfold ltB; simp
      simp -implicitDefEqProofs only [go_sem, ↓reduceIte, Int.reduceEq, Int.reduceLT, Int.reduceLE, List.reduceReplicate, intA, setT_nil, setT_cons, ↓boolP_bool, ↓iteB_true, ↓iteB_false, sizeP hNY, putP0 hNY, putP hNY, settleP0 hNY, settleP hNY, rowP0 hNY, rowP hNY, storeP0 hNY hlkYN, storeP hNY hlkYN, List.length_nil, Nat.add_zero]
      refine wp_drawX [([], [], false), ([], [], false), ([1], [], false), ([1], [], true), ([], [], false), ([], [], false), ([], [4], false)] (by kernel_rfl) (by kernel_rfl) ?_
      simp -implicitDefEqProofs only [go_sem, ↓reduceIte, Int.reduceEq, Int.reduceLT, Int.reduceLE, List.reduceReplicate, intA, setT_nil, setT_cons, ↓boolP_bool, ↓iteB_true, ↓iteB_false, hr4, g4, gN, List.isEmpty_nil, List.isEmpty_cons, sizeP hNY, putP0 hNY, putP hNY, settleP0 hNY, settleP hNY, rowP0 hNY, rowP hNY, storeP0 hNY hlkYN, storeP hNY hlkYN, List.length_nil, Nat.add_zero]
      have hPr : PrH (Y.plus [some (.cells 0 0 32 1 false [.v (.int .i64 i), .v (.int .i64 k), .v (.int .i64 0)]), some (.cells 0 0 104 1 false (prC lx ly tb)), none, none, none, none, none, none, none]) (N + 1) lx ly a c tb := ⟨by rw [plus_size, hNY]; simp, ⟨0, false, by rw [rowP hNY]; rfl⟩, hx1, hx2, hT.len⟩
      refine stillV_53 he hPr (by omega) ha hc hT _ _ _ ?_
      show AtO (contP _ _ _ _ _ _ _ _ _ _ _) _ _
      have hfl20 : (foundL (i : Int) (k : Int) 0 a c).length ≤ 20 := by rw [found_len]; have := dist_sum a c; omega
      clear hPr hT hf hx1 hx2 hfl hbo f0 n0 n1 d0 hfr
      generalize foundL (i : Int) (k : Int) 0 a c = fd at hfl20 ⊢
      have hcl : ∀ H : Heap, cellsFrom H 5 (ofV fd) = some (fd.length, rdCells fd) := fun H => by
        rw [cells_of (ofV_rds fd) H, List.length_map, List.flatMap_map]; rfl
      have hob : objsOf (ofV fd) = [] := by cases fd <;> rfl
      have hrf := rdCells_flat fd
      have hrb := rdCells_bound fd
      rcases Nat.eq_zero_or_pos fd.length with hz | hz
      · obtain rfl : fd = [] := List.length_eq_zero_iff.1 hz
        have hst0 := fun E => storeLoK (X := Y) (b := 4) (v := 0) (k := 1) (x := .v (.slice none 0 0)) (by omega) (by omega) h4' (Nat.le_refl _) rfl E
        rcases hl with ⟨rfl, rfl, rfl⟩ | ⟨b, v, hs0, rfl, hb5, hbm, rfl⟩
        · simp -implicitDefEqProofs only [go_sem, ↓reduceIte, Int.reduceEq, Int.reduceLT, Int.reduceLE, List.reduceReplicate, intA, setT_nil, setT_cons, ↓boolP_bool, ↓iteB_true, ↓iteB_false, hr4, g4, gN, hst0, ofV_nil, boundL_nil, List.all_nil, List.append_nil, List.nil_append, sizeP hNY, putP0 hNY, putP hNY, settleP0 hNY, settleP hNY, rowP0 hNY, rowP hNY, storeP0 hNY hlkYN, storeP hNY hlkYN, List.length_nil, Nat.add_zero, bd2K_at]
          have hm2 : (if m2 ≤ 0 then 0 else m2) = m2 := by split <;> omega
          rw [hm2]
          have hfin := finW hD7 (rows := []) hN hlk hszN hH hsmY hlY (Or.inl ⟨rfl, rfl, rfl⟩) (P := Y.put 4 (.cells 0 m2 53 1 false [.v (.int .i64 id), .v (.slice none 0 0)])) (by rw [put_sizeI _ (by omega)]; exact hNY) hlkY (put_get_eq _ (by omega)) (fun b _ h4 _ => put_get_ne _ (by omega) h4) [some (.cells 0 0 32 1 false [.v (.int .i64 i), .v (.int .i64 k), .v (.int .i64 0)]), some (.cells 0 0 104 1 false (prC lx ly tb)), none, none, none, none, none, none, none] (by simp) (fun p hp => nomatch hp) (fun p hp => nomatch hp)
          rw [List.append_nil] at hfin
          exact hfin
        · have hgb : Y.get b = some (.cells v 0 65 5 true (rdCells s)) := hHY _ (List.mem_append_right _ (List.mem_singleton.2 rfl))
          have hbN : b < N := by have := get_ltS hgb; omega
          have gb : ltB b (N + 2) = true := by unfold ltB; simp; omega
          simp -implicitDefEqProofs only [go_sem, ↓reduceIte, Int.reduceEq, Int.reduceLT, Int.reduceLE, List.reduceReplicate, intA, setT_nil, setT_cons, ↓boolP_bool, ↓iteB_true, ↓iteB_false, hr4, g4, gN, gb, hst, ofV_nil, appTo_none, boundL_nil, List.all_nil, List.append_nil, List.nil_append, sizeP hNY, putP0 hNY, putP hNY, settleP0 hNY, settleP hNY, rowP0 hNY, rowP hNY, storeP0 hNY hlkYN, storeP hNY hlkYN, List.length_nil, Nat.add_zero, bd2K_at]
          have hm2 : b < (if m2 ≤ bound (AV.sl b v 0 s.length none) then bound (AV.sl b v 0 s.length none) else m2) := by rw [bound_sl]; split <;> omega
          generalize (if m2 ≤ bound (AV.sl b v 0 s.length none) then bound (AV.sl b v 0 s.length none) else m2) = m2' at *
          exact finW hD7 hN hlk hszN hH hsmY hlY (Or.inr ⟨b, v, hs0, rfl, hb5, hm2, rfl⟩) (P := Y.put 4 (.cells 0 m2' 53 1 false [.v (.int .i64 id), .sl b v 0 s.length none])) (by rw [put_sizeI _ (by omega)]; exact hNY) hlkY (put_get_eq _ (by omega)) (fun b _ h4 _ => put_get_ne _ (by omega) h4) _ (by simp) (fun p hp => by rw [List.mem_singleton.1 hp, plus_get _ (by rw [put_sizeI _ (by omega)]; omega), put_get_ne _ (by omega) (by omega)]; exact hgb) (fun p hp => Or.inr ⟨p, hp, rfl⟩)
      · have hz' : (fd.length = 0) = False := eq_false (by omega)
        have hfit : fitsA 48 fd.length = true := by unfold fitsA; exact decide_eq_true (by omega)
        have n6 : N + 2 + 4 = N + 6 := rfl
        rcases hl with ⟨rfl, rfl, rfl⟩ | ⟨b, v, hs0, rfl, hb5, hbm, rfl⟩
        · simp -implicitDefEqProofs only [go_sem, ↓reduceIte, Int.reduceEq, Int.reduceLT, Int.reduceLE, List.reduceReplicate, intA, setT_nil, setT_cons, ↓boolP_bool, ↓iteB_true, ↓iteB_false, hr4, g4, gN, hst, hcl, hob, hrf, hrb, hz', hfit, n6, List.append_nil, List.nil_append, sizeP hNY, putP0 hNY, putP hNY, settleP0 hNY, settleP hNY, rowP0 hNY, rowP hNY, storeP0 hNY hlkYN, storeP hNY hlkYN, List.length_nil, Nat.add_zero, bd2K_at]
          have hm2 : N + 6 < (if m2 ≤ bound (AV.sl (N + 6) 0 0 fd.length none) then bound (AV.sl (N + 6) 0 0 fd.length none) else m2) := by rw [bound_sl]; split <;> omega
          generalize (if m2 ≤ bound (AV.sl (N + 6) 0 0 fd.length none) then bound (AV.sl (N + 6) 0 0 fd.length none) else m2) = m2' at *
          have hP : (Y.put 4 (.cells 0 m2' 53 1 false [.v (.int .i64 id), .sl (N + 6) 0 0 fd.length none])).size = N := by rw [put_sizeI _ (by omega)]; exact hNY
          have hfin := finW hD7 (rows := []) hN hlk hszN hH hsmY hlY (Or.inr ⟨N + 6, 0, (fun h => by rw [h] at hz; exact absurd hz (by simp)), rfl, by omega, hm2, rfl⟩) (P := Y.put 4 (.cells 0 m2' 53 1 false [.v (.int .i64 id), .sl (N + 6) 0 0 fd.length none])) hP hlkY (put_get_eq _ (by omega)) (fun b _ h4 _ => put_get_ne _ (by omega) h4) [some (.cells 0 0 32 1 false [.v (.int .i64 i), .v (.int .i64 k), .v (.int .i64 0)]), some (.cells 0 0 104 1 false (prC lx ly tb)), none, none, none, none, some (.cells 0 0 65 5 true (rdCells fd)), none, none] (by simp) (fun p hp => by rw [List.mem_singleton.1 hp, plus_get_hi _ (by simp only; omega), hP, Nat.add_sub_cancel_left]; rfl) (fun p hp => Or.inl (by rw [List.mem_singleton.1 hp]; simp only; omega))
          rw [List.append_nil] at hfin
          exact hfin
        · have hgb : Y.get b = some (.cells v 0 65 5 true (rdCells s)) := hHY _ (List.mem_append_right _ (List.mem_singleton.2 rfl))
          have hbN : b < N := by have := get_ltS hgb; omega
          have gb : ltB b (N + 2) = true := by unfold ltB; simp; omega
          have hrb' : ∀ E, (Y.plus E).row b v = some (0, 65, 5, true, rdCells s) := fun E => by rw [rowLo (by omega)]; exact get_row hgb
          have happ := fun E slot => appTo_own (H := Y.plus E) (slot := slot) (e := 65) (sz := 5) (b' := 48) (n := fd.length) (new := rdCells fd) (hrb' E) (by rw [rdCells_len]) (by show Y.lock ≤ _; omega) (by unfold fitsA; exact decide_eq_true (by omega)) hz (by omega)
          have hpl := fun E o => putLo (X := Y) (b := b) (by omega) E o
          have hsto := fun o (w : AV) (hw : w.flat = true) E => storeLoK (X := Y.put b o) (b := 4) (v := 0) (k := 1) (x := w) (by rw [put_sizeI _ (by omega)]; omega) (by show Y.lock ≤ 4; omega) (get_row ((put_get_ne o (by omega) (by omega)).trans (row_of_get h4'))) (Nat.le_refl _) hw E
          have hsto := fun o b' v' l' c' E => hsto o (.sl b' v' 0 l' c') rfl E
          rw [hrb] at happ
          simp -implicitDefEqProofs only [go_sem, ↓reduceIte, Int.reduceEq, Int.reduceLT, Int.reduceLE, List.reduceReplicate, intA, setT_nil, setT_cons, ↓boolP_bool, ↓iteB_true, ↓iteB_false, hr4, g4, gN, gb, hcl, hob, hrf, happ, hpl, hsto, List.append_nil, List.nil_append, sizeP hNY, putP0 hNY, putP hNY, settleP0 hNY, settleP hNY, rowP0 hNY, rowP hNY, storeP0 hNY hlkYN, storeP hNY hlkYN, List.length_nil, Nat.add_zero, bd2K_at]
          have hm2 : b < (if m2 ≤ bound (AV.sl b (v + 1) 0 (s.length + fd.length) none) then bound (AV.sl b (v + 1) 0 (s.length + fd.length) none) else m2) := by rw [bound_sl]; split <;> omega
          generalize (if m2 ≤ bound (AV.sl b (v + 1) 0 (s.length + fd.length) none) then bound (AV.sl b (v + 1) 0 (s.length + fd.length) none) else m2) = m2' at *
          have hP1 : (Y.put b (.cells (v + 1) 0 65 5 true (rdCells s ++ rdCells fd))).size = N := by rw [put_sizeI _ (by omega)]; exact hNY
          have hP : ((Y.put b (.cells (v + 1) 0 65 5 true (rdCells s ++ rdCells fd))).put 4 (.cells 0 m2' 53 1 false [.v (.int .i64 id), .sl b (v + 1) 0 (s.length + fd.length) none])).size = N := by rw [put_sizeI _ (by omega)]; exact hP1
          refine finW hD7 hN hlk hszN hH hsmY hlY (rows' := [(b, .cells (v + 1) 0 65 5 true (rdCells (s ++ fd)))]) (Or.inr ⟨b, v + 1, (fun h => hs0 (List.append_eq_nil_iff.1 h).1), by rw [List.length_append], hb5, hm2, rfl⟩) hP hlkY (put_get_eq _ (by omega)) (fun b' _ h4 h5 => ?_) _ (by simp) (fun p hp => ?_) (fun p hp => ?_)
          · rw [put_get_ne _ (by omega) h4, put_get_ne _ (by omega) (fun he => h5 ⟨_, List.mem_singleton.2 rfl, he.symm⟩)]
          · rw [List.mem_singleton.1 hp, plus_get _ (by rw [hP]; exact hbN), put_get_ne _ (by omega) (by simp only; omega), put_get_eq _ (by omega), rdCells_append]
          · rw [List.mem_singleton.1 hp]; exact Or.inr ⟨_, List.mem_singleton.2 rfl, rfl⟩
  · intro q hq
    unfold base22 at hq
    simp only [List.mem_cons, List.not_mem_nil, or_false] at hq
    rcases hq with rfl | rfl | rfl | rfl <;> rfl
  · intro m' H' hR hH hd hdead hmv hsz
    have hlk : H'.lock = 0 := hmv.lock
    have hsz : F.length + 7 + 2 ≤ H'.size := hsz
    have hd : H'.get (F.length + 7) = some .dfr := hd
    rw [hrun.2] at hR ⊢
    obtain ⟨lv, m2, rows, hl, rfl⟩ := hR
    simp only at hl
    have hr4 : H'.row 4 0 = some (m2, 53, 1, false, [.v (.int .i64 id), lv]) := get_row (hH (4, .cells 0 m2 53 1 false [intA id, lv]) (List.mem_append_left _ (by unfold base22; simp)))
    have hr2 : H'.row 2 0 = some (0, 53, 1, false, [.v (.int .i64 0), .v (.slice none 0 0)]) := get_row (hH (2, .cells 0 0 53 1 false [intA 0, .v (.slice none 0 0)]) (List.mem_append_left _ (by unfold base22; simp)))
    have hsl : slLen lv = some (.v (.int .i64 ((foundT 0 t u).length : Nat))) := by
      rcases hl with ⟨h0, rfl, -⟩ | ⟨b, v, -, rfl, -⟩
      · rw [h0]; rfl
      · rfl
    have hfl : lv.flat = true := by
      rcases hl with ⟨h0, rfl, -⟩ | ⟨b, v, -, rfl, -⟩ <;> rfl
    obtain ⟨m5, hst2⟩ : ∃ m5, storeCells H' 2 0 0 [.v (.int .i64 id), lv] = some (H'.put 2 (.cells 0 m5 53 1 false [.v (.int .i64 id), lv])) := by
      refine ⟨Nat.max 0 (boundL [.v (.int .i64 id), lv]), ?_⟩
      unfold storeCells
      rw [hr2]
      simp only
      rw [if_pos ⟨by omega, by simp, by simp [hfl]; rfl⟩]
      rfl
    have hP : (H'.put 2 (.cells 0 m5 53 1 false [.v (.int .i64 id), lv])).size = H'.size := put_sizeI _ (by omega)
    have hset := settle_eqN hP
    have hrowP : (H'.put 2 (.cells 0 m5 53 1 false [.v (.int .i64 id), lv])).row 2 0 = some (m5, 53, 1, false, [.v (.int .i64 id), lv]) := get_row (put_get_eq _ (by omega))
    have hkill : killAll [F.length + 1 + 1 + 1 + 1 + 1 + 1 + 1] (H'.put 2 (.cells 0 m5 53 1 false [.v (.int .i64 id), lv])) = some ((H'.put 2 (.cells 0 m5 53 1 false [.v (.int .i64 id), lv])).put (F.length + 7) .dead) := by
      show killAll [F.length + 7] _ = _
      unfold killAll
      rw [put_get_ne _ (by omega) (by omega), hd]
      show (if H'.lock ≤ F.length + 7 then killAll [] _ else none) = _
      rw [if_pos (by omega)]; rfl
    have hr2' : ((H'.put 2 (.cells 0 m5 53 1 false [.v (.int .i64 id), lv])).put (F.length + 7) .dead).row 2 0 = some (m5, 53, 1, false, [.v (.int .i64 id), lv]) := get_row ((put_get_ne _ (by omega) (by omega)).trans (put_get_eq _ (by omega)))
    have hrows : ∀ p ∈ rows, ((H'.put 2 (.cells 0 m5 53 1 false [.v (.int .i64 id), lv])).put (F.length + 7) .dead).get p.1 = some p.2 := fun p hp => by
      have h7 := hl.lo hp
      rw [put_get_ne _ (by omega) (by omega), put_get_ne _ (by omega) (by omega)]
      exact hH p (List.mem_append_right _ hp)
    have hlk2 : ((H'.put 2 (.cells 0 m5 53 1 false [.v (.int .i64 id), lv])).put (F.length + 7) .dead).lock = 0 := hlk
    clear hmv hdead hy hitems hall22 h52
    unfold res22
    by_cases hgt : 20 < (foundT 0 t u).length
    · have hgt' : (20 : Int) < ((foundT 0 t u).length : Nat) := by omega
      obtain ⟨m6, hst3⟩ : ∃ m6, storeCells H' 2 0 0 [.v (.int .i64 0), .v (.slice none 0 0)] = some (H'.put 2 (.cells 0 m6 53 1 false [.v (.int .i64 0), .v (.slice none 0 0)])) := by
        refine ⟨Nat.max 0 (boundL [.v (.int .i64 0), .v (.slice none 0 0)]), ?_⟩
        unfold storeCells
        rw [hr2]
        simp only
        rw [if_pos ⟨by omega, by simp, rfl⟩]
        rfl
      have hP3 : (H'.put 2 (.cells 0 m6 53 1 false [.v (.int .i64 0), .v (.slice none 0 0)])).size = H'.size := put_sizeI _ (by omega)
      have hset3 := settle_eqN hP3
      have hkill3 : killAll [F.length + 1 + 1 + 1 + 1 + 1 + 1 + 1] (H'.put 2 (.cells 0 m6 53 1 false [.v (.int .i64 0), .v (.slice none 0 0)])) = some ((H'.put 2 (.cells 0 m6 53 1 false [.v (.int .i64 0), .v (.slice none 0 0)])).put (F.length + 7) .dead) := by
        show killAll [F.length + 7] _ = _
        unfold killAll
        rw [put_get_ne _ (by omega) (by omega), hd]
        show (if H'.lock ≤ F.length + 7 then killAll [] _ else none) = _
        rw [if_pos (by omega)]; rfl
      have hr3 : ((H'.put 2 (.cells 0 m6 53 1 false [.v (.int .i64 0), .v (.slice none 0 0)])).put (F.length + 7) .dead).row 2 0 = some (m6, 53, 1, false, [.v (.int .i64 0), .v (.slice none 0 0)]) := get_row ((put_get_ne _ (by omega) (by omega)).trans (put_get_eq _ (by omega)))
      rw [if_pos hgt]
      simp -implicitDefEqProofs only [go_sem, ↓reduceIte, Int.reduceEq, Int.reduceLT, Int.reduceLE, List.reduceReplicate, intA, setT_nil, setT_cons, ↓boolP_bool, ↓iteB_true, ↓iteB_false, hr4, hr2, hsl, hgt', hst3, hset3, hkill3, hr3]
      rfl
    · have hgt' : ¬ (20 : Int) < ((foundT 0 t u).length : Nat) := by omega
      rw [if_neg hgt]
      simp -implicitDefEqProofs only [go_sem, ↓reduceIte, Int.reduceEq, Int.reduceLT, Int.reduceLE, List.reduceReplicate, intA, setT_nil, setT_cons, ↓boolP_bool, ↓iteB_true, ↓iteB_false, hr4, hr2, hsl, hgt', hst2, hset, hkill, hr2']
      generalize (H'.put 2 (.cells 0 m5 53 1 false [.v (.int .i64 id), lv])).put (F.length + 7) .dead = W at hrows hlk2 ⊢
      exact freeze22 hl hrows hlk2 id
theorem ans22 {e : Exts} (he : Quiet e) (t u : Txt) (ht : Fits t) (hu : Fits u) (ch ch' : AV) (xs xs' : List AV) (hch : SlOf 2 xs ch) (hall : All2 ChapA t xs) (hch' : SlOf 2 xs' ch') (hall' : All2 ChapA u xs') (h1 : textB t = true) (h2 : textB u = true) (h3 : alikeB t u = true) (id : Int) (hid : withinB 0 9999 [id] = true) (hlen : (foundT 0 t u).length ≤ 20) :
    Ans (Cx e) 22 [.agg [ch], .agg [ch'], intA id] (.tup [.agg [intA id, ofV (foundT 0 t u)], intA 0]) := by
  have h := find22 he t u ht hu ch ch' xs xs' hch hall hch' hall' h1 h2 h3 id hid
  unfold res22 at h
  rwa [if_neg (by omega)] at h
end Go.Ev
namespace Go.Ev
open Go.Proofs
set_option maxRecDepth 100000
set_option linter.unusedSimpArgs false
attribute [local irreducible] Wp WpS
/-! ### the copy that is found -/
theorem wordB_size {s : ByteArray} (h : wordB s = true) : s.size ≤ 12 := by
  unfold wordB withinB at h
  simp only [List.all_cons, List.all_nil, Bool.and_true, Bool.and_eq_true, decide_eq_true_eq] at h
  omega
theorem found_sp {t v : Txt} (hs : shapeT t = shapeT v) {i : Nat} {p : Chap} (hp : t[i]? = some p) : ∃ q, v[i]? = some q ∧ p.1 = q.1 ∧ p.2.length = q.2.length := alike_get (decide_eq_true hs) hp
theorem found_read' {t v : Txt} (_hst : Small t) (hsv : Small v) {r : Rd} (hr : r ∈ foundT 0 t v) : readB t r = true ∧ RdF r := by
  obtain ⟨i, j, p, q, a, c, h1, h2, h3, h4, h5⟩ := foundT_mem r t v 0 hr
  rw [Nat.zero_add] at h5
  have hF := found_ok _ _ _ _ _ r h5
  have hLA := lineAt_nat h1 h3
  have hw : ∀ s ∈ c, wordB s = true := hsv.word q (List.mem_of_getElem? h2) c (List.mem_of_getElem? h4)
  have hlo := hF.lo
  have hhi := hF.hi
  have hwd : ∀ s ∈ c, s.size < 2 ^ 63 := fun s hm => by
    have := wordB_size (hw s hm)
    omega
  refine ⟨?_, ?_⟩
  · unfold readB
    rw [hF.ch, hF.ln, hLA]
    simp only
    rcases hF.kind with hk | hk | hk
    · rw [if_pos hk]
      rw [if_neg (by rw [hk]; decide)] at hhi
      unfold fits1
      rw [hF.none hk]
      simp; omega
    · rw [if_neg (by rw [hk]; decide), if_pos hk]
      rw [if_pos hk] at hhi
      unfold fits2 withinB
      rw [hw _ (hF.word (by rw [hk]; decide))]
      simp; omega
    · rw [if_neg (by rw [hk]; decide), if_neg (by rw [hk]; decide), if_pos hk]
      rw [if_neg (by rw [hk]; decide)] at hhi
      have ho := hF.other hk
      unfold fits3
      rw [hw _ (hF.word (by rw [hk]; decide))]
      have hwn : r.wd = (r.wd.toNat : Int) := by omega
      have hlt : r.wd.toNat < a.length := by omega
      have h9 : at0 a r.wd = a[r.wd.toNat] := by
        unfold at0; rw [List.getElem?_eq_getElem hlt]; rfl
      have h10 := ho a[r.wd.toNat] (by rw [Nat.sub_zero]; exact List.getElem?_eq_getElem hlt)
      rw [h9]
      simp [h10]; omega
  · refine ⟨?_, ?_, ?_⟩
    · rcases hF.kind with hk | hk | hk <;> omega
    · rcases hF.kind with hk | hk | hk <;> omega
    · rcases hF.kind with hk | hk | hk
      · rw [hF.none hk]; decide
      · exact hwd _ (hF.word (by rw [hk]; decide))
      · exact hwd _ (hF.word (by rw [hk]; decide))
theorem found_cpy {t v : Txt} (hst : Small t) (hsv : Small v) : Cpy t (foundT 0 t v) := ⟨fun _ hr => (found_read' hst hsv hr).1, foundT_ord t v 0⟩
theorem found_text {t v : Txt} (hst : Small t) (hsv : Small v) (hs : shapeT t = shapeT v) : readT t (foundT 0 t v) = v := by
  have hl : t.length = v.length := by
    have := congrArg List.length hs
    unfold shapeT at this
    simpa using this
  apply List.ext_getElem?
  intro i
  cases hp : t[i]? with
  | none =>
    have h1 : (readT t (foundT 0 t v))[i]? = none := by unfold readT; rw [List.getElem?_mapIdx, hp]; rfl
    rw [h1, List.getElem?_eq_none_iff.2 (by rw [← hl]; exact List.getElem?_eq_none_iff.1 hp)]
  | some p =>
    obtain ⟨q, hq, e1, e2⟩ := found_sp hs hp
    rw [readT_get hp, hq]
    congr 1
    have hlines : (p.2.mapIdx fun n l => refLine l (foundT 0 t v) i n) = q.2 := by
      apply List.ext_getElem?
      intro j
      rw [List.getElem?_mapIdx]
      cases ha : p.2[j]? with
      | none => rw [List.getElem?_eq_none_iff.2 (by rw [← e2]; exact List.getElem?_eq_none_iff.1 ha)]; rfl
      | some a =>
        obtain ⟨c, hc⟩ := at_lt q.2 j (by rw [← e2]; exact (List.getElem?_eq_some_iff.1 ha).1)
        have hLA := lineAt_nat hp ha
        rw [hc, Option.map_some, (found_cpy hst hsv).line hLA (hst.ne hLA)]
        have := foundT_of t v 0 i j p q a c hp hq ha hc
        rw [Nat.zero_add] at this
        rw [this, found_line]
    rw [hlines, e1]
theorem foundT_right {t v : Txt} (hst : Small t) (hsv : Small v) (hs : shapeT t = shapeT v) {id : Int} (hid : withinB 0 9999 [id] = true) (hlen : (foundT 0 t v).length ≤ 20) : Right t id (foundT 0 t v) := by
  refine ⟨hid, by omega, found_cpy hst hsv, fun k n c l hc hl => ?_⟩
  obtain ⟨d, h1, h2⟩ := readT_line (rs := foundT 0 t v) hc hl
  rw [found_text hst hsv hs] at h1
  exact hsv.words d (List.mem_of_getElem? h1) _ (List.mem_of_getElem? h2)
end Go.Ev
namespace Go.Ev
open Go.Proofs
set_option maxRecDepth 100000
set_option linter.unusedSimpArgs false
attribute [local irreducible] Wp WpS
theorem call22 {e : Exts} (he : Quiet e) {t u : Txt} (ht : Fits t) (hu : Fits u) {ch ch' : AV} {xs xs' : List AV} (hch : SlOf 2 xs ch) (hall : All2 ChapA t xs) (hch' : SlOf 2 xs' ch') (hall' : All2 ChapA u xs') (h1 : textB t = true) (h2 : textB u = true) (h3 : alikeB t u = true) {id : Int} (hid : withinB 0 9999 [id] = true) (hlen : (foundT 0 t u).length ≤ 20) (me : FuncId) (d : Option Tmp) (H : Heap) : callA (Cx e) (lim (Cx e)) me 22 d [.agg [ch], .agg [ch'], .v (.int .i64 id)] H = some (.tup [.agg [.v (.int .i64 id), ofV (foundT 0 t u)], .v (.int .i64 0)], H) :=
  (ans22 he t u ht hu ch ch' xs xs' hch hall hch' hall' h1 h2 h3 id hid hlen).call (ext_22 he) (pure_22 _ _ _) (by simp only [boundL_cons, bound_agg, hch.bound, hch'.bound, boundL_nil, intA, bound_v]; rfl) H
end Go.Ev
namespace Go.Ev
open Go.Proofs
set_option maxRecDepth 100000
set_option linter.unusedSimpArgs false
attribute [local irreducible] Wp WpS
/-! ### texts that are not alike -/
theorem ans50e {e : Exts} (he : Quiet e) (t u : Txt) (ht : Fits t) (hu : Fits u) (ch ch' : AV) (xs xs' : List AV) (hch : SlOf 2 xs ch) (hall : All2 ChapA t xs) (hch' : SlOf 2 xs' ch') (hall' : All2 ChapA u xs') (h1 : textB t = true) (h2 : textB u = true) (h3 : alikeB t u = false) :
    Ans (Cx e) 50 [.agg [ch], .agg [ch']] (.tup [.agg [.v (.slice none 0 0)], intA 8]) := by
  have h62 := call62 he t ht _ ⟨ch, rfl, xs, hch, hall⟩
  have h62' := call62 he u hu _ ⟨ch', rfl, xs', hch', hall'⟩
  rw [h1] at h62
  rw [h2] at h62'
  obtain ⟨F, h70⟩ := call70 he ⟨[some (.cells 0 0 24 1 false [ch]), some (.cells 0 0 24 1 false [ch']), some (.cells 0 0 79 1 false [.v (.slice none 0 0)])], 0⟩ (Nat.zero_le _) t u ht ch ch' xs xs' hch hall hch' hall' 50 (some 20)
  rw [h3] at h70
  unfold Ans
  rw [fn_step (fn_50 e) (show Tryz.f50.body = some _ from rfl)]
  cases hF : F.all Option.isNone
  · simp -implicitDefEqProofs only [Tryz.f50, go_sem, ↓reduceIte, Int.reduceEq, Int.reduceLT, Int.reduceLE, List.reduceReplicate, intA, setT_nil, setT_cons, ↓boolP_bool, ↓iteB_true, ↓iteB_false, hch.cells, hch.flat, hch.bound, hch'.cells, hch'.flat, hch'.bound, h62, h62', h70, Heap.plus, hF]
    rfl
  · simp -implicitDefEqProofs only [Tryz.f50, go_sem, ↓reduceIte, Int.reduceEq, Int.reduceLT, Int.reduceLE, List.reduceReplicate, intA, setT_nil, setT_cons, ↓boolP_bool, ↓iteB_true, ↓iteB_false, hch.cells, hch.flat, hch.bound, hch'.cells, hch'.flat, hch'.bound, h62, h62', h70, Heap.plus, hF]
    rfl
theorem ans22e {e : Exts} (he : Quiet e) (t u : Txt) (ht : Fits t) (hu : Fits u) (ch ch' : AV) (xs xs' : List AV) (hch : SlOf 2 xs ch) (hall : All2 ChapA t xs) (hch' : SlOf 2 xs' ch') (hall' : All2 ChapA u xs') (h1 : textB t = true) (h2 : textB u = true) (h3 : alikeB t u = false) (id : Int) :
    Ans (Cx e) 22 [.agg [ch], .agg [ch'], intA id] (.tup [.agg [intA 0, .v (.slice none 0 0)], intA 8]) := by
  have h50 : ∀ (me : FuncId) (d : Option Tmp) (H : Heap), callA (Cx e) (lim (Cx e)) me 50 d [.agg [ch], .agg [ch']] H = some (.tup [.agg [.v (.slice none 0 0)], .v (.int .i64 8)], H) := fun me d H =>
    (ans50e he t u ht hu ch ch' xs xs' hch hall hch' hall' h1 h2 h3).call (ext_50 he) (pure_50 _ _ _) (by simp only [boundL_cons, bound_agg, hch.bound, hch'.bound, boundL_nil]; rfl) H
  unfold Ans
  rw [fn_step (fn_22 e) (show Tryz.f22.body = some _ from rfl)]
  simp -implicitDefEqProofs only [Tryz.f22, go_sem, ↓reduceIte, Int.reduceEq, Int.reduceLT, Int.reduceLE, List.reduceReplicate, intA, setT_nil, setT_cons, ↓boolP_bool, ↓iteB_true, ↓iteB_false, hch.cells, hch.flat, hch.bound, hch'.cells, hch'.flat, hch'.bound, h50]
  rfl
theorem ans23e {e : Exts} (he : Quiet e) (t u : Txt) (ht : Fits t) (hu : Fits u) (ch ch' : AV) (xs xs' : List AV) (hch : SlOf 2 xs ch) (hall : All2 ChapA t xs) (hch' : SlOf 2 xs' ch') (hall' : All2 ChapA u xs') (h1 : textB t = true) (h2 : textB u = true) (h3 : alikeB t u = false) :
    Ans (Cx e) 23 [.agg [ch], .agg [ch']] (.tup [intA 0, intA 8]) := by
  have h50 : ∀ (me : FuncId) (d : Option Tmp) (H : Heap), callA (Cx e) (lim (Cx e)) me 50 d [.agg [ch], .agg [ch']] H = some (.tup [.agg [.v (.slice none 0 0)], .v (.int .i64 8)], H) := fun me d H =>
    (ans50e he t u ht hu ch ch' xs xs' hch hall hch' hall' h1 h2 h3).call (ext_50 he) (pure_50 _ _ _) (by simp only [boundL_cons, bound_agg, hch.bound, hch'.bound, boundL_nil]; rfl) H
  unfold Ans
  rw [fn_step (fn_23 e) (show Tryz.f23.body = some _ from rfl)]
  simp -implicitDefEqProofs only [Tryz.f23, go_sem, ↓reduceIte, Int.reduceEq, Int.reduceLT, Int.reduceLE, List.reduceReplicate, intA, setT_nil, setT_cons, ↓boolP_bool, ↓iteB_true, ↓iteB_false, hch.cells, hch.flat, hch.bound, hch'.cells, hch'.flat, hch'.bound, h50]
  rfl
end Go.Ev
namespace Go.Ev
open Go.Proofs
set_option maxRecDepth 100000
set_option linter.unusedSimpArgs false
attribute [local irreducible] Wp WpS
theorem call26 {e : Exts} (he : Quiet e) (t : Txt) (ht : Fits t) (htx : textB t = true) (ch : AV) (xs : List AV) (hch : SlOf 2 xs ch) (hall : All2 ChapA t xs) (id : Int) (rs : List Rd) (x : AV) (hx : RdsA rs x) (h58 : Has58 e ch id x true) (me : FuncId) (d : Option Tmp) (H : Heap) : callA (Cx e) (lim (Cx e)) me 26 d [.agg [ch], .agg [.v (.int .i64 id), x]] H = some (.v (.int .i64 0), H) := by
  have h54 := call54 he t ht htx ch xs hch hall id rs x hx h58
  have hx : SlOf 5 (rs.map rdV) x := hx
  have key : Ans (Cx e) 26 [.agg [ch], .agg [intA id, x]] (.v (.int .i64 0)) := by
    unfold Ans
    rw [fn_step (fn_26 e) (show Tryz.f26.body = some _ from rfl)]
    simp -implicitDefEqProofs only [Tryz.f26, go_sem, ↓reduceIte, Int.reduceEq, Int.reduceLT, Int.reduceLE, List.reduceReplicate, intA, setT_nil, setT_cons, ↓boolP_bool, ↓iteB_true, ↓iteB_false, hch.cells, hch.flat, hch.bound, hx.cells, hx.flat, hx.bound, h54]
  exact key.call (ext_26 he) (pure_26 _ _ _) (by simp only [boundL_cons, bound_agg, hch.bound, hx.bound, boundL_nil, intA, bound_v]; rfl) H
set_option maxHeartbeats 4000000 in
theorem ans5 {e : Exts} (he : Quiet e) (hx12 : e 12 = some (atArgs [] (.v (.bool true)))) (t u : Txt) (ht : Fits t) (hu : Fits u) (ch ch' : AV) (xs xs' : List AV) (hch : SlOf 2 xs ch) (hall : All2 ChapA t xs) (hch' : SlOf 2 xs' ch') (hall' : All2 ChapA u xs') (n : Nat) (hn : n < 65536) :
    Ans (Cx e) 5 [.agg [ch], .agg [ch'], .v (.int .u16 n)] (.v (.bool true)) := by
  have h13 := call13 he t ht _ ⟨ch, rfl, xs, hch, hall⟩
  have h13' := call13 he u hu _ ⟨ch', rfl, xs', hch', hall'⟩
  have hw : IntKind.i64.wrap (n : Int) = n := wrap_in _ (by omega) (by omega)
  have hr : ∀ (x y : Operand), binA Tryz.prog .rem 3 x y (.v (.int .i64 (n : Int))) (.v (.int .i64 10000)) = some (.v (.int .i64 (Int.tmod n 10000))) := fun x y => bin_rem x y n 10000 (by decide)
  unfold Ans
  rw [fn_step (fn_5 e) (show Tryz.f5.body = some _ from rfl)]
  cases h1 : readyB t
  · rw [h1] at h13
    simp -implicitDefEqProofs only [Tryz.f5, go_sem, ↓reduceIte, Int.reduceEq, Int.reduceLT, Int.reduceLE, List.reduceReplicate, intA, setT_nil, setT_cons, ↓boolP_bool, ↓iteB_true, ↓iteB_false, hch.cells, hch.flat, hch.bound, hch'.cells, hch'.flat, hch'.bound, call12 hx12, h13]
  rw [h1] at h13
  cases h1' : readyB u
  · rw [h1'] at h13'
    simp -implicitDefEqProofs only [Tryz.f5, go_sem, ↓reduceIte, Int.reduceEq, Int.reduceLT, Int.reduceLE, List.reduceReplicate, intA, setT_nil, setT_cons, ↓boolP_bool, ↓iteB_true, ↓iteB_false, hch.cells, hch.flat, hch.bound, hch'.cells, hch'.flat, hch'.bound, call12 hx12, h13, h13']
  rw [h1'] at h13'
  have htx := ready_text h1
  have hux := ready_text h1'
  have hs := small_of htx
  have hsu := small_of hux
  have hid : withinB 0 9999 [Int.tmod (n : Int) 10000] = true := by
    have h3 : Int.tmod (n : Int) 10000 = ((n % 10000 : Nat) : Int) := rfl
    rw [h3]
    have := Nat.mod_lt n (show 0 < 10000 by omega)
    unfold withinB
    simp only [List.all_cons, List.all_nil, Bool.and_true, Bool.and_eq_true, decide_eq_true_eq]; omega
  generalize Int.tmod (n : Int) 10000 = id at hr hid
  have h24 := call24 he t u ht _ _ ⟨ch, rfl, xs, hch, hall⟩ ⟨ch', rfl, xs', hch', hall'⟩
  have hz : foundT 0 t t = [] := List.length_eq_zero_iff.1 (by rw [foundT_len]; exact (apartT_zero t t rfl).2 rfl)
  have c0 := call22 he ht ht hch hall hch hall htx htx (decide_eq_true rfl) hid (by rw [hz]; exact Nat.zero_le _)
  rw [hz] at c0
  have sl0 : slLen (.v (.slice none 0 0)) = some (.v (.int .i64 0)) := rfl
  have ofV0 : ofV [] = .v (.slice none 0 0) := rfl
  rw [ofV0] at c0
  cases h3 : alikeB t u
  · rw [h3] at h24
    have c22 : ∀ (me : FuncId) (d : Option Tmp) (H : Heap), callA (Cx e) (lim (Cx e)) me 22 d [.agg [ch], .agg [ch'], .v (.int .i64 id)] H = some (.tup [.agg [.v (.int .i64 0), .v (.slice none 0 0)], .v (.int .i64 8)], H) := fun me d H =>
      (ans22e he t u ht hu ch ch' xs xs' hch hall hch' hall' htx hux h3 id).call (ext_22 he) (pure_22 _ _ _) (by simp only [boundL_cons, bound_agg, hch.bound, hch'.bound, boundL_nil, intA, bound_v]; rfl) H
    have c23 : ∀ (me : FuncId) (d : Option Tmp) (H : Heap), callA (Cx e) (lim (Cx e)) me 23 d [.agg [ch], .agg [ch']] H = some (.tup [.v (.int .i64 0), .v (.int .i64 8)], H) := fun me d H =>
      (ans23e he t u ht hu ch ch' xs xs' hch hall hch' hall' htx hux h3).call (ext_23 he) (pure_23 _ _ _) (by simp only [boundL_cons, bound_agg, hch.bound, hch'.bound, boundL_nil]; rfl) H
    simp -implicitDefEqProofs only [Tryz.f5, go_sem, ↓reduceIte, Int.reduceEq, Int.reduceLT, Int.reduceLE, List.reduceReplicate, intA, setT_nil, setT_cons, ↓boolP_bool, ↓iteB_true, ↓iteB_false, hch.cells, hch.flat, hch.bound, hch'.cells, hch'.flat, hch'.bound, call12 hx12, h13, h13', conv_u16, hw, hr, sl0, c0, c22, c23, h24, eq_self, decide_true, List.length_nil, bool4]
  · rw [h3] at h24
    have s1 : shapeT t = shapeT u := of_decide_eq_true h3
    have c1 := call23 he ht hu hch hall hch' hall' htx hux h3
    rw [← foundT_len t u 0] at c1
    by_cases hbig : 20 < (foundT 0 t u).length
    · have c22 : ∀ (me : FuncId) (d : Option Tmp) (H : Heap), callA (Cx e) (lim (Cx e)) me 22 d [.agg [ch], .agg [ch'], .v (.int .i64 id)] H = some (.tup [.agg [.v (.int .i64 0), .v (.slice none 0 0)], .v (.int .i64 4)], H) := fun me d H => by
        have h := find22 he t u ht hu ch ch' xs xs' hch hall hch' hall' htx hux h3 id hid
        unfold res22 at h
        rw [if_pos hbig] at h
        exact h.call (ext_22 he) (pure_22 _ _ _) (by simp only [boundL_cons, bound_agg, hch.bound, hch'.bound, boundL_nil, intA, bound_v]; rfl) H
      have q1 : (20 : Int) < ((foundT 0 t u).length : Nat) := by omega
      simp -implicitDefEqProofs only [Tryz.f5, go_sem, ↓reduceIte, Int.reduceEq, Int.reduceLT, Int.reduceLE, List.reduceReplicate, intA, setT_nil, setT_cons, ↓boolP_bool, ↓iteB_true, ↓iteB_false, hch.cells, hch.flat, hch.bound, hch'.cells, hch'.flat, hch'.bound, call12 hx12, h13, h13', conv_u16, hw, hr, sl0, c0, c1, c22, h24, q1, eq_self, decide_true, List.length_nil, bool4]
    · have hl20 : (foundT 0 t u).length ≤ 20 := by omega
      have c22 := call22 he ht hu hch hall hch' hall' htx hux h3 hid hl20
      have hRf := foundT_right hs hsu s1 hid hl20
      have hfx := found_text hs hsu s1
      obtain ⟨ys2, o2, ho2, hys2, h58, h25b⟩ := copyW he t hs ht htx ch xs hch hall id (foundT 0 t u) (ofV _) (ofV_rds _) (fun r hr => (found_read' hs hsu hr).2) hRf
      have h25c := call25 he (by simp only [boundL_cons, bound_agg, hch.bound, intA, bound_v, ofV_bound, boundL_nil]; rfl) h25b
      have h26 := call26 he t ht htx ch xs hch hall id (foundT 0 t u) (ofV _) (ofV_rds _) h58
      rw [hfx] at hys2
      have c5 := call27 he hu hu ho2 hys2 hch' hall'
      have hof : SlOf 5 ((foundT 0 t u).map rdV) (ofV (foundT 0 t u)) := ofV_rds _
      generalize foundT 0 t u = fd at *
      simp -implicitDefEqProofs only [Tryz.f5, go_sem, ↓reduceIte, Int.reduceEq, Int.reduceLT, Int.reduceLE, List.reduceReplicate, intA, setT_nil, setT_cons, ↓boolP_bool, ↓iteB_true, ↓iteB_false, hch.cells, hch.flat, hch.bound, hch'.cells, hch'.flat, hch'.bound, ho2.cells, ho2.flat, ho2.bound, hof.cells, hof.flat, hof.bound, hof.len, call12 hx12, h13, h13', conv_u16, hw, hr, sl0, c0, c1, c22, h24, h25c, h26, c5, List.length_map, eq_self, decide_true, List.length_nil, bool4]
end Go.Ev
