/- What the proof of this claim stands on, part 5: an evaluator of the model, proved right, and what it answers for functions of the program. -/
import Derived.Test.YtphfgbmonepliaaPk03
set_option linter.unusedSimpArgs false
namespace Go.Ev
open Go.Proofs Go.Sort
set_option maxRecDepth 100000
set_option linter.unusedSimpArgs false
attribute [local irreducible] Wp WpS
/-! ### the places of each word -/
def strK (w : ByteArray) : AV := .v (.string w)
abbrev TbW := List (ByteArray × List P3)
def addT (w : ByteArray) (p : P3) : TbW → TbW
  | [] => [(w, [p])]
  | x :: r => if x.1 = w then (x.1, x.2 ++ [p]) :: r else x :: addT w p r
theorem addT_in (w : ByteArray) (p : P3) : ∀ (a : TbW) (x : ByteArray × List P3) (b : TbW), w ∉ a.map (·.1) → x.1 = w → addT w p (a ++ x :: b) = a ++ (x.1, x.2 ++ [p]) :: b
  | [], x, b, _, h => by show (if x.1 = w then _ else _) = _; rw [if_pos h]; rfl
  | y :: a, x, b, hn, h => by
    simp only [List.map_cons, List.mem_cons, not_or] at hn
    show (if y.1 = w then _ else y :: addT w p (a ++ x :: b)) = _
    rw [if_neg (fun e => hn.1 e.symm), addT_in w p a x b hn.2 h]; rfl
theorem addT_out (w : ByteArray) (p : P3) : ∀ (a : TbW), w ∉ a.map (·.1) → addT w p a = a ++ [(w, [p])]
  | [], _ => rfl
  | y :: a, hn => by
    simp only [List.map_cons, List.mem_cons, not_or] at hn
    show (if y.1 = w then _ else _) = _
    rw [if_neg (fun e => hn.1 e.symm), addT_out w p a hn.2]; rfl
/-- an entry of the map, and the row that its value leads to -/
def TabR (x : ByteArray × List P3) (e : AV × AV × Nat) (r : Nat × AObj) : Prop := e.1 = strK x.1 ∧ x.2 ≠ [] ∧ ∃ ver, e.2.1 = .sl r.1 ver 0 x.2.length none ∧ r.2 = .cells ver 0 26 3 true (clP x.2)
def TabM : TbW → List (AV × AV × Nat) → Fm → Prop
  | [], [], [] => True
  | x :: tb, e :: es, r :: rows => TabR x e r ∧ TabM tb es rows
  | _, _, _ => False
theorem TabM.app : ∀ {tb1 tb2 : TbW} {es1 es2 : List (AV × AV × Nat)} {r1 r2 : Fm}, TabM tb1 es1 r1 → TabM tb2 es2 r2 → TabM (tb1 ++ tb2) (es1 ++ es2) (r1 ++ r2)
  | [], _, [], _, [], _, _, h => h
  | _ :: _, _, _ :: _, _, _ :: _, _, h1, h2 => ⟨h1.1, h1.2.app h2⟩
  | [], _, _ :: _, _, _, _, h, _ => h.elim
  | [], _, [], _, _ :: _, _, h, _ => h.elim
  | _ :: _, _, [], _, _, _, h, _ => h.elim
  | _ :: _, _, _ :: _, _, [], _, h, _ => h.elim
theorem TabM.keys : ∀ {tb : TbW} {es : List (AV × AV × Nat)} {rows : Fm}, TabM tb es rows → es.map (·.1) = tb.map fun x => strK x.1
  | [], [], [], _ => rfl
  | x :: tb, e :: es, r :: rows, h => by rw [List.map_cons, List.map_cons, h.1.1, h.2.keys]
  | [], _ :: _, _, h => h.elim
  | [], [], _ :: _, h => h.elim
  | _ :: _, [], _, h => h.elim
  | _ :: _, _ :: _, [], h => h.elim
theorem TabM.split (w : ByteArray) : ∀ {tb : TbW} {es : List (AV × AV × Nat)} {rows : Fm}, TabM tb es rows → w ∈ tb.map (·.1) →
    ∃ tb1 x tb2 es1 e es2 r1 r r2, tb = tb1 ++ x :: tb2 ∧ x.1 = w ∧ w ∉ tb1.map (·.1) ∧ es = es1 ++ e :: es2 ∧ rows = r1 ++ r :: r2 ∧ TabM tb1 es1 r1 ∧ TabR x e r ∧ TabM tb2 es2 r2
  | [], [], [], _, hm => by simp at hm
  | x :: tb, e :: es, r :: rows, h, hm => by
    by_cases hx : x.1 = w
    · exact ⟨[], x, tb, [], e, es, [], r, rows, rfl, hx, by simp, rfl, rfl, trivial, h.1, h.2⟩
    · have hm2 : w ∈ tb.map (·.1) := by
        simp only [List.map_cons, List.mem_cons] at hm
        exact hm.resolve_left fun e => hx e.symm
      obtain ⟨tb1, x', tb2, es1, e', es2, r1, r', r2, rfl, h2, h3, rfl, rfl, h4, h5, h6⟩ := h.2.split w hm2
      refine ⟨x :: tb1, x', tb2, e :: es1, e', es2, r :: r1, r', r2, rfl, h2, ?_, rfl, rfl, ⟨h.1, h4⟩, h5, h6⟩
      simp only [List.map_cons, List.mem_cons, not_or]
      exact ⟨fun e => hx e.symm, h3⟩
  | [], _ :: _, _, h, _ => h.elim
  | [], [], _ :: _, h, _ => h.elim
  | _ :: _, [], _, h, _ => h.elim
  | _ :: _, _ :: _, [], h, _ => h.elim
/-! what is found in a map -/
theorem keyEq_str (P : Program) (kt : TypeId) (a b : ByteArray) : keyEq P kt (strK a) (strK b) = some (decide (a = b)) := by
  unfold keyEq strK
  simp only [bytesEq_iff]
  congr 1
  refine decide_eq_decide.2 ⟨fun h => ?_, fun h => by rw [h]⟩
  obtain ⟨⟨a⟩⟩ := a
  obtain ⟨⟨b⟩⟩ := b
  simp only at h
  rw [h]
theorem find_skip (P : Program) (kt : TypeId) (w : ByteArray) : ∀ (es : List (AV × AV × Nat)) (ws : List ByteArray) (i : Nat) (rest : List (AV × AV × Nat)), es.map (·.1) = ws.map strK → w ∉ ws → findKeyA P kt (strK w) (es ++ rest) i = findKeyA P kt (strK w) rest (i + es.length)
  | [], _, i, rest, _, _ => rfl
  | (k, v, c) :: es, ws, i, rest, h, hn => by
    cases ws with
    | nil => cases h
    | cons y ws =>
      simp only [List.map_cons, List.cons.injEq] at h
      simp only [List.mem_cons, not_or] at hn
      obtain ⟨rfl, h2⟩ := h
      show (match keyEq P kt (strK w) (strK y) with | some true => _ | some false => findKeyA P kt (strK w) (es ++ rest) (i + 1) | none => none) = _
      rw [keyEq_str, decide_eq_false hn.1]
      simp only
      rw [find_skip P kt w es ws (i + 1) rest h2 hn.2, List.length_cons]
      congr 1; omega
theorem find_here (P : Program) (kt : TypeId) (w : ByteArray) (v : AV) (c : Nat) (rest : List (AV × AV × Nat)) (i : Nat) : findKeyA P kt (strK w) ((strK w, v, c) :: rest) i = some (some (i, v)) := by
  show (match keyEq P kt (strK w) (strK w) with | some true => some (some (i, v)) | some false => _ | none => none) = _
  rw [keyEq_str, decide_eq_true rfl]
theorem setVal_at (k v : AV) : ∀ (a : List (AV × AV × Nat)) (e : AV × AV × Nat) (b : List (AV × AV × Nat)), setVal k v a.length (a ++ e :: b) = a ++ (k, v, e.2.2) :: b
  | [], (_, _, c), b => rfl
  | x :: a, e, b => by
    show x :: setVal k v a.length (a ++ e :: b) = _
    rw [setVal_at k v a e b]; rfl
theorem mapOk90 (w : ByteArray) : mapKeyOk Try.prog 102 (strK w) = some (9, 46) := by kernel_rfl
theorem zero47' : zeroT Try.prog 46 = some (.v (.slice none 0 0)) := by kernel_rfl
theorem look_in {G : Heap} {mb mx c : Nat} {es : List (AV × AV × Nat)} (hg : G.get mb = some (.map mx es c)) {w : ByteArray} {i : Nat} {v : AV} (hf : findKeyA Try.prog 9 (strK w) es 0 = some (some (i, v))) (ok : Bool) :
    lookupA Try.prog G 102 (.mp mb) (strK w) ok = some (if ok then .tup [v, .v (.bool true)] else v) := by
  unfold lookupA mapOfA
  simp only [mapOk90, hg, zero47', hf]
theorem look_out {G : Heap} {mb mx c : Nat} {es : List (AV × AV × Nat)} (hg : G.get mb = some (.map mx es c)) {w : ByteArray} (hf : findKeyA Try.prog 9 (strK w) es 0 = some none) (ok : Bool) :
    lookupA Try.prog G 102 (.mp mb) (strK w) ok = some (if ok then .tup [.v (.slice none 0 0), .v (.bool false)] else .v (.slice none 0 0)) := by
  unfold lookupA mapOfA
  simp only [mapOk90, hg, zero47', hf]
theorem upd_in {G : Heap} {mb mx c : Nat} {es : List (AV × AV × Nat)} (hg : G.get mb = some (.map mx es c)) (hl : G.lock ≤ mb) {w : ByteArray} {i : Nat} {v : AV} (hf : findKeyA Try.prog 9 (strK w) es 0 = some (some (i, v))) {e : AV × AV × Nat} (he : es[i]? = some e) (v' : AV) :
    updateA Try.prog G 102 (.mp mb) (strK w) v' = some (G.put mb (.map (Nat.max mx (bound v')) (setVal (strK w) v' i es) c)) := by
  obtain ⟨k', x1, x2⟩ := e
  unfold updateA
  simp only [mapOk90, hg, hl, if_true, hf, he]
  have : sameKey k' (strK w) = true := by unfold sameKey strK; cases k' <;> rfl
  rw [this]; rfl
theorem upd_out {G : Heap} {mb mx c : Nat} {es : List (AV × AV × Nat)} (hg : G.get mb = some (.map mx es c)) (hl : G.lock ≤ mb) {w : ByteArray} (hf : findKeyA Try.prog 9 (strK w) es 0 = some none) (v' : AV) :
    updateA Try.prog G 102 (.mp mb) (strK w) v' = some (G.put mb (.map (Nat.max mx (bound v')) (es ++ [(strK w, v', c)]) (c + 1))) := by
  unfold updateA
  simp only [mapOk90, hg, hl, if_true, hf]
end Go.Ev
namespace Go.Ev
open Go.Proofs Go.Sort
set_option maxRecDepth 100000
set_option linter.unusedSimpArgs false
attribute [local irreducible] Wp WpS
/-! ### the map of places by words -/
def plI (p : Plc) : P3 := (p.1, p.2.1, p.2.2)
def addI (s : TbW) (x : List AV) : TbW := match x with
  | [.agg [.v (.int _ a), .v (.int _ b), .v (.int _ c)], .v (.string w)] => addT w (a, b, c) s
  | _ => s
def stp46 (s : TbW) (x : List AV) : AExit × TbW := (.normal, addI s x)
def cntT (s : TbW) : Nat := (s.map fun x => x.2.length).sum
theorem cnt_add (w : ByteArray) (p : P3) : ∀ s : TbW, cntT (addT w p s) = cntT s + 1
  | [] => rfl
  | x :: r => by
    unfold addT
    split
    · unfold cntT; simp only [List.map_cons, List.sum_cons, List.length_append, List.length_cons, List.length_nil]; omega
    · have := cnt_add w p r
      unfold cntT at *; simp only [List.map_cons, List.sum_cons]; omega
theorem cnt_mem {s : TbW} {x : ByteArray × List P3} (h : x ∈ s) : x.2.length ≤ cntT s := by
  unfold cntT
  induction s with
  | nil => cases h
  | cons y r ih =>
    simp only [List.map_cons, List.sum_cons]
    rcases List.mem_cons.1 h with rfl | h
    · omega
    · have := ih h; omega
def ok46 (s : TbW) (x : List AV) : Prop := (∃ y : Plc × ByteArray, x = itW y) ∧ cntT s < 2 ^ 31
def tabW (l : List (Plc × ByteArray)) (s : TbW) : TbW := l.foldl (fun s y => addT y.2 (plI y.1) s) s
theorem run46 : ∀ (l : List (Plc × ByteArray)) (s : TbW), cntT s + l.length < 2 ^ 31 → okRun (fun s x => (isGo (stp46 s x).1, (stp46 s x).2)) ok46 (l.map itW) s ∧ foldE stp46 (l.map itW) s = (.normal, tabW l s)
  | [], s, _ => ⟨trivial, rfl⟩
  | y :: r, s, h => by
    rw [List.length_cons] at h
    have ih := run46 r (addT y.2 (plI y.1) s) (by rw [cnt_add]; omega)
    rw [List.map_cons]
    refine ⟨⟨⟨⟨y, rfl⟩, by omega⟩, fun _ => ih.1⟩, ?_⟩
    rw [foldE_go rfl]
    exact ih.2
def base46 (N : Nat) (mx : Nat) (es : List (AV × AV × Nat)) (c : Nat) : Fm := [(N + 1, .map mx es c), (N + 2, .cells 0 (N + 2) 102 1 false [.mp (N + 1)])]
def R46 (N D : Nat) (s : TbW) (m : Fm) : Prop := ∃ es mx c rows, TabM s es rows ∧ (∀ p ∈ rows, D ≤ p.1 ∧ p.1 < mx) ∧ (rows.map (·.1)).Nodup ∧ m = base46 N mx es c ++ rows
theorem R46_anch {N D n0 : Nat} (h0 : N + 3 ≤ n0) (s : TbW) (m : Fm) (h : R46 N D s m) : Anch n0 m := by
  obtain ⟨es, mx, c, rows, -, hl, -, rfl⟩ := h
  rintro n hn ⟨p, hp, hnp⟩
  refine ⟨(N + 1, .map mx es c), List.mem_append_left _ (by unfold base46; simp), by show N + 1 < n; omega, ?_⟩
  show n < mx
  rcases List.mem_append.1 hp with hp | hp
  · unfold base46 at hp
    simp only [List.mem_cons, List.not_mem_nil, or_false] at hp
    rcases hp with rfl | rfl <;> (simp only at hnp; omega)
  · have := hl p hp; omega
theorem R46_free {N D d : Nat} (hd : N + 3 ≤ d) (hD : d < D) (s : TbW) (m : Fm) (h : R46 N D s m) : ¬ keyIn d m := by
  obtain ⟨es, mx, c, rows, -, hl, -, rfl⟩ := h
  rintro ⟨p, hp, he⟩
  rcases List.mem_append.1 hp with hp | hp
  · unfold base46 at hp
    simp only [List.mem_cons, List.not_mem_nil, or_false] at hp
    rcases hp with rfl | rfl <;> (simp only at he; omega)
  · have := hl p hp; omega
/-- what is left behind -/
def Q46 (X : Heap) (tb : TbW) : PostO := fun v H' => v = .mp (X.size + 1) ∧ H'.lock = X.lock ∧ X.size + 3 ≤ H'.size ∧ (∀ b, b < X.size → H'.get b = X.get b) ∧ ∃ es mx c rows, TabM tb es rows ∧ (∀ p ∈ rows, X.size + 3 ≤ p.1 ∧ p.1 < mx) ∧ (rows.map (·.1)).Nodup ∧ H'.get (X.size + 1) = some (.map mx es c) ∧ Has rows H'
@[go_sem] theorem objs_mp (b : Nat) : objsOf (.mp b) = [b] := rfl
@[go_sem] theorem bound_mp (b : Nat) : bound (.mp b) = b + 1 := rfl
@[go_sem] theorem eval_nilmap (s : Nat) (l : List (Tmp × AV)) (m : List Nat) : (AAct.mk s l m).eval (.const (.map none)) = some (.v (.map none)) := rfl
theorem fin46 {N M mx c mx' c' : Nat} {s' : TbW} {es es' : List (AV × AV × Nat)} {rows rows' : Fm} {H' W : Heap} {L' : ALoop} (hM : H'.size = M) (_hNM : N + 5 ≤ M) (hl : W.lock = H'.lock) (hs : M ≤ W.size) (h1 : W.get (N + 1) = some (.map mx' es' c')) (h2 : W.get (N + 2) = some (.cells 0 (N + 2) 102 1 false [.mp (N + 1)])) (h4 : W.get (N + 3 + 1) = some (.loop L'))
    (hr : Has rows' W) (hT : TabM s' es' rows') (hlo : ∀ p ∈ rows', N + 5 ≤ p.1 ∧ p.1 < mx') (hnd : (rows'.map (·.1)).Nodup) (hk : ∀ p ∈ rows', keyIn p.1 rows ∨ M ≤ p.1) (ho : ∀ b, b < M → b ≠ N + 1 → b ≠ N + 3 + 1 → ¬ keyIn b rows' → W.get b = H'.get b) :
    ∃ m', R46 N (N + 5) s' m' ∧ Has m' W ∧ loopObj W (N + 3 + 1) = some L' ∧ Moves ((N + 3 + 1, .loop L') :: (base46 N mx es c ++ rows)) H' ((N + 3 + 1, .loop L') :: m') W := by
  refine ⟨base46 N mx' es' c' ++ rows', ⟨es', mx', c', rows', hT, hlo, hnd, rfl⟩, fun p hp => ?_, get_loopObj h4, hl, by omega, fun b hb hnb => ?_, fun p hp => ?_⟩
  · rcases List.mem_append.1 hp with hp | hp
    · unfold base46 at hp
      simp only [List.mem_cons, List.not_mem_nil, or_false] at hp
      rcases hp with rfl | rfl
      · exact h1
      · exact h2
    · exact hr p hp
  · have hb1 : b ≠ N + 1 := fun e => hnb ⟨(N + 1, .map mx es c), List.mem_cons_of_mem _ (List.mem_append_left _ (by unfold base46; simp)), e.symm⟩
    have hb4 : b ≠ N + 3 + 1 := fun e => hnb ⟨_, List.mem_cons_self .., e.symm⟩
    refine ho b (by omega) hb1 hb4 fun ⟨p, hp, he⟩ => ?_
    rcases hk p hp with ⟨q, hq, he2⟩ | h
    · exact hnb ⟨q, List.mem_cons_of_mem _ (List.mem_append_right _ hq), by omega⟩
    · omega
  · rcases List.mem_cons.1 hp with rfl | hp
    · exact Or.inl ⟨_, List.mem_cons_self .., rfl⟩
    · rcases List.mem_append.1 hp with hp | hp
      · unfold base46 at hp
        simp only [List.mem_cons, List.not_mem_nil, or_false] at hp
        rcases hp with rfl | rfl
        · exact Or.inl ⟨(N + 1, .map mx es c), List.mem_cons_of_mem _ (List.mem_append_left _ (by unfold base46; simp)), rfl⟩
        · exact Or.inl ⟨(N + 2, .cells 0 (N + 2) 102 1 false [.mp (N + 1)]), List.mem_cons_of_mem _ (List.mem_append_left _ (by unfold base46; simp)), rfl⟩
      · rcases hk p hp with ⟨q, hq, he⟩ | h
        · exact Or.inl ⟨q, List.mem_cons_of_mem _ (List.mem_append_right _ hq), he⟩
        · exact Or.inr (by omega)
theorem clP_snoc (ps : List P3) (p : P3) : clP (ps ++ [p]) = clP ps ++ [.v (.int .i64 p.1), .v (.int .i64 p.2.1), .v (.int .i64 p.2.2)] := by
  rw [clP_append, clP_cons]; rfl
set_option maxHeartbeats 4000000 in
theorem fn46 {e : Exts} (he : Quiet e) {t : Txt} {ch : AV} {xs : List AV} (hch : SlOf 2 xs ch) (hall : All2 ChapA t xs) (hok : ∀ y ∈ xs, OkCh2 y) (hlen : xs.length < 2 ^ 63) (hw : (wordsT 0 t).length < 2 ^ 31) (X : Heap) (hlk : X.lock ≤ X.size) :
    Fn' (Cx e) 50 [.agg [ch]] X (Q46 X (tabW (wordsT 0 t) [])) := by
  obtain ⟨N, hN⟩ : ∃ N, X.size = N := ⟨_, rfl⟩
  have hlkN : X.lock ≤ N := by omega
  have hnz : ((N + 1 + 1 ≤ 0) : Prop) = False := by simp
  generalize hKK : Q46 X (tabW (wordsT 0 t) []) = KK
  rw [fn_step (fn_50 e) (show Try.f50.body = some _ from rfl), ← plus_nil X]
  simp -implicitDefEqProofs only [Try.f50, go_sem, ↓reduceIte, Int.reduceEq, Int.reduceLT, Int.reduceLE, List.reduceReplicate, intA, setT_nil, setT_cons, ↓boolP_bool, ↓iteB_true, ↓iteB_false, sizeP hN, putP0 hN, putP hN, settleP0 hN, settleP hN, rowP0 hN, rowP hN, storeP0 hN hlkN, storeP hN hlkN, List.length_nil, List.length_cons, Nat.add_zero, Nat.zero_add, hch.cells, hch.flat, hch.bound, call41 he ch xs hch, hnz, Nat.zero_le]
  obtain ⟨G, hG⟩ : ∃ G, X.plus [some (AObj.cells 0 0 89 1 false [ch]), some (AObj.map 0 [] 0), some (AObj.cells 0 (N + 1 + 1) 102 1 false [AV.mp (N + 1)])] = G := ⟨_, rfl⟩
  have hGs : G.size = N + 3 := by rw [← hG, plus_size, hN]; rfl
  have hG1 : G.get (N + 1) = some (.map 0 [] 0) := by rw [← hG]; exact plus_mid_get hN [some (AObj.cells 0 0 89 1 false [ch])] _ _
  have hG2 : G.get (N + 2) = some (.cells 0 (N + 2) 102 1 false [.mp (N + 1)]) := by rw [← hG]; exact plus_mid_get hN [some (AObj.cells 0 0 89 1 false [ch]), some (AObj.map 0 [] 0)] _ _
  have hGlo : ∀ b, b < N → G.get b = X.get b := fun b hb => by rw [← hG]; exact plus_get _ (by omega)
  have hGl : G.lock = X.lock := by rw [← hG]; rfl
  rw [hG]
  have hy : Yields2 (Cx e) 69 [.ro (.agg [ch]) 0] ((wordsT 0 t).map itW) := by rw [← allIts_eq hall]; exact yields2_63 he ch xs hch hok hlen
  have hrun := run46 (wordsT 0 t) [] (by show 0 + _ < _; omega)
  refine wp_range2 hy rfl (R46 N (N + 5)) stp46 (fun _ => True) ok46 (n0 := N + 3) (k := X.lock) (by rw [hGs]; exact Nat.le_refl _) (by omega) (fun x hx => ?_) (R46_anch (Nat.le_refl _)) (fun s m h => by rw [hGs]; exact ⟨R46_free (Nat.le_refl _) (by omega) s m h, R46_free (by omega) (by omega) s m h⟩) (fun _ _ _ _ _ => trivial) ?_ [] (base46 N 0 [] 0 ++ []) hrun.1 trivial ⟨[], 0, 0, [], trivial, (fun p hp => nomatch hp), List.nodup_nil, rfl⟩ ?_ hGl ?_
  · obtain ⟨y, -, rfl⟩ := List.mem_map.1 hx
    rfl
  · rw [hGs]
    rintro L L' s m x H' - - ⟨⟨⟨⟨p1, p2, p3⟩, w⟩, rfl⟩, hcnt⟩ - ⟨es, mx, c, rows, hT, hlo, hnd, rfl⟩ hHm hd0 hlp hlk' hsz'
    obtain ⟨M, hM⟩ : ∃ M, H'.size = M := ⟨_, rfl⟩
    have hlkM : H'.lock ≤ M := by omega
    have hp1 : stp46 s (itW ((p1, p2, p3), w)) = (.normal, addT w ((p1 : Int), (p2 : Int), (p3 : Int)) s) := rfl
    generalize stp46 s (itW ((p1, p2, p3), w)) = p46 at hp1 ⊢
    rw [← plus_nil H']
    simp -implicitDefEqProofs only [go_sem, ↓reduceIte, Int.reduceEq, Int.reduceLT, Int.reduceLE, List.reduceReplicate, intA, setT_nil, setT_cons, ↓boolP_bool, ↓iteB_true, ↓iteB_false, itW, plN, List.zip_cons_cons, List.zip_nil_right, List.zip_nil_left, sizeP hM, putP0 hM, putP hM, settleP0 hM, settleP hM, rowP0 hM, rowP hM, storeP0 hM hlkM, storeP hM hlkM, List.length_nil, Nat.add_zero]
    obtain ⟨E0, hE0⟩ : ∃ E0 : List (Option AObj), [some (.cells 0 0 26 1 false [.v (.int .i64 p1), .v (.int .i64 p2), .v (.int .i64 p3)])] = E0 := ⟨_, rfl⟩
    have hlo1 : loopObj (H'.plus E0) (N + 3 + 1) = some L := get_loopObj ((plus_get _ (by omega)).trans (loopObj_getI hlp))
    rw [hE0, plus_nil]
    refine ⟨rfl, hlo1, ?_⟩
    obtain ⟨Y, hY⟩ : ∃ Y, (H'.plus E0).put (N + 3 + 1) (.loop L') = Y := ⟨_, rfl⟩
    have hszE : (H'.plus E0).size = M + 1 := by rw [plus_size, hM, ← hE0]; rfl
    have hYs : Y.size = M + 1 := by rw [← hY, put_sizeI _ (by omega)]; exact hszE
    have hYg : ∀ b, b ≠ N + 3 + 1 → b < M → Y.get b = H'.get b := fun b hb hb2 => by rw [← hY, put_get_ne _ (by omega) hb]; exact plus_get _ (by omega)
    have hYl : Y.lock = X.lock := by rw [← hY]; exact hlk'
    have hlkY : Y.lock ≤ M + 1 := by omega
    have hYL : Y.get (N + 3 + 1) = some (.loop L') := by rw [← hY]; exact put_get_eq _ (by omega)
    have hYc : Y.get M = some (.cells 0 0 26 1 false [.v (.int .i64 p1), .v (.int .i64 p2), .v (.int .i64 p3)]) := by rw [← hY, put_get_ne _ (by omega) (by omega), ← hE0]; exact plus_mid_get hM [] [] _
    have hY1 : Y.get (N + 1) = some (.map mx es c) := (hYg _ (by omega) (by omega)).trans (hHm (N + 1, _) (List.mem_append_left _ (by unfold base46; simp)))
    have hY2 : Y.get (N + 2) = some (.cells 0 (N + 2) 102 1 false [.mp (N + 1)]) := (hYg _ (by omega) (by omega)).trans (hHm (N + 2, _) (List.mem_append_left _ (by unfold base46; simp)))
    have hrM : ∀ p ∈ rows, p.1 < M := fun p hp => by have := get_ltS (hHm p (List.mem_append_right _ hp)); omega
    have hYr : Has rows Y := fun p hp => (hYg _ (by have := hlo p hp; omega) (hrM p hp)).trans (hHm p (List.mem_append_right _ hp))
    have hr2 : ∀ F, (Y.plus F).row (N + 2) 0 = some (N + 2, 102, 1, false, [.mp (N + 1)]) := fun F => get_row ((plus_get _ (by omega)).trans hY2)
    have hrc : ∀ F, (Y.plus F).row M 0 = some (0, 26, 1, false, [.v (.int .i64 p1), .v (.int .i64 p2), .v (.int .i64 p3)]) := fun F => get_row ((plus_get _ (by omega)).trans hYc)
    have g1 : ltB (N + 1) (M + 1) = true := by unfold ltB; simp; omega
    have g2 : ltB (N + 2) (M + 1) = true := by unfold ltB; simp; omega
    have g3 : ltB M (M + 1) = true := by unfold ltB; simp
    have hf1 : fitsA 24 1 = true := by decide
    rw [hY, ← plus_nil Y]
    simp -implicitDefEqProofs only [go_sem, ↓reduceIte, Int.reduceEq, Int.reduceLT, Int.reduceLE, List.reduceReplicate, intA, setT_nil, setT_cons, ↓boolP_bool, ↓iteB_true, ↓iteB_false, sizeP hYs, putP0 hYs, putP hYs, settleP0 hYs, settleP hYs, rowP0 hYs, rowP hYs, storeP0 hYs hlkY, storeP hYs hlkY, List.length_nil, Nat.add_zero]
    refine wp_drawX [([], [], false), ([], [], false), ([0], [], false), ([], [], false), ([0], [], false), ([0, 2, 4], [], false), ([0, 2, 4], [], false), ([0], [6], false), ([], [6, 7], false)] (by kernel_rfl) (by kernel_rfl) ?_
    have hmc : AV.cells (.agg [.v (.int .i64 p1), .v (.int .i64 p2), .v (.int .i64 p3)]) = [.v (.int .i64 p1), .v (.int .i64 p2), .v (.int .i64 p3)] := rfl
    by_cases hin : w ∈ s.map (·.1)
    · obtain ⟨tb1, x, tb2, es1, en, es2, r1, r, r2, rfl, rfl, hn1, rfl, rfl, hT1, hTx, hT2⟩ := hT.split w hin
      obtain ⟨hk, hps, ver, hv, hr⟩ := hTx
      obtain ⟨w, ps⟩ := x
      obtain ⟨k', v', c'⟩ := en
      obtain ⟨b, ob⟩ := r
      simp only at hk hps hv hr
      subst hk hv hr
      have hbm := hrM (b, .cells ver 0 26 3 true (clP ps)) (by simp)
      have hbl := hlo (b, .cells ver 0 26 3 true (clP ps)) (by simp)
      simp only at hbm hbl
      have hlen1 : ps.length < 2 ^ 31 := by
        have := cnt_mem (s := tb1 ++ (w, ps) :: tb2) (x := (w, ps)) (by simp)
        simp only at this; omega
      have hfi : fitsA 24 (ps.length + 1) = true := by unfold fitsA; exact decide_eq_true (by omega)
      have hfind : findKeyA Try.prog 9 (strK w) (es1 ++ (strK w, .sl b ver 0 ps.length none, c') :: es2) 0 = some (some (es1.length, .sl b ver 0 ps.length none)) := by
        rw [find_skip Try.prog 9 w es1 (tb1.map (·.1)) 0 _ (by rw [hT1.keys, List.map_map]; rfl) hn1, find_here, Nat.zero_add]
      have hlook : ∀ F, lookupA Try.prog (Y.plus F) 102 (.mp (N + 1)) (.v (.string w)) false = some (.sl b ver 0 ps.length none) := fun F => look_in ((plus_get F (by omega)).trans hY1) hfind false
      have hYb : Y.get b = some (.cells ver 0 26 3 true (clP ps)) := hYr (b, _) (by simp)
      have hrb : ∀ F, (Y.plus F).row b ver = some (0, 26, 3, true, clP ps) := fun F => by
        rw [rowLo (by omega)]
        have h := row_of (v := ver) hYb
        rw [if_pos rfl] at h; exact h
      have g4 : ltB b (M + 1) = true := by unfold ltB; simp; omega
      have q1 : (b == N + 2) = false := by simp; omega
      have q2 : (b == N + 1) = false := by simp; omega
      have q3 : (N + 2 == b) = false := by simp; omega
      have q4 : (N + 1 == b) = false := by simp; omega
      simp -implicitDefEqProofs only [go_sem, ↓reduceIte, Int.reduceEq, Int.reduceLT, Int.reduceLE, List.reduceReplicate, intA, setT_nil, setT_cons, ↓boolP_bool, ↓iteB_true, ↓iteB_false, hr2, hrc, g1, g2, g3, g4, q1, q2, q3, q4, hlook, hf1, hmc, app47, appTo_vs0, List.flatMap_cons, List.flatMap_nil, sizeP hYs, putP0 hYs, putP hYs, settleP0 hYs, settleP hYs, rowP0 hYs, rowP hYs, storeP0 hYs hlkY, storeP hYs hlkY, List.length_nil, Nat.add_zero]
      obtain ⟨W, hW⟩ : ∃ W, Y.put b (.cells (ver + 1) 0 26 3 true (clP (ps ++ [((p1 : Int), (p2 : Int), (p3 : Int))]))) = W := ⟨_, rfl⟩
      have hWs : W.size = M + 1 := by rw [← hW, put_sizeI _ (by omega)]; exact hYs
      have hWg : ∀ q, q ≠ b → q ≤ M → W.get q = Y.get q := fun q hq hq2 => by rw [← hW]; exact put_get_ne _ (by omega) hq
      have hW1 : W.get (N + 1) = some (.map mx (es1 ++ (strK w, .sl b ver 0 ps.length none, c') :: es2) c) := (hWg _ (by omega) (by omega)).trans hY1
      have hWl : W.lock = X.lock := by rw [← hW]; exact hYl
      obtain ⟨Z, hZ⟩ : ∃ Z, W.put (N + 1) (.map (Nat.max mx (b + 1)) (es1 ++ (strK w, .sl b (ver + 1) 0 (ps.length + 1) none, c') :: es2) c) = Z := ⟨_, rfl⟩
      have hupd : ∀ F, updateA Try.prog (W.plus F) 102 (.mp (N + 1)) (.v (.string w)) (.sl b (ver + 1) 0 (ps.length + 1) none) = some (Z.plus F) := fun F => by
        refine (upd_in (G := W.plus F) ((plus_get F (by omega)).trans hW1) (by show W.lock ≤ _; omega) hfind (e := (strK w, .sl b ver 0 ps.length none, c')) (by rw [List.getElem?_append_right (Nat.le_refl _), Nat.sub_self]; rfl) _).trans ?_
        rw [setVal_at, putLo (by omega), ← hZ]; rfl
      rw [appTo_own (m := 0) (e' := 26) (cs := clP ps) (hrb _) (by rw [clP_len]) (by show Y.lock ≤ b; omega) hfi (by omega) (by omega)]
      rw [putLo (by omega), show Nat.max 0 (boundL [AV.v (.int .i64 p1), .v (.int .i64 p2), .v (.int .i64 p3)]) = 0 from rfl, ← clP_snoc ps ((p1 : Int), (p2 : Int), (p3 : Int)), hW]
      simp -implicitDefEqProofs only [go_sem, ↓reduceIte, Int.reduceEq, Int.reduceLT, Int.reduceLE, List.reduceReplicate, intA, setT_nil, setT_cons, ↓boolP_bool, ↓iteB_true, ↓iteB_false, hupd, bd2K_at']
      rw [addT_in w _ tb1 (w, ps) tb2 hn1 rfl] at hp1
      subst hp1
      have hZs : Z.size = M + 1 := by rw [← hZ, put_sizeI _ (by omega)]; exact hWs
      have hZg : ∀ q, q ≠ b → q ≠ N + 1 → q ≤ M → Z.get q = Y.get q := fun q hq hq1 hq2 => by rw [← hZ, put_get_ne _ (by omega) hq1]; exact hWg q hq hq2
      have hZb : Z.get b = some (.cells (ver + 1) 0 26 3 true (clP (ps ++ [((p1 : Int), (p2 : Int), (p3 : Int))]))) := by rw [← hZ, put_get_ne _ (by omega) (by omega), ← hW]; exact put_get_eq _ (by omega)
      have hZ1 : Z.get (N + 1) = some (.map (Nat.max mx (b + 1)) (es1 ++ (strK w, .sl b (ver + 1) 0 (ps.length + 1) none, c') :: es2) c) := by rw [← hZ]; exact put_get_eq _ (by omega)
      have hnd' : (r1.map (·.1)).Nodup ∧ (b :: r2.map (·.1)).Nodup ∧ ∀ q ∈ r1.map (·.1), ∀ q' ∈ b :: r2.map (·.1), q ≠ q' := by
        rw [List.map_append, List.map_cons] at hnd
        exact List.nodup_append.1 hnd
      have hne1 : ∀ p ∈ r1, p.1 ≠ b := fun p hp => hnd'.2.2 _ (List.mem_map_of_mem hp) b (List.mem_cons_self ..)
      have hne2 : ∀ p ∈ r2, p.1 ≠ b := fun p hp he => (List.nodup_cons.1 hnd'.2.1).1 (he ▸ List.mem_map_of_mem hp)
      have hsl : ∀ F, (settleH (M + 1) (Z.plus F)).lock = H'.lock := fun F => by
        rw [settle_lock, plus_lock, ← hZ]
        exact hWl.trans hlk'.symm
      have hss : ∀ F, M ≤ (settleH (M + 1) (Z.plus F)).size := fun F => Nat.le_trans (Nat.le_succ M) (settle_size' (n := M + 1) (by rw [plus_size]; omega))
      have hset : ∀ F q, q ≤ M → (settleH (M + 1) (Z.plus F)).get q = Z.get q := fun F q hq => (settle_lo (by omega)).trans (plus_get F (by omega))
      refine ⟨rfl, fin46 hM (by omega) (hsl _) (hss _) ((hset _ _ (by omega)).trans hZ1) ((hset _ _ (by omega)).trans ((hZg _ (by omega) (by omega) (by omega)).trans hY2)) ((hset _ _ (by omega)).trans ((hZg _ (by omega) (by omega) (by omega)).trans hYL)) (rows' := r1 ++ (b, .cells (ver + 1) 0 26 3 true (clP (ps ++ [((p1 : Int), (p2 : Int), (p3 : Int))]))) :: r2) ?_ (hT1.app (show TabM ((w, ps ++ [((p1 : Int), (p2 : Int), (p3 : Int))]) :: tb2) ((strK w, .sl b (ver + 1) 0 (ps.length + 1) none, c') :: es2) ((b, .cells (ver + 1) 0 26 3 true (clP (ps ++ [((p1 : Int), (p2 : Int), (p3 : Int))]))) :: r2) from ⟨⟨rfl, by simp, ver + 1, by simp, rfl⟩, hT2⟩)) ?_ ?_ ?_ ?_⟩
      · intro p hp
        rcases List.mem_append.1 hp with hp | hp
        · have hq := hrM p (List.mem_append_left _ hp)
          have hq2 := hlo p (List.mem_append_left _ hp)
          exact (hset _ _ (by omega)).trans ((hZg _ (hne1 p hp) (by omega) (by omega)).trans (hYr p (List.mem_append_left _ hp)))
        · rcases List.mem_cons.1 hp with rfl | hp
          · exact (hset _ _ (by simp only; omega)).trans hZb
          · have hq := hrM p (List.mem_append_right _ (List.mem_cons_of_mem _ hp))
            have hq2 := hlo p (List.mem_append_right _ (List.mem_cons_of_mem _ hp))
            exact (hset _ _ (by omega)).trans ((hZg _ (hne2 p hp) (by omega) (by omega)).trans (hYr p (List.mem_append_right _ (List.mem_cons_of_mem _ hp))))
      · intro p hp
        have hmx := Nat.le_max_left mx (b + 1)
        have hkey : ∃ q ∈ r1 ++ (b, AObj.cells ver 0 26 3 true (clP ps)) :: r2, q.1 = p.1 := by
          rcases List.mem_append.1 hp with hp | hp
          · exact ⟨p, List.mem_append_left _ hp, rfl⟩
          · rcases List.mem_cons.1 hp with rfl | hp
            · exact ⟨_, List.mem_append_right _ (List.mem_cons_self ..), rfl⟩
            · exact ⟨p, List.mem_append_right _ (List.mem_cons_of_mem _ hp), rfl⟩
        obtain ⟨q, hq, he⟩ := hkey
        have := hlo q hq
        rw [he] at this
        exact ⟨this.1, Nat.lt_of_lt_of_le this.2 hmx⟩
      · rw [List.map_append, List.map_cons] at hnd ⊢
        exact hnd
      · intro p hp
        left
        rcases List.mem_append.1 hp with hp | hp
        · exact ⟨p, List.mem_append_left _ hp, rfl⟩
        · rcases List.mem_cons.1 hp with rfl | hp
          · exact ⟨_, List.mem_append_right _ (List.mem_cons_self ..), rfl⟩
          · exact ⟨p, List.mem_append_right _ (List.mem_cons_of_mem _ hp), rfl⟩
      · intro q hq hq1 hq4 hnk
        rw [hset _ _ (by omega), hZg q (fun e => hnk ⟨_, List.mem_append_right _ (List.mem_cons_self ..), e.symm⟩) hq1 (by omega)]
        exact hYg q hq4 hq
    · have hfind : findKeyA Try.prog 9 (strK w) es 0 = some none := by
        have h := find_skip Try.prog 9 w es (s.map (·.1)) 0 [] (by rw [hT.keys, List.map_map]; rfl) hin
        rw [List.append_nil] at h
        exact h
      have hlook : ∀ F, lookupA Try.prog (Y.plus F) 102 (.mp (N + 1)) (.v (.string w)) false = some (.v (.slice none 0 0)) := fun F => look_out ((plus_get F (by omega)).trans hY1) hfind false
      obtain ⟨Z, hZ⟩ : ∃ Z, Y.put (N + 1) (.map (Nat.max mx (M + 1 + 7 + 1)) (es ++ [(strK w, .sl (M + 1 + 7) 0 0 1 none, c)]) (c + 1)) = Z := ⟨_, rfl⟩
      have hupd : ∀ F, updateA Try.prog (Y.plus F) 102 (.mp (N + 1)) (.v (.string w)) (.sl (M + 1 + 7) 0 0 1 none) = some (Z.plus F) := fun F => by
        refine (upd_out (G := Y.plus F) ((plus_get F (by omega)).trans hY1) (by show Y.lock ≤ _; omega) hfind _).trans ?_
        rw [putLo (by omega), ← hZ]; rfl
      simp -implicitDefEqProofs only [go_sem, ↓reduceIte, Int.reduceEq, Int.reduceLT, Int.reduceLE, List.reduceReplicate, intA, setT_nil, setT_cons, ↓boolP_bool, ↓iteB_true, ↓iteB_false, hr2, hrc, g1, g2, g3, hlook, hf1, hupd, hmc, app47, appTo_vs0, List.flatMap_cons, List.flatMap_nil, sizeP hYs, putP0 hYs, putP hYs, settleP0 hYs, settleP hYs, rowP0 hYs, rowP hYs, storeP0 hYs hlkY, storeP hYs hlkY, List.length_nil, Nat.add_zero]
      rw [addT_out w _ s hin] at hp1
      subst hp1
      simp -implicitDefEqProofs only [go_sem, ↓reduceIte, Int.reduceEq, Int.reduceLT, Int.reduceLE, List.reduceReplicate, intA, setT_nil, setT_cons, bd2K_at']
      have hZs : Z.size = M + 1 := by rw [← hZ, put_sizeI _ (by omega)]; exact hYs
      have hZg : ∀ q, q ≠ N + 1 → q ≤ M → Z.get q = Y.get q := fun q hq1 hq2 => by rw [← hZ]; exact put_get_ne _ (by omega) hq1
      have hZ1 : Z.get (N + 1) = some (.map (Nat.max mx (M + 1 + 7 + 1)) (es ++ [(strK w, .sl (M + 1 + 7) 0 0 1 none, c)]) (c + 1)) := by rw [← hZ]; exact put_get_eq _ (by omega)
      have hsl : ∀ F, (settleH (M + 1) (Z.plus F)).lock = H'.lock := fun F => by
        rw [settle_lock, plus_lock, ← hZ]
        exact hYl.trans hlk'.symm
      have hss : ∀ F, M ≤ (settleH (M + 1) (Z.plus F)).size := fun F => Nat.le_trans (Nat.le_succ M) (settle_size' (n := M + 1) (by rw [plus_size]; omega))
      have hset : ∀ F q, q ≤ M → (settleH (M + 1) (Z.plus F)).get q = Z.get q := fun F q hq => (settle_lo (by omega)).trans (plus_get F (by omega))
      have hcl1 : clP [((p1 : Int), (p2 : Int), (p3 : Int))] = [.v (.int .i64 p1), .v (.int .i64 p2), .v (.int .i64 p3)] := by rw [clP_cons]; rfl
      refine fin46 hM (by omega) (hsl _) (hss _) ((hset _ _ (by omega)).trans hZ1) ((hset _ _ (by omega)).trans ((hZg _ (by omega) (by omega)).trans hY2)) ((hset _ _ (by omega)).trans ((hZg _ (by omega) (by omega)).trans hYL)) (rows' := rows ++ [(M + 1 + 7, .cells 0 0 26 3 true (clP [((p1 : Int), (p2 : Int), (p3 : Int))]))]) ?_ (hT.app ⟨⟨rfl, by simp, 0, rfl, rfl⟩, trivial⟩) ?_ ?_ ?_ ?_
      · refine Has.settle (fun p hp => ?_) _
        rcases List.mem_append.1 hp with hp | hp
        · have hq := hrM p hp
          have hq2 := hlo p hp
          exact (plus_get _ (by omega)).trans ((hZg _ (by omega) (by omega)).trans (hYr p hp))
        · obtain rfl := List.mem_singleton.1 hp
          rw [hcl1]
          exact plus_mid_get hZs [none, none, none, none, none, none, none] _ _
      · intro p hp
        have hmx := Nat.le_max_left mx (M + 1 + 7 + 1)
        have hmx2 := Nat.le_max_right mx (M + 1 + 7 + 1)
        rcases List.mem_append.1 hp with hp | hp
        · have := hlo p hp
          exact ⟨this.1, Nat.lt_of_lt_of_le this.2 hmx⟩
        · obtain rfl := List.mem_singleton.1 hp
          exact ⟨by simp only; omega, Nat.lt_of_lt_of_le (Nat.lt_succ_self _) hmx2⟩
      · rw [List.map_append]
        refine List.nodup_append.2 ⟨hnd, by simp, fun q hq q' hq' => ?_⟩
        obtain ⟨p, hp, rfl⟩ := List.mem_map.1 hq
        simp only [List.map_cons, List.map_nil, List.mem_singleton] at hq'
        have := hrM p hp
        omega
      · intro p hp
        rcases List.mem_append.1 hp with hp | hp
        · exact Or.inl ⟨p, hp, rfl⟩
        · obtain rfl := List.mem_singleton.1 hp
          exact Or.inr (by simp only; omega)
      · intro q hq hq1 hq4 hnk
        rw [hset _ _ (by omega), hZg q hq1 (by omega)]
        exact hYg q hq4 hq
  · intro p hp
    rw [List.append_nil] at hp
    unfold base46 at hp
    simp only [List.mem_cons, List.not_mem_nil, or_false] at hp
    rcases hp with rfl | rfl
    · exact hG1
    · exact hG2
  · rw [hGs, hrun.2]
    rintro m' H' ⟨es, mx, c, rows, hT, hlo, hnd, rfl⟩ hH1 hd hdd hmv hsz'
    have hkl : H'.lock = X.lock := by rw [hmv.lock]; exact hGl
    have hkill : killAll [N + 3] H' = some (H'.put (N + 3) .dead) := by
      unfold killAll
      rw [hd]
      simp only
      rw [if_pos (by omega)]
      unfold killAll; rfl
    have hDg : ∀ q, q ≠ N + 3 → q < H'.size → (H'.put (N + 3) .dead).get q = H'.get q := fun q hq hq2 => put_get_ne _ (by omega) hq
    have hD2 : (H'.put (N + 3) .dead).get (N + 2) = some (.cells 0 (N + 2) 102 1 false [.mp (N + 1)]) := (hDg _ (by omega) (by omega)).trans (hH1 (N + 2, _) (List.mem_append_left _ (by unfold base46; simp)))
    have hD1 : (H'.put (N + 3) .dead).get (N + 1) = some (.map mx es c) := (hDg _ (by omega) (by omega)).trans (hH1 (N + 1, _) (List.mem_append_left _ (by unfold base46; simp)))
    have hrD := row_of (v := 0) (show H'.get (N + 2) = some (.cells 0 (N + 2) 102 1 false [.mp (N + 1)]) from hH1 (N + 2, _) (List.mem_append_left _ (by unfold base46; simp)))
    have hDs : (H'.put (N + 3) .dead).size = H'.size := put_sizeI _ (by omega)
    obtain ⟨U, hU⟩ : ∃ U, H'.size = U := ⟨_, rfl⟩
    rw [hU] at hDs
    simp -implicitDefEqProofs only [go_sem, ↓reduceIte, Int.reduceEq, Int.reduceLT, Int.reduceLE, List.reduceReplicate, intA, setT_nil, setT_cons, ↓boolP_bool, ↓iteB_true, ↓iteB_false, hkill, hrD, hDs, settle_eqN hDs, trim_eqN hDs]
    rw [← hKK]
    subst hN
    refine ⟨rfl, hkl, by rw [hDs]; omega, fun b hb => ?_, es, mx, c, rows, hT, fun p hp => ?_, hnd, hD1, fun p hp => ?_⟩
    · rw [hDg b (by omega) (by omega), hmv.same b (by omega) ?_]
      · exact hGlo b hb
      · rw [List.append_nil]
        unfold base46
        rintro ⟨p, hp, he⟩
        simp only [List.mem_cons, List.not_mem_nil, or_false] at hp
        rcases hp with rfl | rfl <;> (simp only at he; omega)
    · have := hlo p hp
      exact ⟨by omega, this.2⟩
    · have h := hH1 p (List.mem_append_right _ hp)
      have := hlo p hp
      rw [hDg _ (by omega) (get_ltS h)]; exact h
end Go.Ev
namespace Go.Ev
open Go.Proofs Go.Sort
set_option maxRecDepth 100000
set_option linter.unusedSimpArgs false
attribute [local irreducible] Wp WpS
/-! ### a call of placesByWord -/
theorem call46 {e : Exts} (he : Quiet e) {t : Txt} {ch : AV} {xs : List AV} (hch : SlOf 2 xs ch) (hall : All2 ChapA t xs) (hok : ∀ y ∈ xs, OkCh2 y) (hlen : xs.length < 2 ^ 63) (hw : (wordsT 0 t).length < 2 ^ 31) (X : Heap) (hlk : X.lock ≤ X.size) (me : FuncId) (d : Option Tmp) :
    ∃ Y, callA (Cx e) (lim (Cx e)) me 50 d [.agg [ch]] X = some (.mp (X.size + 1), Y) ∧ Q46 X (tabW (wordsT 0 t) []) (.mp (X.size + 1)) Y := by
  have h := fn46 he hch hall hok hlen hw X hlk
  unfold Fn' at h
  rw [bindO_iff] at h
  obtain ⟨o, h1, h2⟩ := h
  cases o with
  | ret v H' =>
    obtain ⟨rfl, h3⟩ := h2
    refine ⟨H', ?_, rfl, h3⟩
    have hk : callKind (Cx e) me 50 d [.agg [ch]] = 0 := by unfold callKind; rw [show (Cx e).pure me 50 d = false from by simp [Cx, pureF, impF, impC]]; rfl
    unfold callA callB
    rw [ext_50 he]
    simp only [hk, h1]
    refine congrArg some (Prod.ext rfl ?_)
    show H'.trim X.size [.mp (X.size + 1)] [] = H'
    unfold Heap.trim
    rw [if_neg]
    rw [Bool.and_eq_true, Bool.and_eq_true, Bool.and_eq_true, Nat.ble_eq]
    have : boundL [AV.mp (X.size + 1)] = X.size + 2 := rfl
    rw [this]
    exact fun g => by have := g.1.1.1; omega
  | _ => exact h2.elim
end Go.Ev
namespace Go.Ev
open Go.Proofs Go.Sort
set_option maxRecDepth 100000
set_option linter.unusedSimpArgs false
attribute [local irreducible] Wp WpS
/-! ### Places -/
def getT (w : ByteArray) : TbW → List P3
  | [] => []
  | x :: r => if x.1 = w then x.2 else getT w r
def placesL (w : ByteArray) (l : List (Plc × ByteArray)) : List P3 := (l.filter fun y => decide (y.2 = w)).map fun y => plI y.1
theorem get_add (w w' : ByteArray) (p : P3) : ∀ s : TbW, getT w (addT w' p s) = if w' = w then getT w s ++ [p] else getT w s
  | [] => by
    unfold addT getT
    by_cases h : w' = w
    · rw [if_pos h, if_pos h]; rfl
    · rw [if_neg h, if_neg h]; rfl
  | x :: r => by
    have ih := get_add w w' p r
    unfold addT
    by_cases h : x.1 = w'
    · rw [if_pos h]
      by_cases h2 : w' = w
      · rw [if_pos h2]
        show (if x.1 = w then x.2 ++ [p] else _) = (if x.1 = w then x.2 else _) ++ [p]
        rw [if_pos (h.trans h2), if_pos (h.trans h2)]
      · rw [if_neg h2]
        show (if x.1 = w then _ else getT w r) = (if x.1 = w then _ else getT w r)
        rw [if_neg (fun e => h2 (h.symm.trans e)), if_neg (fun e => h2 (h.symm.trans e))]
    · rw [if_neg h]
      show (if x.1 = w then x.2 else getT w (addT w' p r)) = _
      rw [ih]
      by_cases h2 : w' = w
      · rw [if_pos h2, if_pos h2]
        show _ = (if x.1 = w then x.2 else getT w r) ++ [p]
        rw [if_neg (fun e => h (e.trans h2.symm)), if_neg (fun e => h (e.trans h2.symm))]
      · rw [if_neg h2, if_neg h2]; rfl
theorem get_tab (w : ByteArray) : ∀ (l : List (Plc × ByteArray)) (s : TbW), getT w (tabW l s) = getT w s ++ placesL w l
  | [], s => by show getT w s = _ ++ []; rw [List.append_nil]
  | y :: r, s => by
    show getT w (tabW r (addT y.2 (plI y.1) s)) = _
    rw [get_tab w r, get_add]
    unfold placesL
    by_cases h : y.2 = w
    · rw [if_pos h, List.filter_cons, if_pos (decide_eq_true h), List.append_assoc]; rfl
    · rw [if_neg h, List.filter_cons, if_neg (by simp [h])]
theorem getT_in (w : ByteArray) (ps : List P3) (b : TbW) : ∀ a : TbW, w ∉ a.map (·.1) → getT w (a ++ (w, ps) :: b) = ps
  | [], _ => by show (if w = w then _ else _) = _; rw [if_pos rfl]
  | x :: a, h => by
    simp only [List.map_cons, List.mem_cons, not_or] at h
    show (if x.1 = w then _ else getT w (a ++ (w, ps) :: b)) = _
    rw [if_neg (fun e => h.1 e.symm), getT_in w ps b a h.2]
theorem getT_out (w : ByteArray) : ∀ a : TbW, w ∉ a.map (·.1) → getT w a = []
  | [], _ => rfl
  | x :: a, h => by
    simp only [List.map_cons, List.mem_cons, not_or] at h
    show (if x.1 = w then _ else getT w a) = _
    rw [if_neg (fun e => h.1 e.symm), getT_out w a h.2]
/-- what is looked up in the map that is left behind -/
theorem look_tab {G : Heap} {tb : TbW} {es : List (AV × AV × Nat)} {rows : Fm} {mb mx c : Nat} (hT : TabM tb es rows) (hg : G.get mb = some (.map mx es c)) (hr : Has rows G) (w : ByteArray) :
    (getT w tb = [] ∧ w ∉ tb.map (·.1) ∧ lookupA Try.prog G 102 (.mp mb) (strK w) false = some (.v (.slice none 0 0))) ∨
    (getT w tb ≠ [] ∧ w ∈ tb.map (·.1) ∧ ∃ b v, keyIn b rows ∧ G.row b v = some (0, 26, 3, true, clP (getT w tb)) ∧ lookupA Try.prog G 102 (.mp mb) (strK w) false = some (.sl b v 0 (getT w tb).length none)) := by
  by_cases hin : w ∈ tb.map (·.1)
  · right
    obtain ⟨tb1, x, tb2, es1, en, es2, r1, r, r2, rfl, rfl, hn1, rfl, rfl, hT1, hTx, hT2⟩ := hT.split w hin
    obtain ⟨hk, hps, ver, hv, hrr⟩ := hTx
    obtain ⟨w, ps⟩ := x
    obtain ⟨k', v', c'⟩ := en
    obtain ⟨b, ob⟩ := r
    simp only at hk hps hv hrr
    subst hk hv hrr
    rw [getT_in w ps tb2 tb1 hn1]
    have hfind : findKeyA Try.prog 9 (strK w) (es1 ++ (strK w, .sl b ver 0 ps.length none, c') :: es2) 0 = some (some (es1.length, .sl b ver 0 ps.length none)) := by
      rw [find_skip Try.prog 9 w es1 (tb1.map (·.1)) 0 _ (by rw [hT1.keys, List.map_map]; rfl) hn1, find_here, Nat.zero_add]
    refine ⟨hps, hin, b, ver, ⟨(b, .cells ver 0 26 3 true (clP ps)), by simp, rfl⟩, ?_, look_in hg hfind false⟩
    exact get_row (hr (b, .cells ver 0 26 3 true (clP ps)) (by simp))
  · left
    have hfind : findKeyA Try.prog 9 (strK w) es 0 = some none := by
      have h := find_skip Try.prog 9 w es (tb.map (·.1)) 0 [] (by rw [hT.keys, List.map_map]; rfl) hin
      rw [List.append_nil] at h
      exact h
    exact ⟨getT_out w tb hin, hin, look_out hg hfind false⟩
theorem freeze_plsK (H : Heap) (b v : Nat) (f : List P3) (hf : f ≠ []) (hk : H.lock = 0) (hr : H.row b v = some (0, 26, 3, true, clP f)) (k : Nat) : freezeV H (k + 1) (.sl b v 0 f.length none) = some (plsV f) := by
  have : plsV f = .vs 3 (f.map p3V) none := by cases f with | nil => exact absurd rfl hf | cons r f => rfl
  rw [this, ← chunk_pls f]
  unfold freezeV
  simp only [hr, hk]
  rw [if_neg (by omega), if_pos ⟨by rw [clP_len]; omega, by omega⟩, if_pos trivial, List.drop_zero, List.take_of_length_le (by rw [clP_len]; omega)]
theorem freeze_two {H : Heap} {x y : AV} (h : ∀ k, freezeV H (k + 1) x = some y) : freezeV H 1000000 (.tup [x, .v (.int .i64 0)]) = some (.tup [y, .v (.int .i64 0)]) := by
  have e1 : freezeL H 999999 [x, .v (.int .i64 0)] = some [y, .v (.int .i64 0)] := by
    show (match freezeV H (999997 + 1) x, freezeL H 999998 [.v (.int .i64 0)] with | some y, some ys => some (y :: ys) | _, _ => none) = _
    rw [h]; rfl
  show (freezeL H 999999 [x, .v (.int .i64 0)]).map AV.tup = _
  rw [e1]; rfl
set_option maxHeartbeats 2000000 in
theorem ans21 {e : Exts} (he : Quiet e) {t : Txt} (ht : Fits t) (htx : textB t = true) {ch : AV} {xs : List AV} (hch : SlOf 2 xs ch) (hall : All2 ChapA t xs) (w : ByteArray) (hws : w.size < 2 ^ 63) (hwb : wordB w = true) :
    Ans (Cx e) 18 [.agg [ch], .v (.string w)] (.tup [plsV (placesL w (wordsT 0 t)), .v (.int .i64 0)]) := by
  have hs := small_of htx
  have h40 := call40 he t ht ch ⟨xs, hch, hall⟩
  rw [htx, if_pos rfl] at h40
  have h49 := fun me d H => (ans49 he w hws).call (me := me) (d := d) (ext_49 he) (pure_49 _ _ _) rfl H
  rw [hwb] at h49
  have hlx : xs.length < 2 ^ 63 := by rw [← hall.1]; exact ht.chs
  have hwn : (wordsT 0 t).length < 2 ^ 31 := by have := wordsT_small hs; omega
  unfold Ans
  rw [fn_step (fn_18 e) (show Try.f18.body = some _ from rfl)]
  simp -implicitDefEqProofs only [Try.f18, go_sem, ↓reduceIte, Int.reduceEq, Int.reduceLT, Int.reduceLE, List.reduceReplicate, intA, setT_nil, setT_cons, ↓boolP_bool, ↓iteB_true, ↓iteB_false, hch.cells, hch.flat, hch.bound, h40, h49]
  obtain ⟨Y, hc, -, hYl, hYs, hYlo, es, mx, c, rows, hT, hlo, hnd, hg, hr⟩ := call46 he hch hall (okCh2_of ht hall) hlx hwn { objs := [some (AObj.cells 0 0 24 1 false [ch]), some (AObj.cells 0 0 89 1 false [ch])], lock := 0 } (Nat.zero_le _) 18 (some 20)
  have hgt := get_tab w (wordsT 0 t) []
  rw [show getT w [] = [] from rfl, List.nil_append] at hgt
  have hlt := look_tab hT hg hr w
  rw [hgt] at hlt
  unfold strK at hlt
  generalize placesL w (wordsT 0 t) = ps at hlt ⊢
  rcases hlt with ⟨rfl, -, h1⟩ | ⟨h0, -, b, v, hk, hrow, h1⟩
  · simp only [hc, h1, bindO_some]
    rfl
  · simp only [hc, h1, bindO_some]
    have hb : b < Y.size := get_ltS (row_of_get hrow)
    have hrow2 : (Heap.mk (settleH 2 Y).objs 0).row b v = some (0, 26, 3, true, clP ps) := by
      have hH : Has [(b, .cells v 0 26 3 true (clP ps))] Y := fun p hp => by obtain rfl := List.mem_singleton.1 hp; exact row_of_get hrow
      exact get_row ((hH.settle 2) (b, .cells v 0 26 3 true (clP ps)) (List.mem_cons_self ..))
    show freezeV (Heap.mk (settleH 2 Y).objs 0) 1000000 (.tup [.sl b v 0 ps.length none, .v (.int .i64 0)]) = _
    exact freeze_two fun k => freeze_plsK _ b v ps h0 rfl hrow2 k
end Go.Ev
namespace Go.Ev
open Go.Proofs
set_option maxRecDepth 100000
set_option linter.unusedSimpArgs false
attribute [local irreducible] Wp WpS
/-! ### the reference's Places -/
def plcOf (w : ByteArray) (l : List (Plc × ByteArray)) : List Plc := (l.filter fun x => decide (x.2 = w)).map (·.1)
theorem plcOf_step (w : ByteArray) {l : List (Plc × ByteArray)} {i : Nat} {x : Plc × ByteArray} (h : l[i]? = some x) : plcOf w (l.take (i + 1)) = plcOf w (l.take i) ++ if x.2 = w then [x.1] else [] := by
  unfold plcOf
  rw [List.take_add_one, h, List.filter_append, List.map_append]
  by_cases hx : x.2 = w <;> simp [hx]
theorem freeze_plN' (H : Heap) (b v k : Nat) (f : List Plc) (hf : f ≠ []) (hk : H.lock = 0) (hr : H.row b v = some (0, 26, 3, true, clN f)) : freezeV H (k + 1) (.sl b v 0 f.length none) = some (plsN f) := by
  have : plsN f = .vs 3 (f.map plN) none := by cases f with | nil => exact absurd rfl hf | cons r f => rfl
  rw [this, ← chunk_plN f]
  unfold freezeV
  simp only [hr, hk]
  rw [if_neg (by omega), if_pos ⟨by rw [clN_len]; omega, by omega⟩, if_pos trivial, List.drop_zero, List.take_of_length_le (by rw [clN_len]; omega)]
theorem freeze_tup_int {H : Heap} {x y : AV} (h : freezeV H (999997 + 1) x = some y) (n : Int) : freezeV H 1000000 (.tup [x, .v (.int .i64 n)]) = some (.tup [y, .v (.int .i64 n)]) := by
  have e1 : freezeL H 999999 [x, .v (.int .i64 n)] = some [y, .v (.int .i64 n)] := by
    show (match freezeV H (999997 + 1) x, freezeL H 999998 [.v (.int .i64 n)] with | some y, some ys => some (y :: ys) | _, _ => none) = _
    rw [h]; rfl
  show (freezeL H 999999 [x, .v (.int .i64 n)]).map AV.tup = _
  rw [e1]; rfl
def In19 (ch : AV) (w : ByteArray) (p : AV) (i : Nat) (f : List Plc) (a : AAct) (H : Heap) : Prop :=
  (f = [] ∧ a = ⟨39, [(0, .agg [ch]), (1, .v (.string w)), (2, .ptr 0 0 0), (4, .v (.slice none 0 0)), (5, intA 0), (11, .v (.bool false)), (14, .v (.bool false)), (6, .v (.slice none 0 0)), (7, p), (8, intA i)], []⟩ ∧ H = ⟨[some (.cells 0 0 24 1 false [ch])], 0⟩) ∨
  ∃ v, f ≠ [] ∧ a = ⟨39, [(0, .agg [ch]), (1, .v (.string w)), (2, .ptr 0 0 0), (4, .v (.slice none 0 0)), (5, intA 0), (11, .v (.bool false)), (14, .v (.bool false)), (6, .sl 1 v 0 f.length none), (7, p), (8, intA i)], []⟩ ∧ H = ⟨[some (.cells 0 0 24 1 false [ch]), some (.cells v 0 26 3 true (clN f))], 0⟩
theorem callIR47 {e : Exts} (he : Quiet e) {t : Txt} (ht : Fits t) {ch : AV} {xs : List AV} (hch : SlOf 2 xs ch) (hall : All2 ChapA t xs) {n : Nat} {x : Plc × ByteArray} (hx : (wordsT 0 t)[n]? = some x) (me : FuncId) (d : Option Tmp) : callI (Cx e) me 47 d [.agg [ch], .agg [.v (.int .i64 x.1.1), .v (.int .i64 x.1.2.1), .v (.int .i64 x.1.2.2)]] = some (.v (.string x.2)) := by
  obtain ⟨ln, hL, hc⟩ := words_at hx
  exact (ansR47 (e := e) t ht ch xs hch hall x.1.1 x.1.2.1 x.1.2.2 ln hL x.2 hc).callI (ext_47 he) (pure_47 e me d) (by simp only [boundL_cons, bound_agg, hch.bound, boundL_nil]; rfl)
theorem plcOf_le (w : ByteArray) (l : List (Plc × ByteArray)) : (plcOf w l).length ≤ l.length := by unfold plcOf; rw [List.length_map]; exact List.length_filter_le _ _
set_option maxHeartbeats 2000000 in
theorem ansR19 {e : Exts} (he : Quiet e) (t : Txt) (ht : Fits t) (hs : (wordsT 0 t).length < 2 ^ 33) (ch : AV) (xs : List AV) (hch : SlOf 2 xs ch) (hall : All2 ChapA t xs) (w : ByteArray) (hws : w.size < 2 ^ 63) : Ans (Cx e) 19 [.agg [ch], .v (.string w)] (if textB t = false then .tup [.v (.slice none 0 0), intA 10] else if wordB w = false then .tup [.v (.slice none 0 0), intA 2] else .tup [plsN (plcOf w (wordsT 0 t)), intA 0]) := by
  have h39 := fun me d H => call39 he t ht _ ⟨ch, rfl, xs, hch, hall⟩ me d H
  have h61 := fun me d H => call61 he w hws me d H
  unfold Ans
  rw [fn_step (fn_19 e) (show Try.f19.body = some _ from rfl)]
  cases h1 : textB t
  · rw [h1] at h39
    simp -implicitDefEqProofs only [Try.f19, go_sem, ↓reduceIte, Int.reduceEq, Int.reduceLT, Int.reduceLE, List.reduceReplicate, intA, setT_nil, setT_cons, hch.cells, hch.flat, hch.bound, h39, ↓boolP_bool, ↓iteB_true, ↓iteB_false, Bool.not_false]
    rfl
  · rw [h1] at h39
    cases h2 : wordB w
    · rw [h2] at h61
      simp -implicitDefEqProofs only [Try.f19, go_sem, ↓reduceIte, Int.reduceEq, Int.reduceLT, Int.reduceLE, List.reduceReplicate, intA, setT_nil, setT_cons, hch.cells, hch.flat, hch.bound, h39, h61, ↓boolP_bool, ↓iteB_true, ↓iteB_false, Bool.not_false, Bool.not_true]
      rfl
    · rw [h2] at h61
      have h43 := fun me d H => callR43 he t ht hs hch hall me d H
      have hsl := plsN_sl (allN t)
      have hlen := hsl.len
      rw [List.length_map, allN_len] at hlen
      simp -implicitDefEqProofs only [Try.f19, go_sem, ↓reduceIte, Int.reduceEq, Int.reduceLT, Int.reduceLE, List.reduceReplicate, intA, setT_nil, setT_cons, hch.cells, hch.flat, hch.bound, h39, h61, h43, ↓boolP_bool, ↓iteB_true, ↓iteB_false, Bool.not_true]
      have hlenI := hsl.lenI
      refine Lp_rule (P := fun μ a H => ∃ i, i + μ = (wordsT 0 t).length ∧ In19 ch w (plsN (allN t)) i (plcOf w ((wordsT 0 t).take i)) a H) ?_ (wordsT 0 t).length _ _ ⟨0, by omega, Or.inl ⟨rfl, rfl, rfl⟩⟩
      rintro μ a H ⟨i, hi, hin⟩
      by_cases hil : i < (wordsT 0 t).length
      · obtain ⟨y, hy⟩ := at_lt (wordsT 0 t) i hil
        have hix := hsl.idx (show ((allN t).map plN)[i]? = some (plN y.1) by rw [List.getElem?_map, allN_get hy]; rfl)
        unfold plN intA at hix
        have hlt : (i : Int) < ((wordsT 0 t).length : Int) := by omega
        have hw := wrap_succ i (by omega)
        have h47 := fun me d => callIR47 he ht hch hall hy me d
        have hst := plcOf_step w hy
        have hle : (plcOf w ((wordsT 0 t).take i)).length ≤ (wordsT 0 t).length := Nat.le_trans (plcOf_le _ _) (by rw [List.length_take]; omega)
        generalize plcOf w ((wordsT 0 t).take i) = f at *
        have hf24 : fitsA 24 1 = true := by decide
        cases he : decide (y.2 = w)
        · rw [if_neg (of_decide_eq_false he), List.append_nil] at hst
          rcases hin with ⟨rfl, rfl, rfl⟩ | ⟨v, hf, rfl, rfl⟩
          · simp -implicitDefEqProofs only [go_sem, ↓reduceIte, Int.reduceEq, Int.reduceLT, Int.reduceLE, List.reduceReplicate, intA, setT_nil, setT_cons, hch.cells, hch.flat, hch.bound, hsl.bound, hlen, hlt]
            refine wp_draw (by kernel_rfl) ?_
            simp -implicitDefEqProofs only [go_sem, ↓reduceIte, Int.reduceEq, Int.reduceLT, Int.reduceLE, List.reduceReplicate, intA, setT_nil, setT_cons, hch.cells, hch.flat, hch.bound, hsl.bound, hlen, hlenI, hlt, hix, h47, he, hw, ↓boolP_bool, ↓iteB_true, ↓iteB_false, trim_at]
            exact ⟨μ - 1, by omega, i + 1, by omega, Or.inl ⟨hst, rfl, rfl⟩⟩
          · simp -implicitDefEqProofs only [go_sem, ↓reduceIte, Int.reduceEq, Int.reduceLT, Int.reduceLE, List.reduceReplicate, intA, setT_nil, setT_cons, hch.cells, hch.flat, hch.bound, hsl.bound, hlen, hlt]
            refine wp_draw (by kernel_rfl) ?_
            simp -implicitDefEqProofs only [go_sem, ↓reduceIte, Int.reduceEq, Int.reduceLT, Int.reduceLE, List.reduceReplicate, intA, setT_nil, setT_cons, hch.cells, hch.flat, hch.bound, hsl.bound, hlen, hlenI, hlt, hix, h47, he, hw, ↓boolP_bool, ↓iteB_true, ↓iteB_false, trim_at, bound_sl]
            exact ⟨μ - 1, by omega, i + 1, by omega, Or.inr ⟨v, by rw [hst]; exact hf, by rw [hst]; rfl, by rw [hst]⟩⟩
        · rw [if_pos (of_decide_eq_true he)] at hst
          rcases hin with ⟨rfl, rfl, rfl⟩ | ⟨v, hf, rfl, rfl⟩
          · simp -implicitDefEqProofs only [go_sem, ↓reduceIte, Int.reduceEq, Int.reduceLT, Int.reduceLE, List.reduceReplicate, intA, setT_nil, setT_cons, hch.cells, hch.flat, hch.bound, hsl.bound, hlen, hlt]
            refine wp_draw (by kernel_rfl) ?_
            simp -implicitDefEqProofs only [go_sem, ↓reduceIte, Int.reduceEq, Int.reduceLT, Int.reduceLE, List.reduceReplicate, intA, setT_nil, setT_cons, hch.cells, hch.flat, hch.bound, hsl.bound, hlen, hlenI, hlt, hix, h47, he, hw, hf24, ↓boolP_bool, ↓iteB_true, ↓iteB_false, trim_at, trim_not, bound_sl, List.flatMap_cons, List.flatMap_nil]
            exact ⟨μ - 1, by omega, i + 1, by omega, Or.inr ⟨0, by rw [hst]; simp, by rw [hst]; rfl, by rw [hst]; rfl⟩⟩
          · simp -implicitDefEqProofs only [go_sem, ↓reduceIte, Int.reduceEq, Int.reduceLT, Int.reduceLE, List.reduceReplicate, intA, setT_nil, setT_cons, hch.cells, hch.flat, hch.bound, hsl.bound, hlen, hlt]
            refine wp_draw (by kernel_rfl) ?_
            simp -implicitDefEqProofs only [go_sem, ↓reduceIte, Int.reduceEq, Int.reduceLT, Int.reduceLE, List.reduceReplicate, intA, setT_nil, setT_cons, hch.cells, hch.flat, hch.bound, hsl.bound, hlen, hlenI, hlt, hix, h47, he, hw, hf24, ↓boolP_bool, ↓iteB_true, ↓iteB_false, trim_at, trim_not, bound_sl, List.flatMap_cons, List.flatMap_nil]
            rw [appTo_own (m := 0) (e' := 26) (cs := clN f) (by simp [Heap.row, Heap.get]) (by rw [clN_len]) (Nat.zero_le _) (by unfold fitsA; exact decide_eq_true (by omega)) (by omega) (by omega)]
            simp -implicitDefEqProofs only [go_sem, ↓reduceIte, Int.reduceEq, Int.reduceLT, Int.reduceLE, List.reduceReplicate, intA, setT_nil, setT_cons, hch.bound, hsl.bound, hw, trim_at, bound_sl, List.flatMap_cons, List.flatMap_nil]
            exact ⟨μ - 1, by omega, i + 1, by omega, Or.inr ⟨v + 1, by rw [hst]; simp, by rw [hst]; simp [intA], by rw [hst, clN_append]; simp [intA, clN]⟩⟩
      · obtain rfl : i = (wordsT 0 t).length := by omega
        rw [List.take_length] at hin
        rcases hin with ⟨hf, rfl, rfl⟩ | ⟨v, hf, rfl, rfl⟩
        · simp -implicitDefEqProofs only [go_sem, ↓reduceIte, Int.reduceEq, Int.reduceLT, Int.reduceLE, List.reduceReplicate, intA, setT_nil, setT_cons, hch.cells, hch.bound, hsl.bound, hlen, Int.lt_irrefl]
          rw [hf]; rfl
        · have hfz := freeze_plN' ⟨[some (.cells 0 0 24 1 false [ch]), some (.cells v 0 26 3 true (clN (plcOf w (wordsT 0 t))))], 0⟩ 1 v 999997 _ hf rfl (by simp [Heap.row, Heap.get])
          simp -implicitDefEqProofs only [go_sem, ↓reduceIte, Int.reduceEq, Int.reduceLT, Int.reduceLE, List.reduceReplicate, intA, setT_nil, setT_cons, hch.cells, hch.bound, hsl.bound, hlen, Int.lt_irrefl]
          exact freeze_tup_int hfz 0
end Go.Ev
namespace Go.Ev
open Go.Proofs Go.Sort
set_option maxRecDepth 100000
set_option linter.unusedSimpArgs false
attribute [local irreducible] Wp WpS
instance lawBA : LawfulBEq ByteArray where
  eq_of_beq {a b} h := by
    obtain ⟨a⟩ := a
    obtain ⟨b⟩ := b
    have h' : (a == b) = true := h
    rw [eq_of_beq h']
  rfl {a} := by
    obtain ⟨a⟩ := a
    show (a == a) = true
    exact beq_self_eq_true a
/-! ### rows of words -/
def clW (ws : List ByteArray) : List AV := ws.map strK
theorem clW_len (ws : List ByteArray) : (clW ws).length = ws.length := by unfold clW; rw [List.length_map]
theorem clW_flat (ws : List ByteArray) : (clW ws).all AV.flat = true := List.all_eq_true.2 fun x hx => by
  obtain ⟨y, -, rfl⟩ := List.mem_map.1 hx
  rfl
theorem clW_bound (ws : List ByteArray) : boundL (clW ws) = 0 := Nat.le_zero.1 (boundL_le.2 fun x hx => by
  obtain ⟨y, -, rfl⟩ := List.mem_map.1 hx
  exact Nat.le_refl _)
def wdsV (ws : List ByteArray) : AV := match ws with | [] => .v (.slice none 0 0) | _ => .vs 1 (clW ws) none
theorem app41 (H : Heap) (slot : Nat) (s x : AV) : appendA Try.prog H slot [51, 51] [s, x] = appG 9 1 16 H slot s (cellsFrom H 1 x) := app_eq2 (by kernel_rfl) (by kernel_rfl) (by kernel_rfl) (by kernel_rfl) (by decide) (by decide) H slot s x
theorem eqNil41 (t : Tmp) (b v o l : Nat) (c : Option Nat) : binA Try.prog .eql 51 (.tmp t) (.const (.slice none 0 0)) (.sl b v o l c) (.v (.slice none 0 0)) = some (.v (.bool false)) := by
  unfold binA nilEq
  rw [und_51]; rfl
theorem eqNil41n (t : Tmp) : binA Try.prog .eql 51 (.tmp t) (.const (.slice none 0 0)) (.v (.slice none 0 0)) (.v (.slice none 0 0)) = some (.v (.bool true)) := by
  unfold binA nilEq
  rw [und_51]; rfl
/-! ### each word once -/
abbrev St20 := List ByteArray × List ByteArray
def onceW (s : St20) (w : ByteArray) : St20 := if w ∈ s.1 then (s.1.erase w, s.2 ++ [w]) else s
def wI (x : List AV) : ByteArray := match x with | [_, .v (.string w)] => w | _ => ByteArray.empty
def stp20 (s : St20) (x : List AV) : AExit × St20 := (.normal, onceW s (wI x))
def ok20 (s : St20) (x : List AV) : Prop := (∃ y : Plc × ByteArray, x = itW y) ∧ s.2.length < 2 ^ 31
def onceAll (l : List (Plc × ByteArray)) (s : St20) : St20 := l.foldl (fun s y => onceW s y.2) s
theorem onceW_len (s : St20) (w : ByteArray) : (onceW s w).2.length ≤ s.2.length + 1 := by
  unfold onceW
  split
  · simp
  · simp
theorem run20 : ∀ (l : List (Plc × ByteArray)) (s : St20), s.2.length + l.length < 2 ^ 31 → okRun (fun s x => (isGo (stp20 s x).1, (stp20 s x).2)) ok20 (l.map itW) s ∧ foldE stp20 (l.map itW) s = (.normal, onceAll l s)
  | [], s, _ => ⟨trivial, rfl⟩
  | y :: r, s, h => by
    rw [List.length_cons] at h
    have h1 := onceW_len s y.2
    have ih := run20 r (onceW s y.2) (by omega)
    rw [List.map_cons]
    refine ⟨⟨⟨⟨y, rfl⟩, by omega⟩, fun _ => ih.1⟩, ?_⟩
    rw [foldE_go rfl]
    exact ih.2
/-- of all words each that is asked for comes once -/
theorem once_all : ∀ (l : List (Plc × ByteArray)) (s : St20), (s.2 ++ s.1).Nodup → (onceAll l s).2.Nodup ∧ ∀ w, w ∈ (onceAll l s).2 ↔ w ∈ s.2 ∨ (w ∈ s.1 ∧ w ∈ l.map (·.2))
  | [], s, h => ⟨(List.nodup_append.1 h).1, fun w => by simp [onceAll]⟩
  | y :: r, s, h => by
    have hn : ((onceW s y.2).2 ++ (onceW s y.2).1).Nodup := by
      unfold onceW
      split
      · rename_i hin
        obtain ⟨h1, h2, h3⟩ := List.nodup_append.1 h
        refine List.nodup_append.2 ⟨?_, h2.erase _, ?_⟩
        · refine List.nodup_append.2 ⟨h1, by simp, fun a ha b hb => ?_⟩
          obtain rfl := List.mem_singleton.1 hb
          exact h3 a ha _ hin
        · intro a ha b hb
          rcases List.mem_append.1 ha with ha | ha
          · exact h3 a ha b (List.mem_of_mem_erase hb)
          · obtain rfl := List.mem_singleton.1 ha
            intro e
            exact (h2.mem_erase_iff.1 hb).1 e.symm
      · exact h
    obtain ⟨i1, i2⟩ := once_all r (onceW s y.2) hn
    refine ⟨i1, fun w => ?_⟩
    show w ∈ (onceAll r (onceW s y.2)).2 ↔ _
    rw [i2]
    have h2 := (List.nodup_append.1 h).2.1
    unfold onceW
    by_cases hin : y.2 ∈ s.1
    · rw [if_pos hin]
      simp only [List.mem_append, List.map_cons, List.mem_cons, List.not_mem_nil, or_false, h2.mem_erase_iff]
      constructor
      · rintro ((h | rfl) | ⟨⟨h3, h4⟩, h5⟩)
        · exact Or.inl h
        · exact Or.inr ⟨hin, Or.inl rfl⟩
        · exact Or.inr ⟨h4, Or.inr h5⟩
      · rintro (h | ⟨h3, h4 | h4⟩)
        · exact Or.inl (Or.inl h)
        · exact Or.inl (Or.inr h4)
        · by_cases e : w = y.2
          · exact Or.inl (Or.inr e)
          · exact Or.inr ⟨⟨e, h3⟩, h4⟩
    · rw [if_neg hin]
      simp only [List.map_cons, List.mem_cons]
      constructor
      · rintro (h | ⟨h3, h4⟩)
        · exact Or.inl h
        · exact Or.inr ⟨h3, Or.inr h4⟩
      · rintro (h | ⟨h3, h4 | h4⟩)
        · exact Or.inl h
        · exact absurd (h4 ▸ h3) hin
        · exact Or.inr ⟨h3, h4⟩
/-! the keys of the map -/
theorem keys_add (w : ByteArray) (p : P3) : ∀ s : TbW, (addT w p s).map (·.1) = if w ∈ s.map (·.1) then s.map (·.1) else s.map (·.1) ++ [w]
  | [] => rfl
  | x :: r => by
    have ih := keys_add w p r
    unfold addT
    by_cases h : x.1 = w
    · rw [if_pos h, if_pos (by simp [h])]; rfl
    · rw [if_neg h, List.map_cons, ih]
      by_cases h2 : w ∈ r.map (·.1)
      · rw [if_pos h2, if_pos (by rw [List.map_cons]; exact List.mem_cons_of_mem _ h2)]; rfl
      · rw [if_neg h2, if_neg (by rw [List.map_cons, List.mem_cons]; rintro (e | e); exact h e.symm; exact h2 e)]; rfl
theorem keys_tab : ∀ (l : List (Plc × ByteArray)) (s : TbW), (s.map (·.1)).Nodup → ((tabW l s).map (·.1)).Nodup ∧ ∀ w, w ∈ (tabW l s).map (·.1) ↔ w ∈ s.map (·.1) ∨ w ∈ l.map (·.2)
  | [], s, h => ⟨h, fun w => by simp [tabW]⟩
  | y :: r, s, h => by
    have hk := keys_add y.2 (plI y.1) s
    have hn : ((addT y.2 (plI y.1) s).map (·.1)).Nodup := by
      rw [hk]
      split
      · exact h
      · rename_i hn
        refine List.nodup_append.2 ⟨h, by simp, fun a ha b hb => ?_⟩
        obtain rfl := List.mem_singleton.1 hb
        exact fun e => hn (e ▸ ha)
    obtain ⟨i1, i2⟩ := keys_tab r (addT y.2 (plI y.1) s) hn
    refine ⟨i1, fun w => ?_⟩
    show w ∈ (tabW r (addT y.2 (plI y.1) s)).map (·.1) ↔ _
    rw [i2, hk]
    simp only [List.map_cons, List.mem_cons]
    split
    · rename_i hin
      constructor
      · rintro (h | h)
        · exact Or.inl h
        · exact Or.inr (Or.inr h)
      · rintro (h | h | h)
        · exact Or.inl h
        · exact Or.inl (h ▸ hin)
        · exact Or.inr h
    · rw [List.mem_append, List.mem_singleton]
      constructor
      · rintro ((h | h) | h)
        · exact Or.inl h
        · exact Or.inr (Or.inl h)
        · exact Or.inr (Or.inr h)
      · rintro (h | h | h)
        · exact Or.inl (Or.inl h)
        · exact Or.inl (Or.inr h)
        · exact Or.inr h
/-! what is taken out of a map -/
theorem del_in {G : Heap} {mb mx c : Nat} {es : List (AV × AV × Nat)} (hg : G.get mb = some (.map mx es c)) (hl : G.lock ≤ mb) {w : ByteArray} {i : Nat} {v : AV} (hf : findKeyA Try.prog 9 (strK w) es 0 = some (some (i, v))) :
    deleteA Try.prog G [102, 9] [.mp mb, strK w] = some (G.put mb (.map mx (es.eraseIdx i) c)) := by
  unfold deleteA
  simp only [mapOk90, hg, hl, if_true, hf]
theorem split_keys (w : ByteArray) : ∀ (ks : List ByteArray) (es : List (AV × AV × Nat)), es.map (·.1) = ks.map strK → w ∈ ks → ∃ k1 k2 es1 v c es2, ks = k1 ++ w :: k2 ∧ w ∉ k1 ∧ es = es1 ++ (strK w, v, c) :: es2 ∧ es1.map (·.1) = k1.map strK ∧ es2.map (·.1) = k2.map strK
  | [], _, _, h => by cases h
  | k :: ks, [], h, _ => by cases h
  | k :: ks, (a, v, c) :: es, h, hin => by
    simp only [List.map_cons, List.cons.injEq] at h
    by_cases hk : k = w
    · subst hk
      exact ⟨[], ks, [], v, c, es, rfl, by simp, by rw [h.1]; rfl, rfl, h.2⟩
    · obtain ⟨k1, k2, es1, v', c', es2, rfl, h2, rfl, h3, h4⟩ := split_keys w ks es h.2 ((List.mem_cons.1 hin).resolve_left fun e => hk e.symm)
      exact ⟨k :: k1, k2, (a, v, c) :: es1, v', c', es2, rfl, by simp only [List.mem_cons, not_or]; exact ⟨fun e => hk e.symm, h2⟩, rfl, by rw [List.map_cons, List.map_cons, h3, h.1], h4⟩
end Go.Ev
namespace Go.Ev
open Go.Proofs Go.Sort
set_option maxRecDepth 100000
set_option linter.unusedSimpArgs false
attribute [local irreducible] Wp WpS
/-! ### sorting words -/
def srtW (ws : List ByteArray) : List ByteArray := sortL ltW ws
theorem srtW_len (ws : List ByteArray) : (srtW ws).length = ws.length := (sortL_perm _ ws).length_eq
theorem srtW_mem {l : List ByteArray} {w : ByteArray} : w ∈ srtW l ↔ w ∈ l := (sortL_perm _ l).mem_iff
theorem clW_flatE (ws : List ByteArray) : (flatE encW ws).map AV.v = clW ws := by
  unfold flatE clW encW strK
  induction ws with
  | nil => rfl
  | cons a r ih => rw [List.flatMap_cons, List.map_append, ih]; rfl
theorem takeW (ws : List ByteArray) : takeE 1 decW ws.length (clW ws) = some ws := by
  have := takeE_flat codedW [] ws
  rw [List.append_nil, clW_flatE] at this
  exact this
theorem callW66_nil (X : Heap) (me : FuncId) (d : Option Tmp) : callA (Cx eA) (lim (Cx eA)) me 74 d [.v (.slice none 0 0)] X = some (.v (.slice none 0 0), X) := by
  refine callA_rawX (ext_74 quietA) (by simp [Cx, pureF, impF, impC]) ?_
  rw [fn_step (fn_74 eA) (show Try.f74.body = some _ from rfl)]
  generalize hKK : rawX X _ _ = KK
  simp -implicitDefEqProofs only [Try.f74, go_sem, ↓reduceIte, Int.reduceEq, Int.reduceLT, Int.reduceLE, List.reduceReplicate, intA, setT_nil, setT_cons, ↓boolP_bool, ↓iteB_true, ↓iteB_false, eqNil41n]
  rw [← hKK]
  exact rawX_same _ _ rfl
set_option maxHeartbeats 1000000 in
theorem callW66 {X : Heap} {N : Nat} (hN : X.size = N) (ws : List ByteArray) (h0 : ws ≠ []) (hn : ws.length < 2 ^ 33) (b v : Nat) (hb : b < N) (hr : X.row b v = some (0, 9, 1, true, clW ws)) (me : FuncId) (d : Option Tmp) :
    callA (Cx eA) (lim (Cx eA)) me 74 d [.sl b v 0 ws.length none] X = some (.sl N 0 0 ws.length none, X.plus [some (.cells 0 0 9 1 true (clW ws))]) := by
  refine callA_rawX (ext_74 quietA) (by simp [Cx, pureF, impF, impC]) ?_
  rw [fn_step (fn_74 eA) (show Try.f74.body = some _ from rfl)]
  have hv0 : ws.length ≠ 0 := fun h => h0 (List.length_eq_zero_iff.1 h)
  have hf : fitsA 16 ws.length = true := by unfold fitsA; exact decide_eq_true (by omega)
  have hrow : ∀ E, (X.plus E).row b v = some (0, 9, 1, true, clW ws) := fun E => by rw [rowLo (by omega), hr]
  have hl3 := clW_len ws
  generalize hKK : rawX X _ _ = KK
  rw [← plus_nil X]
  simp -implicitDefEqProofs only [Try.f74, go_sem, ↓reduceIte, Int.reduceEq, Int.reduceLT, Int.reduceLE, List.reduceReplicate, intA, setT_nil, setT_cons, ↓boolP_bool, ↓iteB_true, ↓iteB_false, eqNil41, sizeP hN, putP0 hN, putP hN, settleP0 hN, settleP hN, List.length_nil, Nat.add_zero, app41, hrow, hl3, List.take_of_length_le (Nat.le_of_eq hl3), clW_flat, clW_bound, hv0, hf, appTo_vs0]
  rw [← hKK]
  exact rawX_far hN _ _ rfl (Nat.lt_succ_self _)
theorem pureA_67 (me : FuncId) (d : Option Tmp) : (Cx eA).pure me 75 d = false := by simp [Cx, pureF, impF, impC]
theorem callW67 {X : Heap} {N : Nat} (hN : X.size = N) (hlk : X.lock ≤ N) (ws : List ByteArray) (h0 : ws ≠ []) (hn : ws.length < 2 ^ 33) (me : FuncId) (d : Option Tmp) :
    callA (Cx eA) (lim (Cx eA)) me 75 d [.sl N 0 0 ws.length none, .fn (.func 53) [] []] (X.plus [some (.cells 0 0 9 1 true (clW ws))]) = some (.tup [], X.plus [some (.cells 0 0 9 1 true (clW (srtW ws)))]) := by
  have hv0 : ws.length ≠ 0 := fun h => h0 (List.length_eq_zero_iff.1 h)
  have hrow := rowP0 hN [some (.cells 0 0 9 1 true (clW ws))] 0
  have hst := storeP0 hN hlk [some (.cells 0 0 9 1 true (clW ws))] 0 0 (clW (srtW ws))
  have h3 : (clW (srtW ws)).length = (clW ws).length := by rw [clW_len, clW_len, srtW_len]
  have hanti : antiB (ltF cmpW) eqvW ws = true := by rw [ltF_W]; exact antiW ws
  have hg : sortSt67 [.sl N 0 0 ws.length none, .fn (.func 53) [] []] (X.plus [some (.cells 0 0 9 1 true (clW ws))]) = some (.tup [], X.plus [some (.cells 0 0 9 1 true (clW (srtW ws)))]) := by
    unfold sortSt67 sortH
    simp only [if_true, hv0, if_false, hrow, List.getElem?_cons_zero, Option.join_some, objRow_cells]
    rw [if_pos (by omega), List.drop_zero, takeW]
    simp only [hanti, if_true]
    rw [ltF_W, show (flatE encW (sortL ltW ws)).map AV.v = clW (srtW ws) from clW_flatE _, hst]
    simp only [List.getElem?_cons_zero, Option.join_some, stP_cells]
    rw [if_pos (show True ∧ 0 + (clW (srtW ws)).length ≤ (clW ws).length ∧ (clW (srtW ws)).all AV.flat = true from ⟨trivial, by omega, clW_flat _⟩)]
    simp only [Option.map_some, sop_zero, clW_bound]
    rw [show splice 0 (clW (srtW ws)) (clW ws) = clW (srtW ws) from by unfold splice; rw [List.take_zero, List.nil_append, Nat.zero_add, h3, List.drop_length, List.append_nil]]
    rfl
  have hk : callKind (Cx eA) me 75 d [.sl N 0 0 ws.length none, .fn (.func 53) [] []] = 0 := by unfold callKind; rw [pureA_67]; rfl
  have hl : lim (Cx eA) (.call 75 [.sl N 0 0 ws.length none, .fn (.func 53) [] []] (X.plus [some (.cells 0 0 9 1 true (clW ws))])) = some (.ret (.tup []) (X.plus [some (.cells 0 0 9 1 true (clW (srtW ws)))])) := by
    rw [lim_eq]
    have hla : (Cx eA).lay 75 = some sortSt67 := rfl
    simp only [taskA, hla, hg, Option.map_some]
  unfold callA
  rw [ext_75 quietA]
  unfold callB
  simp only [hk, hl]
  rw [show (X.plus [some (.cells 0 0 9 1 true (clW ws))]).size = (X.plus [some (.cells 0 0 9 1 true (clW (srtW ws)))]).size by rw [sizeP hN, sizeP hN]; rfl, trim_size]
theorem callW67_nil (X : Heap) (g : FuncId) (hg : g = 53) (me : FuncId) (d : Option Tmp) : callA (Cx eA) (lim (Cx eA)) me 75 d [.v (.slice none 0 0), .fn (.func g) [] []] X = some (.tup [], X) := by
  subst hg
  have hk : callKind (Cx eA) me 75 d [.v (.slice none 0 0), .fn (.func 53) [] []] = 0 := by unfold callKind; rw [pureA_67]; rfl
  have hl : lim (Cx eA) (.call 75 [.v (.slice none 0 0), .fn (.func 53) [] []] X) = some (.ret (.tup []) X) := by
    rw [lim_eq]
    have hla : (Cx eA).lay 75 = some sortSt67 := rfl
    simp only [taskA, hla]
    rfl
  unfold callA
  rw [ext_75 quietA]
  unfold callB
  simp only [hk, hl]
  rw [trim_size]
/-- in order -/
theorem callW47_nil (X : Heap) (me : FuncId) (d : Option Tmp) : callA (Cx eA) (lim (Cx eA)) me 52 d [.v (.slice none 0 0), .fn (.func 53) [] []] X = some (.v (.slice none 0 0), X) := by
  refine callA_rawX (ext_52 quietA) (by simp [Cx, pureF, impF, impC]) ?_
  rw [fn_step (fn_52 eA) (show Try.f52.body = some _ from rfl)]
  generalize hKK : rawX X _ _ = KK
  simp -implicitDefEqProofs only [Try.f52, go_sem, ↓reduceIte, Int.reduceEq, Int.reduceLT, Int.reduceLE, List.reduceReplicate, intA, setT_nil, setT_cons, ↓boolP_bool, ↓iteB_true, ↓iteB_false, callW66_nil, callW67_nil]
  rw [← hKK]
  exact rawX_same _ _ rfl
theorem callW47 {X : Heap} {N : Nat} (hN : X.size = N) (hlk : X.lock ≤ N) (ws : List ByteArray) (h0 : ws ≠ []) (hn : ws.length < 2 ^ 33) (b v : Nat) (hb : b < N) (hr : X.row b v = some (0, 9, 1, true, clW ws)) (me : FuncId) (d : Option Tmp) :
    callA (Cx eA) (lim (Cx eA)) me 52 d [.sl b v 0 ws.length none, .fn (.func 53) [] []] X = some (.sl N 0 0 ws.length none, X.plus [some (.cells 0 0 9 1 true (clW (srtW ws)))]) := by
  refine callA_rawX (ext_52 quietA) (by simp [Cx, pureF, impF, impC]) ?_
  rw [fn_step (fn_52 eA) (show Try.f52.body = some _ from rfl)]
  have h66 := callW66 hN ws h0 hn b v hb hr
  have h67 := callW67 hN hlk ws h0 hn
  have hb1 : ltB b N = true := by unfold ltB; simp; omega
  rw [← plus_nil X] at h66 ⊢
  generalize hKK : rawX (X.plus []) _ _ = KK
  simp -implicitDefEqProofs only [Try.f52, go_sem, ↓reduceIte, Int.reduceEq, Int.reduceLT, Int.reduceLE, List.reduceReplicate, intA, setT_nil, setT_cons, ↓boolP_bool, ↓iteB_true, ↓iteB_false, h66, h67, sizeP hN, putP0 hN, putP hN, settleP0 hN, settleP hN, List.length_nil, Nat.add_zero]
  rw [← hKK, plus_nil]
  exact rawX_far hN _ _ rfl (Nat.lt_succ_self _)
end Go.Ev
namespace Go.Ev
open Go.Proofs Go.Sort
set_option maxRecDepth 100000
set_option linter.unusedSimpArgs false
attribute [local irreducible] Wp WpS
/-! ### Vocabulary -/
def vocL (t : Txt) : List ByteArray := srtW (onceAll (wordsT 0 t) ((tabW (wordsT 0 t) []).map (·.1), [])).2
theorem voc_mem {t : Txt} {w : ByteArray} : w ∈ vocL t ↔ w ∈ (wordsT 0 t).map (·.2) := by
  unfold vocL
  obtain ⟨k1, k2⟩ := keys_tab (wordsT 0 t) [] (by simp)
  obtain ⟨h1, h2⟩ := once_all (wordsT 0 t) ((tabW (wordsT 0 t) []).map (·.1), []) (by simpa using k1)
  rw [srtW_mem, h2]
  simp only [List.not_mem_nil, false_or, k2, List.map_nil]
  exact ⟨fun h => h.2, fun h => ⟨h, h⟩⟩
theorem voc_nodup (t : Txt) : (vocL t).Nodup := by
  unfold vocL
  obtain ⟨k1, k2⟩ := keys_tab (wordsT 0 t) [] (by simp)
  obtain ⟨h1, h2⟩ := once_all (wordsT 0 t) ((tabW (wordsT 0 t) []).map (·.1), []) (by simpa using k1)
  exact (sortL_perm _ _).nodup_iff.2 h1
theorem voc_str (t : Txt) : (vocL t).Pairwise fun a b => ltW a b = true := by
  have h1 : (vocL t).Pairwise fun a b => ltW b a = false := sortL_asc swoW _
  refine (h1.and (voc_nodup t)).imp fun {a b} ⟨h2, h3⟩ => ?_
  cases h : ltW a b with
  | true => rfl
  | false => exact absurd (strictW.total _ _ h h2) h3
/-! what memory holds while the words are gone through -/
def L20 (D : Nat) (l : List ByteArray) (lv : AV) (m3 : Nat) (rows : Fm) : Prop := (l = [] ∧ lv = .v (.slice none 0 0) ∧ rows = []) ∨ ∃ b v, l ≠ [] ∧ lv = .sl b v 0 l.length none ∧ D ≤ b ∧ b < m3 ∧ rows = [(b, .cells v 0 9 1 true (clW l))]
def base20 (B : Nat) (mx : Nat) (es : List (AV × AV × Nat)) (c m2 : Nat) (m3 : Nat) (lv : AV) : Fm := [(3, .map mx es c), (B, .cells 0 m2 102 1 false [.mp 3]), (B + 1, .cells 0 m3 51 1 false [lv])]
def R20 (B m2 : Nat) (s : St20) (m : Fm) : Prop := ∃ es mx c lv m3 rows, es.map (·.1) = s.1.map strK ∧ L20 (B + 4) s.2 lv m3 rows ∧ m = base20 B mx es c m2 m3 lv ++ rows
theorem L20.lo {D : Nat} {l : List ByteArray} {lv : AV} {m3 : Nat} {rows : Fm} (h : L20 D l lv m3 rows) {p : Nat × AObj} (hp : p ∈ rows) : D ≤ p.1 ∧ p.1 < m3 := by
  rcases h with ⟨-, -, rfl⟩ | ⟨b, v, -, -, h5, hb, rfl⟩
  · exact nomatch hp
  · rw [List.mem_singleton.1 hp]; exact ⟨h5, hb⟩
theorem base20_lt {B mx c m2 m3 : Nat} {es : List (AV × AV × Nat)} {lv : AV} (hB : 3 < B) {p : Nat × AObj} (h : p ∈ base20 B mx es c m2 m3 lv) : p.1 < B + 2 := by
  unfold base20 at h
  simp only [List.mem_cons, List.not_mem_nil, or_false] at h
  rcases h with rfl | rfl | rfl <;> (simp only; omega)
theorem R20_anch {B m2 : Nat} (hB : 3 < B) (s : St20) (m : Fm) (h : R20 B m2 s m) : Anch (B + 2) m := by
  obtain ⟨es, mx, c, lv, m3, rows, -, hl, rfl⟩ := h
  rintro n hn ⟨p, hp, hnp⟩
  refine ⟨(B + 1, .cells 0 m3 51 1 false [lv]), List.mem_append_left _ (by unfold base20; simp), by show B + 1 < n; omega, ?_⟩
  show n < m3
  rcases List.mem_append.1 hp with hp | hp
  · have := base20_lt hB hp; omega
  · have := hl.lo hp; omega
theorem R20_free {B m2 : Nat} (hB : 3 < B) (s : St20) (m : Fm) (h : R20 B m2 s m) : ¬ keyIn (B + 2) m ∧ ¬ keyIn (B + 3) m := by
  obtain ⟨es, mx, c, lv, m3, rows, -, hl, rfl⟩ := h
  have key : ∀ p ∈ base20 B mx es c m2 m3 lv ++ rows, p.1 ≠ B + 2 ∧ p.1 ≠ B + 3 := by
    intro p hp
    rcases List.mem_append.1 hp with hp | hp
    · have := base20_lt hB hp; omega
    · have := hl.lo hp; omega
  exact ⟨fun ⟨p, hp, he⟩ => (key p hp).1 he, fun ⟨p, hp, he⟩ => (key p hp).2 he⟩
theorem fin20 {B M m2 mx c m3 mx' c' m3' : Nat} {s' : St20} {es es' : List (AV × AV × Nat)} {lv lv' : AV} {rows rows' : Fm} {H' W : Heap} {L' : ALoop} (_hB : 3 < B) (hM : H'.size = M) (_hBM : B + 4 ≤ M) (hl : W.lock = H'.lock) (hs : M ≤ W.size) (h3 : W.get 3 = some (.map mx' es' c')) (h90 : W.get B = some (.cells 0 m2 102 1 false [.mp 3])) (h41 : W.get (B + 1) = some (.cells 0 m3' 51 1 false [lv'])) (h4 : W.get (B + 2 + 1) = some (.loop L'))
    (hr : Has rows' W) (hk : es'.map (·.1) = s'.1.map strK) (hL : L20 (B + 4) s'.2 lv' m3' rows') (hb : ∀ p ∈ rows', M ≤ p.1 ∨ keyIn p.1 rows) (ho : ∀ b, b < M → b ≠ 3 → b ≠ B + 1 → b ≠ B + 2 + 1 → ¬ keyIn b rows' → W.get b = H'.get b) :
    ∃ m', R20 B m2 s' m' ∧ Has m' W ∧ loopObj W (B + 2 + 1) = some L' ∧ Moves ((B + 2 + 1, .loop L') :: (base20 B mx es c m2 m3 lv ++ rows)) H' ((B + 2 + 1, .loop L') :: m') W := by
  have hm : ∀ q ∈ base20 B mx es c m2 m3 lv, keyIn q.1 ((B + 2 + 1, AObj.loop L') :: (base20 B mx es c m2 m3 lv ++ rows)) := fun q hq => ⟨q, List.mem_cons_of_mem _ (List.mem_append_left _ hq), rfl⟩
  have hm3 := hm (3, .map mx es c) (by unfold base20; simp)
  have hmB := hm (B, .cells 0 m2 102 1 false [.mp 3]) (by unfold base20; simp)
  have hmB1 := hm (B + 1, .cells 0 m3 51 1 false [lv]) (by unfold base20; simp)
  refine ⟨base20 B mx' es' c' m2 m3' lv' ++ rows', ⟨es', mx', c', lv', m3', rows', hk, hL, rfl⟩, fun p hp => ?_, get_loopObj h4, hl, by omega, fun b hbb hnb => ?_, fun p hp => ?_⟩
  · rcases List.mem_append.1 hp with hp | hp
    · unfold base20 at hp
      simp only [List.mem_cons, List.not_mem_nil, or_false] at hp
      rcases hp with rfl | rfl | rfl
      · exact h3
      · exact h90
      · exact h41
    · exact hr p hp
  · refine ho b (by omega) (fun e => hnb (by rw [e]; exact hm3)) (fun e => hnb (by rw [e]; exact hmB1)) (fun e => hnb ⟨_, List.mem_cons_self .., e.symm⟩) fun ⟨p, hp, he⟩ => ?_
    rcases hb p hp with h | ⟨q, hq, he2⟩
    · omega
    · exact hnb ⟨q, List.mem_cons_of_mem _ (List.mem_append_right _ hq), by omega⟩
  · rcases List.mem_cons.1 hp with rfl | hp
    · exact Or.inl ⟨_, List.mem_cons_self .., rfl⟩
    · rcases List.mem_append.1 hp with hp | hp
      · unfold base20 at hp
        simp only [List.mem_cons, List.not_mem_nil, or_false] at hp
        rcases hp with rfl | rfl | rfl
        · exact Or.inl hm3
        · exact Or.inl hmB
        · exact Or.inl hmB1
      · rcases hb p hp with h | ⟨q, hq, he⟩
        · exact Or.inr (by omega)
        · exact Or.inl ⟨q, List.mem_cons_of_mem _ (List.mem_append_right _ hq), he⟩
theorem store_low {X : Heap} {b m e : Nat} {g : Bool} {y : AV} (h : X.get b = some (.cells 0 m e 1 g [y])) (hl : X.lock ≤ b) (x : AV) (hx : x.flat = true) (F : List (Option AObj)) : storeCells (X.plus F) b 0 0 [x] = some ((X.put b (.cells 0 (Nat.max m (boundL [x])) e 1 g [x])).plus F) := by
  have hb := get_ltS h
  have hr := row_of (v := 0) ((plus_get F hb).trans h)
  unfold storeCells
  rw [hr]
  simp only [if_true]
  rw [if_pos ⟨by show X.lock ≤ b; exact hl, by simp, by simp [hx]⟩, putLo hb]
  rfl
theorem freeze_wdsK {H : Heap} {b v : Nat} (ws : List ByteArray) (h0 : ws ≠ []) (hk : H.lock = 0) (hr : H.row b v = some (0, 9, 1, true, clW ws)) (k : Nat) : freezeV H (k + 1) (.sl b v 0 ws.length none) = some (wdsV ws) := by
  have : wdsV ws = .vs 1 (clW ws) none := by cases ws with | nil => exact absurd rfl h0 | cons r f => rfl
  have hl := clW_len ws
  rw [this]
  unfold freezeV
  simp only [hr, hk]
  rw [if_neg (by omega), if_pos ⟨by omega, by omega⟩, if_pos trivial, List.drop_zero, List.take_of_length_le (by omega), ← hl, chunk_one]
theorem settle_keep {n b : Nat} {H : Heap} {o : AObj} (h : H.get b = some o) (hn : n ≤ b) : settleH n H = H := by
  unfold settleH
  rw [if_neg]
  intro ha
  have h1 := get_objs h
  have h2 : (H.objs.drop n)[b - n]? = some (some o) := by rw [List.getElem?_drop, show n + (b - n) = b by omega]; exact h1
  have h3 := List.all_eq_true.1 ha _ (List.mem_of_getElem? h2)
  cases h3
set_option maxHeartbeats 8000000 in
theorem ans20 {t : Txt} (ht : Fits t) (htx : textB t = true) {ch : AV} {xs : List AV} (hch : SlOf 2 xs ch) (hall : All2 ChapA t xs) :
    Ans (Cx eA) 20 [.agg [ch]] (.tup [wdsV (vocL t), .v (.int .i64 0)]) := by
  have hs := small_of htx
  have h40 := call40 quietA t ht ch ⟨xs, hch, hall⟩
  rw [htx, if_pos rfl] at h40
  have hlx : xs.length < 2 ^ 63 := by rw [← hall.1]; exact ht.chs
  have hwn : (wordsT 0 t).length < 2 ^ 31 := by have := wordsT_small hs; omega
  have hok := okCh2_of ht hall
  unfold Ans
  rw [fn_step (fn_20 eA) (show Try.f20.body = some _ from rfl)]
  simp -implicitDefEqProofs only [Try.f20, go_sem, ↓reduceIte, Int.reduceEq, Int.reduceLT, Int.reduceLE, List.reduceReplicate, intA, setT_nil, setT_cons, ↓boolP_bool, ↓iteB_true, ↓iteB_false, hch.cells, hch.flat, hch.bound, h40]
  obtain ⟨Y, hc, -, hYl, hYs, hYlo, es, mx, c, rows, hT, hlo, hnd, hg, hr⟩ := call46 quietA hch hall hok hlx hwn { objs := [some (AObj.cells 0 0 24 1 false [ch]), some (AObj.cells 0 0 89 1 false [ch])], lock := 0 } (Nat.zero_le _) 20 (some 21)
  change callA _ _ 20 50 _ _ _ = some (.mp 3, Y) at hc
  change Y.get 3 = _ at hg
  change Y.lock = 0 at hYl
  change 5 ≤ Y.size at hYs
  have hkeys : es.map (·.1) = ((tabW (wordsT 0 t) []).map (·.1)).map strK := by rw [hT.keys, List.map_map]; rfl
  obtain ⟨B, hB⟩ : ∃ B, Y.size = B := ⟨_, rfl⟩
  have hlkB : Y.lock ≤ B := by omega
  have hcY : callA (Cx eA) (lim (Cx eA)) 20 50 (some 21) [.agg [ch]] { objs := [some (AObj.cells 0 0 24 1 false [ch]), some (AObj.cells 0 0 89 1 false [ch])], lock := 0 } = some (.mp 3, Y.plus []) := by rw [plus_nil]; exact hc
  have hs2 : ∀ E, settleH 2 (Y.plus E) = Y.plus E := fun E => settle_keep ((plus_get E (by omega)).trans hg) (by omega)
  have hr1 : ∀ E, (Y.plus E).row 1 0 = some (0, 89, 1, false, [ch]) := fun E => by
    rw [rowLo (by omega)]
    exact get_row (hYlo 1 (Nat.lt_succ_self 1))
  have hnz : ((3 + 1 ≤ 0) : Prop) = False := by simp
  simp -implicitDefEqProofs only [go_sem, ↓reduceIte, Int.reduceEq, Int.reduceLT, Int.reduceLE, List.reduceReplicate, intA, setT_nil, setT_cons, ↓boolP_bool, ↓iteB_true, ↓iteB_false, hcY, hs2, hr1, hch.cells, hch.flat, hch.bound, call41 quietA ch xs hch, hnz, Nat.zero_le, sizeP hB, putP0 hB, putP hB, settleP0 hB, settleP hB, rowP0 hB, rowP hB, storeP0 hB hlkB, storeP hB hlkB, List.length_nil, List.length_cons, Nat.add_zero, Nat.zero_add]
  obtain ⟨G, hG⟩ : ∃ G, Y.plus [some (AObj.cells 0 4 102 1 false [AV.mp 3]), some (AObj.cells 0 0 51 1 false [AV.v (Value.slice none 0 0)])] = G := ⟨_, rfl⟩
  have hGs : G.size = B + 2 := by rw [← hG, plus_size, hB]; rfl
  have hGB : G.get B = some (.cells 0 4 102 1 false [.mp 3]) := by rw [← hG]; exact plus_mid_get hB [] _ _
  have hGB1 : G.get (B + 1) = some (.cells 0 0 51 1 false [.v (.slice none 0 0)]) := by rw [← hG]; exact plus_mid_get hB [some (AObj.cells 0 4 102 1 false [AV.mp 3])] _ _
  have hG3 : G.get 3 = some (.map mx es c) := by rw [← hG]; exact (plus_get _ (by omega)).trans hg
  have hGl : G.lock = 0 := by rw [← hG]; exact hYl
  rw [hG]
  have hB3 : 3 < B := by omega
  have hy : Yields2 (Cx eA) 69 [.ro (.agg [ch]) 0] ((wordsT 0 t).map itW) := by rw [← allIts_eq hall]; exact yields2_63 quietA ch xs hch hok hlx
  have hrun := run20 (wordsT 0 t) ((tabW (wordsT 0 t) []).map (·.1), []) (by show 0 + _ < _; omega)
  refine wp_range2 hy rfl (R20 B 4) stp20 (fun _ => True) ok20 (n0 := B + 2) (k := 0) (by rw [hGs]; exact Nat.le_refl _) (by omega) (fun x hx => ?_) (R20_anch hB3) (fun s m h => by rw [hGs]; exact R20_free hB3 s m h) (fun _ _ _ _ _ => trivial) ?_ ((tabW (wordsT 0 t) []).map (·.1), []) (base20 B mx es c 4 0 (.v (.slice none 0 0)) ++ []) hrun.1 trivial ⟨es, mx, c, _, 0, [], hkeys, Or.inl ⟨rfl, rfl, rfl⟩, rfl⟩ ?_ hGl ?_
  · obtain ⟨y, -, rfl⟩ := List.mem_map.1 hx
    rfl
  · rw [hGs]
    clear hkeys hG3 hg hr hlo hnd hT hrun
    rintro L L' s m x H' - - ⟨⟨⟨⟨p1, p2, p3⟩, w⟩, rfl⟩, hcnt⟩ - ⟨es, mx, c, lv, m3, rows, hke, hl, rfl⟩ hHm hd0 hlp hlk' hsz'
    obtain ⟨M, hM⟩ : ∃ M, H'.size = M := ⟨_, rfl⟩
    have hp1 : stp20 s (itW ((p1, p2, p3), w)) = (.normal, onceW s w) := rfl
    generalize stp20 s (itW ((p1, p2, p3), w)) = p20 at hp1 ⊢
    simp -implicitDefEqProofs only [go_sem, ↓reduceIte, Int.reduceEq, Int.reduceLT, Int.reduceLE, List.reduceReplicate, intA, setT_nil, setT_cons, ↓boolP_bool, ↓iteB_true, ↓iteB_false, itW, plN, List.zip_cons_cons, List.zip_nil_right, List.zip_nil_left, hM, settle_eqN hM, trim_eqN hM]
    refine ⟨rfl, hlp, ?_⟩
    obtain ⟨Y', hY'⟩ : ∃ Y', H'.put (B + 2 + 1) (.loop L') = Y' := ⟨_, rfl⟩
    have hYs' : Y'.size = M := by rw [← hY', put_sizeI _ (by omega)]; exact hM
    have hYg : ∀ b, b ≠ B + 2 + 1 → b ≤ M → Y'.get b = H'.get b := fun b hb hb2 => by rw [← hY']; exact put_get_ne _ (by omega) hb
    have hYl' : Y'.lock = 0 := by rw [← hY']; exact hlk'
    have hlkY : Y'.lock ≤ M := by omega
    have hYL : Y'.get (B + 2 + 1) = some (.loop L') := by rw [← hY']; exact put_get_eq _ (by omega)
    have hYb : ∀ q ∈ base20 B mx es c 4 m3 lv, Y'.get q.1 = some q.2 := fun q hq => by
      have := base20_lt hB3 hq
      rw [hYg _ (by omega) (by omega)]
      exact hHm q (List.mem_append_left _ hq)
    have hY3 : Y'.get 3 = some (.map mx es c) := hYb (3, _) (by unfold base20; simp)
    have hYB : Y'.get B = some (.cells 0 4 102 1 false [.mp 3]) := hYb (B, _) (by unfold base20; simp)
    have hYB1 : Y'.get (B + 1) = some (.cells 0 m3 51 1 false [lv]) := hYb (B + 1, _) (by unfold base20; simp)
    have hrM : ∀ p ∈ rows, p.1 < M := fun p hp => by have := get_ltS (hHm p (List.mem_append_right _ hp)); omega
    have hYr : Has rows Y' := fun p hp => by
      have := hl.lo hp
      have h2 := hrM p hp
      rw [hYg _ (by omega) (by omega)]
      exact hHm p (List.mem_append_right _ hp)
    have hr90 : ∀ F, (Y'.plus F).row B 0 = some (4, 102, 1, false, [.mp 3]) := fun F => get_row ((plus_get _ (by omega)).trans hYB)
    have hr41 : ∀ F, (Y'.plus F).row (B + 1) 0 = some (m3, 51, 1, false, [lv]) := fun F => get_row ((plus_get _ (by omega)).trans hYB1)
    have hf1 : fitsA 16 1 = true := by decide
    rw [hY', ← plus_nil Y']
    by_cases hin : w ∈ s.1
    · obtain ⟨k1, k2, es1, v0, c0, es2, hks, hn1, rfl, hk1, hk2⟩ := split_keys w s.1 es hke hin
      have hfind : findKeyA Try.prog 9 (strK w) (es1 ++ (strK w, v0, c0) :: es2) 0 = some (some (es1.length, v0)) := by
        rw [find_skip Try.prog 9 w es1 k1 0 _ hk1 hn1, find_here, Nat.zero_add]
      have hlook : ∀ F, lookupA Try.prog (Y'.plus F) 102 (.mp 3) (.v (.string w)) true = some (.tup [v0, .v (.bool true)]) := fun F => look_in ((plus_get F (by omega)).trans hY3) hfind true
      have herase : s.1.erase w = k1 ++ k2 := by rw [hks, List.erase_append_right _ hn1, List.erase_cons_head]
      have hei : (es1 ++ (strK w, v0, c0) :: es2).eraseIdx es1.length = es1 ++ es2 := by
        rw [List.eraseIdx_append_of_length_le (Nat.le_refl _), Nat.sub_self]; rfl
      have hkn : (es1 ++ es2).map (·.1) = (s.1.erase w).map strK := by rw [herase, List.map_append, List.map_append, hk1, hk2]
      unfold onceW at hp1
      rw [if_pos hin] at hp1
      subst hp1
      -- what is left of memory P in which the word lies behind the others
      have tail : ∀ (P : Heap) (bb vv : Nat) (rows' : Fm) (F : List (Option AObj)), P.size = M → P.lock = 0 → P.get 3 = some (.map mx (es1 ++ (strK w, v0, c0) :: es2) c) → P.get (B + 1) = some (.cells 0 m3 51 1 false [lv]) → P.get B = some (.cells 0 4 102 1 false [.mp 3]) → P.get (B + 2 + 1) = some (.loop L') → rows' = [(bb, .cells vv 0 9 1 true (clW (s.2 ++ [w])))] → B + 4 ≤ bb →
          (P.plus F).get bb = some (.cells vv 0 9 1 true (clW (s.2 ++ [w]))) → (M ≤ bb ∨ keyIn bb rows) → (∀ b, b < M → b ≠ bb → b ≠ B + 2 + 1 → P.get b = H'.get b) →
          ∃ (Z1 Z2 : Heap), (∀ E, storeCells (P.plus E) (B + 1) 0 0 [.sl bb vv 0 (s.2.length + 1) none] = some (Z1.plus E)) ∧ (∀ E, deleteA Try.prog (Z1.plus E) [102, 9] [.mp 3, .v (.string w)] = some (Z2.plus E)) ∧ Z1.size = M ∧ Z2.size = M ∧ (∀ E, (Z1.plus E).row B 0 = some (4, 102, 1, false, [.mp 3])) ∧
            ∃ m', R20 B 4 (s.1.erase w, s.2 ++ [w]) m' ∧ Has m' (Z2.plus F) ∧ loopObj (Z2.plus F) (B + 2 + 1) = some L' ∧ Moves ((B + 2 + 1, .loop L') :: (base20 B mx (es1 ++ (strK w, v0, c0) :: es2) c 4 m3 lv ++ rows)) H' ((B + 2 + 1, .loop L') :: m') (Z2.plus F) := by
        intro P bb vv rows' F hPs hPl hP3 hP41 hP90 hPL hrw hbb hPbb hkb hPo
        obtain ⟨Z1, hZ1⟩ : ∃ Z1, P.put (B + 1) (.cells 0 (Nat.max m3 (boundL [.sl bb vv 0 (s.2.length + 1) none])) 51 1 false [.sl bb vv 0 (s.2.length + 1) none]) = Z1 := ⟨_, rfl⟩
        have hZ1s : Z1.size = M := by rw [← hZ1, put_sizeI _ (by omega)]; exact hPs
        have hZ1g : ∀ b, b ≠ B + 1 → b ≤ M → Z1.get b = P.get b := fun b hb hb2 => by rw [← hZ1]; exact put_get_ne _ (by omega) hb
        have hZ13 : Z1.get 3 = some (.map mx (es1 ++ (strK w, v0, c0) :: es2) c) := (hZ1g _ (by omega) (by omega)).trans hP3
        have hZ1l : Z1.lock = 0 := by rw [← hZ1]; exact hPl
        obtain ⟨Z2, hZ2⟩ : ∃ Z2, Z1.put 3 (.map mx (es1 ++ es2) c) = Z2 := ⟨_, rfl⟩
        have hZ2s : Z2.size = M := by rw [← hZ2, put_sizeI _ (by omega)]; exact hZ1s
        have hZ2g : ∀ b, b ≠ 3 → b ≤ M → Z2.get b = Z1.get b := fun b hb hb2 => by rw [← hZ2]; exact put_get_ne _ (by omega) hb
        have hZg : ∀ b, b ≠ 3 → b ≠ B + 1 → b ≤ M → Z2.get b = P.get b := fun b hb hb1 hb2 => (hZ2g b hb hb2).trans (hZ1g b hb1 hb2)
        have hpl : ∀ b, b < M → (Z2.plus F).get b = Z2.get b := fun b hb => plus_get _ (by omega)
        refine ⟨Z1, Z2, fun E => (store_low hP41 (by omega) _ rfl E).trans (by rw [hZ1]), fun E => ?_, hZ1s, hZ2s, fun E => get_row ((plus_get _ (by omega)).trans ((hZ1g _ (by omega) (by omega)).trans hP90)), ?_⟩
        · refine (del_in (G := Z1.plus E) ((plus_get E (by omega)).trans hZ13) (by show Z1.lock ≤ _; omega) hfind).trans ?_
          rw [hei, putLo (by omega), hZ2]
        · refine fin20 hB3 hM (by omega) ?_ (by rw [plus_size]; omega) ((hpl _ (by omega)).trans (by rw [← hZ2]; exact put_get_eq _ (by omega))) ((hpl _ (by omega)).trans ((hZg _ (by omega) (by omega) (by omega)).trans hP90)) ((hpl _ (by omega)).trans ((hZ2g _ (by omega) (by omega)).trans (by rw [← hZ1]; exact put_get_eq _ (by omega)))) ((hpl _ (by omega)).trans ((hZg _ (by omega) (by omega) (by omega)).trans hPL)) (rows' := rows') ?_ hkn (Or.inr ⟨bb, vv, by simp, by simp, hbb, ?_, hrw⟩) ?_ ?_
          · show Z2.lock = _
            rw [← hZ2]
            exact hZ1l.trans hlk'.symm
          · intro p hp
            rw [hrw] at hp
            obtain rfl := List.mem_singleton.1 hp
            rcases Nat.lt_or_ge bb M with h | h
            · rw [hpl _ h, hZg _ (by omega) (by omega) (by omega)]
              rw [plus_get _ (by omega)] at hPbb
              exact hPbb
            · simp only
              rw [plus_get_hi _ (by omega)] at hPbb ⊢
              rw [hPs] at hPbb
              rw [hZ2s]; exact hPbb
          · have : boundL [AV.sl bb vv 0 (s.2.length + 1) none] = bb + 1 := by show Nat.max (bb + 1) 0 = _; exact Nat.max_eq_left (Nat.zero_le _)
            rw [this]
            exact Nat.lt_of_lt_of_le (Nat.lt_succ_self _) (Nat.le_max_right _ _)
          · intro p hp
            rw [hrw] at hp
            obtain rfl := List.mem_singleton.1 hp
            exact hkb
          · intro b hb h3 hb1 hb4 hnk
            rw [hpl _ hb, hZg b h3 hb1 (by omega)]
            exact hPo b hb (fun e => hnk (by rw [hrw, e]; exact ⟨_, List.mem_singleton.2 rfl, rfl⟩)) hb4
      have hcv : AV.cells (.v (.string w)) = [.v (.string w)] := rfl
      rcases hl with ⟨he0, rfl, rfl⟩ | ⟨b, v, h0, rfl, hb1, hb2, rfl⟩
      · obtain ⟨Z1, Z2, hst, hdel, hZ1s, hZ2s, hrZ, hfin⟩ := tail Y' M 0 _ [some (.cells 0 0 9 1 true [.v (.string w)])] hYs' hYl' hY3 hYB1 hYB hYL rfl (by omega) (by rw [he0]; exact plus_mid_get hYs' [] [] _) (Or.inl (Nat.le_refl _)) (fun b hb hbb hb4 => hYg b hb4 (by omega))
        rw [he0] at hst
        simp only [List.length_nil, Nat.zero_add] at hst
        simp -implicitDefEqProofs only [go_sem, ↓reduceIte, Int.reduceEq, Int.reduceLT, Int.reduceLE, List.reduceReplicate, intA, setT_nil, setT_cons, ↓boolP_bool, ↓iteB_true, ↓iteB_false, hr90, hr41, hlook, hf1, app41, appTo_vs0, hst, hdel, hrZ, hcv, List.flatMap_cons, List.flatMap_nil, sizeP hZ1s, settleP0 hZ1s, settleP hZ1s, sizeP hZ2s, settleP0 hZ2s, settleP hZ2s, sizeP hYs', putP0 hYs', putP hYs', settleP0 hYs', settleP hYs', rowP0 hYs', rowP hYs', storeP0 hYs' hlkY, storeP hYs' hlkY, List.length_nil, Nat.add_zero, bd2K_at']
        rw [List.append_nil] at hfin
        exact hfin
      · have hbM := hrM (b, .cells v 0 9 1 true (clW s.2)) (by simp)
        simp only at hbM
        have hlen1 : s.2.length < 2 ^ 31 := hcnt
        have hfi : fitsA 16 (s.2.length + 1) = true := by unfold fitsA; exact decide_eq_true (by omega)
        have hYbb : Y'.get b = some (.cells v 0 9 1 true (clW s.2)) := hYr (b, _) (by simp)
        have hrb : ∀ F, (Y'.plus F).row b v = some (0, 9, 1, true, clW s.2) := fun F => by
          rw [rowLo (by omega)]
          have h := row_of (v := v) hYbb
          rw [if_pos rfl] at h; exact h
        simp -implicitDefEqProofs only [go_sem, ↓reduceIte, Int.reduceEq, Int.reduceLT, Int.reduceLE, List.reduceReplicate, intA, setT_nil, setT_cons, ↓boolP_bool, ↓iteB_true, ↓iteB_false, hr90, hr41, hlook, hf1, app41, appTo_vs0, hcv, List.flatMap_cons, List.flatMap_nil, sizeP hYs', putP0 hYs', putP hYs', settleP0 hYs', settleP hYs', rowP0 hYs', rowP hYs', storeP0 hYs' hlkY, storeP hYs' hlkY, List.length_nil, Nat.add_zero, bd2K_at']
        rw [appTo_own (m := 0) (e' := 9) (cs := clW s.2) (hrb _) (by rw [clW_len, Nat.mul_one]) (by show Y'.lock ≤ b; omega) hfi (by omega) (by omega)]
        rw [putLo (by omega), show Nat.max 0 (boundL [AV.v (.string w)]) = 0 from rfl, show clW s.2 ++ [AV.v (.string w)] = clW (s.2 ++ [w]) by unfold clW; rw [List.map_append]; rfl]
        obtain ⟨W, hW⟩ : ∃ W, Y'.put b (.cells (v + 1) 0 9 1 true (clW (s.2 ++ [w]))) = W := ⟨_, rfl⟩
        have hWs : W.size = M := by rw [← hW, put_sizeI _ (by omega)]; exact hYs'
        have hWg : ∀ q, q ≠ b → q ≤ M → W.get q = Y'.get q := fun q hq hq2 => by rw [← hW]; exact put_get_ne _ (by omega) hq
        have hWl : W.lock = 0 := by rw [← hW]; exact hYl'
        have hWb : W.get b = some (.cells (v + 1) 0 9 1 true (clW (s.2 ++ [w]))) := by rw [← hW]; exact put_get_eq _ (by omega)
        obtain ⟨Z1, Z2, hst, hdel, hZ1s, hZ2s, hrZ, hfin⟩ := tail W b (v + 1) _ [] hWs hWl ((hWg _ (by omega) (by omega)).trans hY3) ((hWg _ (by omega) (by omega)).trans hYB1) ((hWg _ (by omega) (by omega)).trans hYB) ((hWg _ (by omega) (by omega)).trans hYL) rfl hb1 ((plus_get _ (by omega)).trans hWb) (Or.inr ⟨(b, .cells v 0 9 1 true (clW s.2)), by simp, rfl⟩) (fun q hq hqb hq4 => (hWg q hqb (by omega)).trans (hYg q hq4 (by omega)))
        rw [hW]
        simp -implicitDefEqProofs only [go_sem, ↓reduceIte, Int.reduceEq, Int.reduceLT, Int.reduceLE, List.reduceReplicate, intA, setT_nil, setT_cons, ↓boolP_bool, ↓iteB_true, ↓iteB_false, hst, hdel, hrZ, sizeP hWs, settleP0 hWs, settleP hWs, sizeP hZ1s, settleP0 hZ1s, settleP hZ1s, sizeP hZ2s, settleP0 hZ2s, settleP hZ2s, List.length_nil, Nat.add_zero, bd2K_at']
        exact hfin
    · have hfind : findKeyA Try.prog 9 (strK w) es 0 = some none := by
        have h := find_skip Try.prog 9 w es s.1 0 [] hke hin
        rw [List.append_nil] at h
        exact h
      have hlook : ∀ F, lookupA Try.prog (Y'.plus F) 102 (.mp 3) (.v (.string w)) true = some (.tup [.v (.slice none 0 0), .v (.bool false)]) := fun F => look_out ((plus_get F (by omega)).trans hY3) hfind true
      unfold onceW at hp1
      rw [if_neg hin] at hp1
      subst hp1
      simp -implicitDefEqProofs only [go_sem, ↓reduceIte, Int.reduceEq, Int.reduceLT, Int.reduceLE, List.reduceReplicate, intA, setT_nil, setT_cons, ↓boolP_bool, ↓iteB_true, ↓iteB_false, hr90, hlook, sizeP hYs', putP0 hYs', putP hYs', settleP0 hYs', settleP hYs', rowP0 hYs', rowP hYs', storeP0 hYs' hlkY, storeP hYs' hlkY, List.length_nil, Nat.add_zero, bd2K_at']
      rw [plus_nil]
      exact fin20 hB3 hM (by omega) (hYl'.trans hlk'.symm) (Nat.le_of_eq hYs'.symm) hY3 hYB hYB1 hYL hYr hke hl (fun p hp => Or.inr ⟨p, hp, rfl⟩) (fun b hb h3 hb1 hb4 _ => hYg b hb4 (by omega))
  · intro p hp
    rw [List.append_nil] at hp
    unfold base20 at hp
    simp only [List.mem_cons, List.not_mem_nil, or_false] at hp
    rcases hp with rfl | rfl | rfl
    · exact hG3
    · exact hGB
    · exact hGB1
  · rw [hGs, hrun.2]
    rintro m' H' ⟨es', mx', c', lv, m3, rows', hke, hl, rfl⟩ hH1 hd hdd hmv hsz'
    have hv : vocL t = srtW (onceAll (wordsT 0 t) ((tabW (wordsT 0 t) []).map (·.1), [])).2 := rfl
    rw [hv]
    have hln : (onceAll (wordsT 0 t) ((tabW (wordsT 0 t) []).map (·.1), [])).2.length < 2 ^ 33 := by
      have : ∀ (l : List (Plc × ByteArray)) (s : St20), (onceAll l s).2.length ≤ s.2.length + l.length := fun l => by
        induction l with
        | nil => intro s; exact Nat.le_refl _
        | cons y r ih =>
          intro s
          have h1 := ih (onceW s y.2)
          have h2 := onceW_len s y.2
          show (onceAll r (onceW s y.2)).2.length ≤ _
          rw [List.length_cons]; omega
      have := this (wordsT 0 t) ((tabW (wordsT 0 t) []).map (·.1), [])
      simp only [List.length_nil] at this
      omega
    simp only at hl
    generalize (onceAll (wordsT 0 t) ((tabW (wordsT 0 t) []).map (·.1), [])).2 = l at hl hln ⊢
    have hkl : H'.lock = 0 := by rw [hmv.lock]; exact hGl
    obtain ⟨U, hU⟩ : ∃ U, H'.size = U := ⟨_, rfl⟩
    have hlkU : H'.lock ≤ U := by omega
    have hr41 : ∀ F, (H'.plus F).row (B + 1) 0 = some (m3, 51, 1, false, [lv]) := fun F => get_row ((plus_get _ (by omega)).trans (hH1 (B + 1, .cells 0 m3 51 1 false [lv]) (List.mem_append_left _ (by unfold base20; simp))))
    have hkill : ∀ F, killAll [B + 2] (H'.plus F) = some ((H'.put (B + 2) .dead).plus F) := fun F => by
      unfold killAll
      rw [plus_get _ (by omega), hd]
      simp only
      rw [if_pos (by show H'.lock ≤ _; omega), putLo (by omega)]
      unfold killAll; rfl
    rw [← plus_nil H']
    rcases hl with ⟨rfl, rfl, rfl⟩ | ⟨b, v, h0, rfl, hb1, hb2, rfl⟩
    · have h47 := callW47_nil
      simp -implicitDefEqProofs only [go_sem, ↓reduceIte, Int.reduceEq, Int.reduceLT, Int.reduceLE, List.reduceReplicate, intA, setT_nil, setT_cons, ↓boolP_bool, ↓iteB_true, ↓iteB_false, hr41, h47, hkill, sizeP hU, settleP0 hU, settleP hU, List.length_nil, Nat.add_zero]
      rfl
    · have hbU : b < U := by have := get_ltS (hH1 (b, .cells v 0 9 1 true (clW l)) (by simp)); omega
      have hrb : H'.row b v = some (0, 9, 1, true, clW l) := get_row (hH1 (b, .cells v 0 9 1 true (clW l)) (by simp))
      have h47 := callW47 hU hlkU l h0 hln b v hbU hrb
      rw [← plus_nil H', plus_plus, List.nil_append] at h47
      simp -implicitDefEqProofs only [go_sem, ↓reduceIte, Int.reduceEq, Int.reduceLT, Int.reduceLE, List.reduceReplicate, intA, setT_nil, setT_cons, ↓boolP_bool, ↓iteB_true, ↓iteB_false, hr41, h47, hkill, sizeP hU, settleP0 hU, settleP hU, List.length_nil, Nat.add_zero]
      have hsl := srtW_len l
      have h0' : srtW l ≠ [] := fun e => h0 (List.length_eq_zero_iff.1 (by rw [← hsl, e]; rfl))
      have hPs : (H'.put (B + 2) .dead).size = U := by rw [put_sizeI _ (by omega)]; exact hU
      refine freeze_two fun k => ?_
      rw [← hsl]
      refine freeze_wdsK (srtW l) h0' rfl ?_ k
      show Heap.row (Heap.mk ((H'.put (B + 2) .dead).plus [some (AObj.cells 0 0 9 1 true (clW (srtW l)))]).objs 0) U 0 = _
      refine get_row ?_
      exact plus_mid_get hPs [] [] (some (AObj.cells 0 0 9 1 true (clW (srtW l))))
end Go.Ev
namespace Go.Ev
open Go.Proofs
set_option maxRecDepth 100000
set_option linter.unusedSimpArgs false
attribute [local irreducible] Wp WpS
theorem splice_word (l : List ByteArray) (k : Nat) (s : ByteArray) (hk : k < l.length) : splice k [.v (.string s)] (clW l) = clW (l.set k s) := by
  unfold splice clW
  rw [List.map_set]
  apply List.ext_getElem?
  intro n
  rw [List.getElem?_set, List.append_assoc]
  by_cases h1 : n < k
  · rw [List.getElem?_append_left (by rw [List.length_take, List.length_map]; omega), List.getElem?_take, if_pos h1, if_neg (by omega)]
  · rw [List.getElem?_append_right (by rw [List.length_take, List.length_map]; omega), List.length_take, List.length_map, show min k l.length = k by omega]
    by_cases h2 : n = k
    · subst h2; rw [Nat.sub_self, if_pos rfl, if_pos hk]; rfl
    · rw [if_neg (by omega), show n - k = (n - k - 1) + 1 by omega]
      simp only [List.cons_append, List.nil_append, List.getElem?_cons_succ, List.getElem?_drop, List.length_cons, List.length_nil]
      congr 1; omega
theorem shift_step {o : List ByteArray} {i : Nat} (hi : 0 < i) (hin : i ≤ o.length) (x s : ByteArray) (hs : o[i - 1]? = some s) : (o.take i ++ x :: o.drop i).set i s = o.take (i - 1) ++ s :: o.drop (i - 1) := by
  obtain ⟨k, rfl⟩ : ∃ k, i = k + 1 := ⟨i - 1, by omega⟩
  simp only [Nat.add_sub_cancel] at hs ⊢
  have hk := (List.getElem?_eq_some_iff.1 hs).1
  have e1 : (o.take (k + 1)).length = k + 1 := by rw [List.length_take]; omega
  rw [List.set_append_right _ _ (by omega), e1, Nat.sub_self, List.set_cons_zero, List.take_add_one, hs, List.append_assoc]
  congr 1
  rw [List.drop_eq_getElem_cons hk]
  have := (List.getElem?_eq_some_iff.1 hs).2
  rw [this]; rfl
theorem shift_get {o : List ByteArray} {i : Nat} (hi : 0 < i) (hin : i ≤ o.length) (x : ByteArray) : (o.take i ++ x :: o.drop i)[i - 1]? = o[i - 1]? := by
  rw [List.getElem?_append_left (by rw [List.length_take]; omega), List.getElem?_take, if_pos (by omega)]
theorem load_word {H : Heap} {b v j : Nat} {m : Nat} {o : List ByteArray} (h : H.row b v = some (m, 9, 1, true, clW o)) {s : ByteArray} (hs : o[j]? = some s) : loadA Try.prog H 9 (.ptr b v j) = some (.v (.string s)) := by
  have hcl : (clW o)[j]? = some (.v (.string s)) := by unfold clW; rw [List.getElem?_map, hs]; rfl
  unfold loadA
  simp only [h, part_9, hcl]
set_option maxHeartbeats 4000000 in
theorem shift21 {e : Exts} {ch p : AV} (hp : bound p = 0) (hcb : bound ch = 0) (w : ByteArray) (i j : Nat) (o : List ByteArray) (hn : o.length < 2 ^ 33) (hj : j ≤ o.length) (v : Nat) (x0 : ByteArray) (K : Post)
    (hK : ∀ x, AtK K (.exit 4) ⟨77, [(0, .agg [ch]), (1, .ptr 0 0 0), (2, .v (.slice none 0 0)), (3, intA 0), (12, .v (.bool false)), (4, .sl 1 v 0 (o.length + 1) none), (5, p), (6, intA i), (18, .v (.bool true)), (7, .v (.string w)), (8, intA j), (52, .v (.bool true)), (9, intA j)], []⟩ ⟨[some (.cells 0 0 24 1 false [ch]), some (.cells v 0 9 1 true (clW (o.take j ++ x :: o.drop j)))], 0⟩) :
    Lp (Cx e) 21 none [0, 1, 2, 3, 12, 4, 5, 6, 18, 7, 8, 52, 9] (((Try.f21.body.map loops).getD [])[2]?.getD .skip) ⟨77, [(0, .agg [ch]), (1, .ptr 0 0 0), (2, .v (.slice none 0 0)), (3, intA 0), (12, .v (.bool false)), (4, .sl 1 v 0 (o.length + 1) none), (5, p), (6, intA i), (18, .v (.bool true)), (7, .v (.string w)), (8, intA j), (52, .v (.bool true)), (9, intA o.length)], []⟩ ⟨[some (.cells 0 0 24 1 false [ch]), some (.cells v 0 9 1 true (clW (o ++ [x0])))], 0⟩ K := by
  simp only [Try.f21, loops, Option.map_some, Option.getD_some, List.nil_append, List.append_nil, List.cons_append, List.getElem?_cons_zero, List.getElem?_cons_succ]
  refine Lp_rule (P := fun μ a H => ∃ m x, j + μ = m ∧ m ≤ o.length ∧ a = ⟨77, [(0, .agg [ch]), (1, .ptr 0 0 0), (2, .v (.slice none 0 0)), (3, intA 0), (12, .v (.bool false)), (4, .sl 1 v 0 (o.length + 1) none), (5, p), (6, intA i), (18, .v (.bool true)), (7, .v (.string w)), (8, intA j), (52, .v (.bool true)), (9, intA m)], []⟩ ∧ H = ⟨[some (.cells 0 0 24 1 false [ch]), some (.cells v 0 9 1 true (clW (o.take m ++ x :: o.drop m)))], 0⟩) ?_ (o.length - j) _ _ ⟨o.length, x0, by omega, Nat.le_refl _, rfl, by rw [List.take_length, List.drop_length]⟩
  rintro μ _ _ ⟨m, x, hm, hmo, rfl, rfl⟩
  cases μ with
  | zero =>
    obtain rfl : m = j := by omega
    have h := hK x
    unfold intA at h
    simp -implicitDefEqProofs only [go_sem, ↓reduceIte, Int.reduceEq, Int.reduceLT, Int.reduceLE, List.reduceReplicate, intA, setT_nil, setT_cons, Int.lt_irrefl, gt_iff_lt, ↓boolP_bool, ↓iteB_true, ↓iteB_false]
    exact h
  | succ μ =>
    have hlt : (j : Int) < (m : Int) := by omega
    obtain ⟨s, hs⟩ := at_lt o (m - 1) (by omega)
    have hw : IntKind.i64.wrap ((m : Int) - 1) = ((m - 1 : Nat) : Int) := by rw [wrap_in _ (by omega) (by omega)]; omega
    have hi1 := slIdx_at 1 1 v 0 (o.length + 1) none m (by omega)
    have hi2 := slIdx_at 1 1 v 0 (o.length + 1) none (m - 1) (by omega)
    rw [Nat.zero_add, Nat.mul_one] at hi1 hi2
    have hld : loadA Try.prog ⟨[some (.cells 0 0 24 1 false [ch]), some (.cells v 0 9 1 true (clW (o.take m ++ x :: o.drop m)))], 0⟩ 9 (.ptr 1 v (m - 1)) = some (.v (.string s)) := load_word (m := 0) (by simp [Heap.row, Heap.get]) ((shift_get (by omega) hmo x).trans hs)
    have hsl : m < (o.take m ++ x :: o.drop m).length := by rw [List.length_append, List.length_take, List.length_cons]; omega
    have hsp := splice_word _ m s hsl
    rw [shift_step (by omega) hmo x s hs] at hsp
    unfold splice at hsp
    have hle : (m + 1 ≤ (clW (o.take m ++ x :: o.drop m)).length) = True := eq_true (by rw [clW_len]; exact hsl)
    rw [show ([AV.v (Value.string s)] : List AV).length = 1 from rfl] at hsp
    simp -implicitDefEqProofs only [go_sem, ↓reduceIte, Int.reduceEq, Int.reduceLT, Int.reduceLE, List.reduceReplicate, intA, setT_nil, setT_cons, hlt, gt_iff_lt, hw, hi1, hi2, hld, hle, hsp, hp, hcb, bound_sl, trim_at, ↓boolP_bool, ↓iteB_true, ↓iteB_false]
    exact ⟨μ, by omega, m - 1, s, by omega, by omega, rfl, rfl⟩
end Go.Ev
namespace Go.Ev
open Go.Proofs
set_option maxRecDepth 100000
set_option linter.unusedSimpArgs false
attribute [local irreducible] Wp WpS
/-! ### the reference's Vocabulary -/
theorem set_mid {o : List ByteArray} {j : Nat} (hj : j ≤ o.length) (x w : ByteArray) : (o.take j ++ x :: o.drop j).set j w = o.take j ++ w :: o.drop j := by
  have e1 : (o.take j).length = j := by rw [List.length_take]; omega
  rw [List.set_append_right _ _ (by omega), e1, Nat.sub_self, List.set_cons_zero]
theorem ins_mem {o : List ByteArray} {j : Nat} {w a : ByteArray} : a ∈ o.take j ++ w :: o.drop j ↔ a = w ∨ a ∈ o := by
  conv => rhs; rw [← List.take_append_drop j o]
  simp only [List.mem_append, List.mem_cons]
  constructor
  · rintro (h | h | h)
    · exact Or.inr (Or.inl h)
    · exact Or.inl h
    · exact Or.inr (Or.inr h)
  · rintro (h | h | h)
    · exact Or.inr (Or.inl h)
    · exact Or.inl h
    · exact Or.inr (Or.inr h)
theorem ins_pair {o : List ByteArray} {j : Nat} {w : ByteArray} (hp : o.Pairwise fun a b => ltW a b = true) (hlo : ∀ k s, k < j → o[k]? = some s → ltW s w = true) (hhi : ∀ s, o[j]? = some s → ltW w s = true) : (o.take j ++ w :: o.drop j).Pairwise fun a b => ltW a b = true := by
  have hp' := hp
  rw [← List.take_append_drop j o, List.pairwise_append] at hp'
  have hd : ∀ b ∈ o.drop j, ltW w b = true := by
    intro b hb
    obtain ⟨n, hn⟩ := List.mem_iff_getElem?.1 hb
    rw [List.getElem?_drop] at hn
    cases n with
    | zero => exact hhi b hn
    | succ n =>
      have hjn := (List.getElem?_eq_some_iff.1 hn).1
      obtain ⟨s, hs⟩ := at_lt o j (by omega)
      have h1 := hhi s hs
      have h2 : ltW s b = true := by
        have := List.pairwise_iff_getElem.1 hp j (j + (n + 1)) (by omega) hjn (by omega)
        rw [(List.getElem?_eq_some_iff.1 hs).2, (List.getElem?_eq_some_iff.1 hn).2] at this
        exact this
      exact strictW.trans _ _ _ h1 h2
  refine List.pairwise_append.2 ⟨hp'.1, List.pairwise_cons.2 ⟨hd, hp'.2.1⟩, fun a ha b hb => ?_⟩
  rcases List.mem_cons.1 hb with rfl | hb
  · obtain ⟨n, hn⟩ := List.mem_iff_getElem?.1 ha
    rw [List.getElem?_take] at hn
    split at hn
    · rename_i h; exact hlo n a h hn
    · cases hn
  · exact hp'.2.2 a ha b hb
def In21 (ch p : AV) (xt : List (Tmp × AV)) (o : List ByteArray) (a : AAct) (H : Heap) : Prop :=
  (o = [] ∧ a = ⟨77, (0, .agg [ch]) :: (1, .ptr 0 0 0) :: (2, .v (.slice none 0 0)) :: (3, intA 0) :: (12, .v (.bool false)) :: (4, .v (.slice none 0 0)) :: (5, p) :: xt, []⟩ ∧ H = ⟨[some (.cells 0 0 24 1 false [ch])], 0⟩) ∨
  ∃ v, o ≠ [] ∧ a = ⟨77, (0, .agg [ch]) :: (1, .ptr 0 0 0) :: (2, .v (.slice none 0 0)) :: (3, intA 0) :: (12, .v (.bool false)) :: (4, .sl 1 v 0 o.length none) :: (5, p) :: xt, []⟩ ∧ H = ⟨[some (.cells 0 0 24 1 false [ch]), some (.cells v 0 9 1 true (clW o))], 0⟩
set_option maxHeartbeats 4000000 in
theorem find21 {e : Exts} {ch p : AV} (hp : bound p = 0) (hcb : bound ch = 0) (w : ByteArray) (i : Nat) (o : List ByteArray) (hn : o.length < 2 ^ 33) (v : Nat) (K : Post)
    (hK : ∀ j, j ≤ o.length → (∀ k s, k < j → o[k]? = some s → ltW s w = true) → (∀ s, o[j]? = some s → ltW s w = false) → AtK K (.exit 2) ⟨77, [(0, .agg [ch]), (1, .ptr 0 0 0), (2, .v (.slice none 0 0)), (3, intA 0), (12, .v (.bool false)), (4, .sl 1 v 0 o.length none), (5, p), (6, intA i), (18, .v (.bool true)), (7, .v (.string w)), (8, intA j)], []⟩ ⟨[some (.cells 0 0 24 1 false [ch]), some (.cells v 0 9 1 true (clW o))], 0⟩) :
    Lp (Cx e) 21 none [0, 1, 2, 3, 12, 4, 5, 6, 18, 7, 8] (((Try.f21.body.map loops).getD [])[1]?.getD .skip) ⟨77, [(0, .agg [ch]), (1, .ptr 0 0 0), (2, .v (.slice none 0 0)), (3, intA 0), (12, .v (.bool false)), (4, .sl 1 v 0 o.length none), (5, p), (6, intA i), (18, .v (.bool true)), (7, .v (.string w)), (8, intA 0)], []⟩ ⟨[some (.cells 0 0 24 1 false [ch]), some (.cells v 0 9 1 true (clW o))], 0⟩ K := by
  simp only [Try.f21, loops, Option.map_some, Option.getD_some, List.nil_append, List.append_nil, List.cons_append, List.getElem?_cons_zero, List.getElem?_cons_succ]
  refine Lp_rule (P := fun μ a H => ∃ j, j + μ = o.length ∧ (∀ k s, k < j → o[k]? = some s → ltW s w = true) ∧ a = ⟨77, [(0, .agg [ch]), (1, .ptr 0 0 0), (2, .v (.slice none 0 0)), (3, intA 0), (12, .v (.bool false)), (4, .sl 1 v 0 o.length none), (5, p), (6, intA i), (18, .v (.bool true)), (7, .v (.string w)), (8, intA j)], []⟩ ∧ H = ⟨[some (.cells 0 0 24 1 false [ch]), some (.cells v 0 9 1 true (clW o))], 0⟩) ?_ o.length _ _ ⟨0, by omega, fun k s hk => by omega, rfl, rfl⟩
  rintro μ _ _ ⟨j, hj, hlo, rfl, rfl⟩
  by_cases hjl : j < o.length
  · obtain ⟨s, hs⟩ := at_lt o j hjl
    have hlt : (j : Int) < (o.length : Int) := by omega
    have hw := wrap_succ j (by omega)
    have hix := slIdx_at 1 1 v 0 o.length none j hjl
    rw [Nat.zero_add, Nat.mul_one] at hix
    have hld : loadA Try.prog ⟨[some (.cells 0 0 24 1 false [ch]), some (.cells v 0 9 1 true (clW o))], 0⟩ 9 (.ptr 1 v j) = some (.v (.string s)) := load_word (m := 0) (by simp [Heap.row, Heap.get]) hs
    cases hL : ltW s w
    · have hLb := hL
      unfold ltW at hLb
      simp -implicitDefEqProofs only [go_sem, ↓reduceIte, Int.reduceEq, Int.reduceLT, Int.reduceLE, List.reduceReplicate, intA, setT_nil, setT_cons, hlt, hix, hld, hLb, hw, ↓boolP_bool, ↓iteB_true, ↓iteB_false, bound_sl]
      have h := hK j (by omega) hlo (fun s' hs' => by rw [hs] at hs'; cases hs'; exact hL)
      unfold intA at h
      exact h
    · have hL' := hL
      have hLb := hL
      unfold ltW at hLb
      simp -implicitDefEqProofs only [go_sem, ↓reduceIte, Int.reduceEq, Int.reduceLT, Int.reduceLE, List.reduceReplicate, intA, setT_nil, setT_cons, hlt, hix, hld, hLb, hw, ↓boolP_bool, ↓iteB_true, ↓iteB_false, bound_sl, hp, hcb, trim_at]
      exact ⟨μ - 1, by omega, j + 1, by omega, fun k s' hk hs' => by
        by_cases h : k < j
        · exact hlo k s' h hs'
        · obtain rfl : k = j := by omega
          rw [hs] at hs'; cases hs'; exact hL', rfl, rfl⟩
  · have hlt : ¬ (j : Int) < (o.length : Int) := by omega
    simp -implicitDefEqProofs only [go_sem, ↓reduceIte, Int.reduceEq, Int.reduceLT, Int.reduceLE, List.reduceReplicate, intA, setT_nil, setT_cons, hlt, ↓boolP_bool, ↓iteB_true, ↓iteB_false, bound_sl]
    have h := hK j (by omega) hlo (fun s' hs' => by have := (List.getElem?_eq_some_iff.1 hs').1; omega)
    unfold intA at h
    exact h
set_option maxHeartbeats 2000000 in
theorem ansR21 {e : Exts} (he : Quiet e) (t : Txt) (ht : Fits t) (hs : (wordsT 0 t).length < 2 ^ 33) (ch : AV) (xs : List AV) (hch : SlOf 2 xs ch) (hall : All2 ChapA t xs) : Ans (Cx e) 21 [.agg [ch]] (if textB t = false then .tup [.v (.slice none 0 0), intA 10] else .tup [wdsV (vocL t), intA 0]) := by
  have h39 := fun me d H => call39 he t ht _ ⟨ch, rfl, xs, hch, hall⟩ me d H
  unfold Ans
  rw [fn_step (fn_21 e) (show Try.f21.body = some _ from rfl)]
  cases h1 : textB t
  · rw [h1] at h39
    simp -implicitDefEqProofs only [Try.f21, go_sem, ↓reduceIte, Int.reduceEq, Int.reduceLT, Int.reduceLE, List.reduceReplicate, intA, setT_nil, setT_cons, hch.cells, hch.flat, hch.bound, h39, ↓boolP_bool, ↓iteB_true, ↓iteB_false, Bool.not_false]
    rfl
  · rw [h1] at h39
    have h43 := fun me d H => callR43 he t ht hs hch hall me d H
    have hsl := plsN_sl (allN t)
    have hlen := hsl.len
    rw [List.length_map, allN_len] at hlen
    have hlenI := hsl.lenI
    simp -implicitDefEqProofs only [Try.f21, go_sem, ↓reduceIte, Int.reduceEq, Int.reduceLT, Int.reduceLE, List.reduceReplicate, intA, setT_nil, setT_cons, hch.cells, hch.flat, hch.bound, h39, h43, ↓boolP_bool, ↓iteB_true, ↓iteB_false, Bool.not_true]
    have hfr : ∀ o : List ByteArray, o.length < 2 ^ 33 → True := fun _ _ => trivial
    refine Lp_rule (P := fun μ a H => ∃ i o, i + μ = (wordsT 0 t).length ∧ o.length ≤ i ∧ (o.Pairwise fun a b => ltW a b = true) ∧ (∀ w, w ∈ o ↔ w ∈ ((wordsT 0 t).take i).map (·.2)) ∧ In21 ch (plsN (allN t)) [(6, intA i)] o a H) ?_ (wordsT 0 t).length _ _ ⟨0, [], by omega, Nat.le_refl _, List.Pairwise.nil, by simp, Or.inl ⟨rfl, rfl, rfl⟩⟩
    rintro μ a H ⟨i, o, hi, hol, hpw, hmem, hin⟩
    by_cases hil : i < (wordsT 0 t).length
    · obtain ⟨y, hy⟩ := at_lt (wordsT 0 t) i hil
      have hix := hsl.idx (show ((allN t).map plN)[i]? = some (plN y.1) by rw [List.getElem?_map, allN_get hy]; rfl)
      unfold plN intA at hix
      have hlt : (i : Int) < ((wordsT 0 t).length : Int) := by omega
      have hw := wrap_succ i (by omega)
      have h47 := fun me d => callIR47 he ht hch hall hy me d
      have hmem2 : ∀ w, w ∈ ((wordsT 0 t).take (i + 1)).map (·.2) ↔ w = y.2 ∨ w ∈ ((wordsT 0 t).take i).map (·.2) := by
        intro w
        rw [List.take_add_one, hy, List.map_append, List.mem_append]
        simp only [Option.toList_some, List.map_cons, List.map_nil, List.mem_singleton]
        exact Or.comm
      rcases hin with ⟨rfl, rfl, rfl⟩ | ⟨v, ho, rfl, rfl⟩
      · simp -implicitDefEqProofs only [go_sem, ↓reduceIte, Int.reduceEq, Int.reduceLT, Int.reduceLE, List.reduceReplicate, intA, setT_nil, setT_cons, hch.cells, hch.flat, hch.bound, hsl.bound, hlen, hlt]
        refine wp_draw (by kernel_rfl) ?_
        simp -implicitDefEqProofs only [go_sem, ↓reduceIte, Int.reduceEq, Int.reduceLT, Int.reduceLE, List.reduceReplicate, intA, setT_nil, setT_cons, hch.cells, hch.flat, hch.bound, hsl.bound, hlen, hlenI, hlt, hix, h47, hw, ↓boolP_bool, ↓iteB_true, ↓iteB_false, trim_at]
        refine Lp_rule (P := fun μ a H => a = ⟨77, [(0, .agg [ch]), (1, .ptr 0 0 0), (2, .v (.slice none 0 0)), (3, intA 0), (12, .v (.bool false)), (4, .v (.slice none 0 0)), (5, plsN (allN t)), (6, intA i), (18, .v (.bool true)), (7, .v (.string y.2)), (8, intA 0)], []⟩ ∧ H = ⟨[some (.cells 0 0 24 1 false [ch])], 0⟩) ?_ 0 _ _ ⟨rfl, rfl⟩
        rintro μ' _ _ ⟨rfl, rfl⟩
        have hf16 : fitsA 16 1 = true := by decide
        have hsn : slLen (.v (.slice none 0 0)) = some (.v (.int .i64 0)) := rfl
        simp -implicitDefEqProofs only [go_sem, ↓reduceIte, Int.reduceEq, Int.reduceLT, Int.reduceLE, List.reduceReplicate, intA, setT_nil, setT_cons, hch.cells, hch.flat, hch.bound, hsl.bound, hw, hf16, hsn, Int.lt_irrefl, ↓boolP_bool, ↓iteB_true, ↓iteB_false, trim_at, trim_not, bound_sl, List.flatMap_cons, List.flatMap_nil]
        refine shift21 hsl.bound hch.bound y.2 i 0 [] (by simp) (Nat.le_refl _) 0 ⟨#[]⟩ _ fun x => ?_
        have hi1 : slIdx 1 (AV.sl 1 0 0 1 none) (.v (.int .i64 ((0 : Nat) : Int))) = some (.ptr 1 0 0) := slIdx_at 1 1 0 0 1 none 0 (by omega)
        have hsp : List.take 0 (clW [x]) ++ [AV.v (Value.string y.2)] ++ List.drop (0 + 1) (clW [x]) = clW [y.2] := rfl
        have hsp2 : clW [x] = [AV.v (Value.string x)] := rfl
        unfold intA
        simp -implicitDefEqProofs only [go_sem, ↓reduceIte, Int.reduceEq, Int.reduceLT, Int.reduceLE, List.reduceReplicate, intA, setT_nil, setT_cons, hch.bound, hsl.bound, hi1, hsp2, hw, bound_sl, trim_at, trim_not, ↓boolP_bool, ↓iteB_true, ↓iteB_false]
        exact ⟨μ - 1, by omega, i + 1, [y.2], by omega, by simp, List.pairwise_singleton _ _, fun w => by rw [hmem2 w, ← hmem w]; simp, Or.inr ⟨0, by simp, rfl, rfl⟩⟩
      · simp -implicitDefEqProofs only [go_sem, ↓reduceIte, Int.reduceEq, Int.reduceLT, Int.reduceLE, List.reduceReplicate, intA, setT_nil, setT_cons, hch.cells, hch.flat, hch.bound, hsl.bound, hlen, hlt]
        refine wp_draw (by kernel_rfl) ?_
        simp -implicitDefEqProofs only [go_sem, ↓reduceIte, Int.reduceEq, Int.reduceLT, Int.reduceLE, List.reduceReplicate, intA, setT_nil, setT_cons, hch.cells, hch.flat, hch.bound, hsl.bound, hlen, hlenI, hlt, hix, h47, hw, ↓boolP_bool, ↓iteB_true, ↓iteB_false, trim_at]
        refine find21 hsl.bound hch.bound y.2 i o (by omega) v _ fun j hj hlo hhi => ?_
        unfold intA
        by_cases hjn : j < o.length
        · obtain ⟨s, hs⟩ := at_lt o j hjn
          have hne : decide ((j : Int) = (o.length : Int)) = false := decide_eq_false (by omega)
          have hij := slIdx_at 1 1 v 0 o.length none j hjn
          rw [Nat.zero_add, Nat.mul_one] at hij
          have hld : loadA Try.prog ⟨[some (.cells 0 0 24 1 false [ch]), some (.cells v 0 9 1 true (clW o))], 0⟩ 9 (.ptr 1 v j) = some (.v (.string s)) := load_word (m := 0) (by simp [Heap.row, Heap.get]) hs
          cases hsw : decide (s = y.2)
          · simp -implicitDefEqProofs only [go_sem, ↓reduceIte, Int.reduceEq, Int.reduceLT, Int.reduceLE, List.reduceReplicate, intA, setT_nil, setT_cons, hne, hij, hld, hsw, ↓boolP_bool, ↓iteB_true, ↓iteB_false, Bool.not_false, Bool.not_true]
            have hgt : ∀ s, o[j]? = some s → ltW y.2 s = true := by
              intro s' hs'
              rw [hs] at hs'; cases hs'
              cases hc : ltW y.2 s
              · exact absurd (strictW.total _ _ (hhi s hs) hc) (of_decide_eq_false hsw)
              · rfl
            have hwn : IntKind.i64.wrap (((o.length + 1 : Nat) : Int) - 1) = (o.length : Int) := by rw [wrap_in _ (by omega) (by omega)]; omega
            have hca : clW o ++ [AV.v (Value.string ⟨#[]⟩)] = clW (o ++ [⟨#[]⟩]) := by simp [clW, strK]
            have hlen' : (o.take j ++ y.2 :: o.drop j).length = o.length + 1 := by rw [List.length_append, List.length_take, List.length_cons, List.length_drop]; omega
            simp -implicitDefEqProofs only [go_sem, ↓reduceIte, Int.reduceEq, Int.reduceLT, Int.reduceLE, List.reduceReplicate, intA, setT_nil, setT_cons, List.flatMap_cons, List.flatMap_nil]
            rw [appTo_own (m := 0) (e' := 9) (cs := clW o) (by simp [Heap.row, Heap.get]) (by rw [clW_len]; omega) (Nat.zero_le _) (by unfold fitsA; exact decide_eq_true (by omega)) (by omega) (by omega)]
            simp -implicitDefEqProofs only [go_sem, ↓reduceIte, Int.reduceEq, Int.reduceLT, Int.reduceLE, List.reduceReplicate, intA, setT_nil, setT_cons, hwn, hca]
            refine shift21 hsl.bound hch.bound y.2 i j o (by omega) hj (v + 1) ⟨#[]⟩ _ fun x => ?_
            have hi1 := slIdx_at 1 1 (v + 1) 0 (o.length + 1) none j (by omega)
            rw [Nat.zero_add, Nat.mul_one] at hi1
            have hjl : j < (o.take j ++ x :: o.drop j).length := by rw [List.length_append, List.length_take, List.length_cons]; omega
            have hsp := splice_word _ j y.2 hjl
            rw [set_mid hj] at hsp
            unfold splice at hsp
            have hle : (j + 1 ≤ (clW (o.take j ++ x :: o.drop j)).length) = True := eq_true (by rw [clW_len]; exact hjl)
            rw [show ([AV.v (Value.string y.2)] : List AV).length = 1 from rfl] at hsp
            unfold intA
            simp -implicitDefEqProofs only [go_sem, ↓reduceIte, Int.reduceEq, Int.reduceLT, Int.reduceLE, List.reduceReplicate, intA, setT_nil, setT_cons, hch.bound, hsl.bound, hi1, hle, hsp, hw, bound_sl, trim_at, ↓boolP_bool, ↓iteB_true, ↓iteB_false]
            exact ⟨μ - 1, by omega, i + 1, o.take j ++ y.2 :: o.drop j, by omega, by omega, ins_pair hpw hlo hgt, fun w => by rw [hmem2 w, ← hmem w]; exact ins_mem, Or.inr ⟨v + 1, by simp, by rw [hlen']; rfl, rfl⟩⟩
          · simp -implicitDefEqProofs only [go_sem, ↓reduceIte, Int.reduceEq, Int.reduceLT, Int.reduceLE, List.reduceReplicate, intA, setT_nil, setT_cons, hne, hij, hld, hsw, hch.bound, hsl.bound, hw, bound_sl, trim_at, ↓boolP_bool, ↓iteB_true, ↓iteB_false, Bool.not_false, Bool.not_true]
            have hsy : s = y.2 := of_decide_eq_true hsw
            exact ⟨μ - 1, by omega, i + 1, o, by omega, by omega, hpw, fun w => by
              rw [hmem2 w, ← hmem w]
              exact ⟨fun h => Or.inr h, fun h => h.elim (fun h => by rw [h, ← hsy]; exact List.mem_of_getElem? hs) id⟩, Or.inr ⟨v, ho, rfl, rfl⟩⟩
        · have hne : decide ((j : Int) = (o.length : Int)) = true := decide_eq_true (by omega)
          simp -implicitDefEqProofs only [go_sem, ↓reduceIte, Int.reduceEq, Int.reduceLT, Int.reduceLE, List.reduceReplicate, intA, setT_nil, setT_cons, hne, ↓boolP_bool, ↓iteB_true, ↓iteB_false, Bool.not_false, Bool.not_true]
          have hgt : ∀ s, o[j]? = some s → ltW y.2 s = true := fun s' hs' => by have := (List.getElem?_eq_some_iff.1 hs').1; omega
          have hwn : IntKind.i64.wrap (((o.length + 1 : Nat) : Int) - 1) = (o.length : Int) := by rw [wrap_in _ (by omega) (by omega)]; omega
          have hca : clW o ++ [AV.v (Value.string ⟨#[]⟩)] = clW (o ++ [⟨#[]⟩]) := by simp [clW, strK]
          have hlen' : (o.take j ++ y.2 :: o.drop j).length = o.length + 1 := by rw [List.length_append, List.length_take, List.length_cons, List.length_drop]; omega
          simp -implicitDefEqProofs only [go_sem, ↓reduceIte, Int.reduceEq, Int.reduceLT, Int.reduceLE, List.reduceReplicate, intA, setT_nil, setT_cons, List.flatMap_cons, List.flatMap_nil]
          rw [appTo_own (m := 0) (e' := 9) (cs := clW o) (by simp [Heap.row, Heap.get]) (by rw [clW_len]; omega) (Nat.zero_le _) (by unfold fitsA; exact decide_eq_true (by omega)) (by omega) (by omega)]
          simp -implicitDefEqProofs only [go_sem, ↓reduceIte, Int.reduceEq, Int.reduceLT, Int.reduceLE, List.reduceReplicate, intA, setT_nil, setT_cons, hwn, hca]
          refine shift21 hsl.bound hch.bound y.2 i j o (by omega) hj (v + 1) ⟨#[]⟩ _ fun x => ?_
          have hi1 := slIdx_at 1 1 (v + 1) 0 (o.length + 1) none j (by omega)
          rw [Nat.zero_add, Nat.mul_one] at hi1
          have hjl : j < (o.take j ++ x :: o.drop j).length := by rw [List.length_append, List.length_take, List.length_cons]; omega
          have hsp := splice_word _ j y.2 hjl
          rw [set_mid hj] at hsp
          unfold splice at hsp
          have hle : (j + 1 ≤ (clW (o.take j ++ x :: o.drop j)).length) = True := eq_true (by rw [clW_len]; exact hjl)
          rw [show ([AV.v (Value.string y.2)] : List AV).length = 1 from rfl] at hsp
          unfold intA
          simp -implicitDefEqProofs only [go_sem, ↓reduceIte, Int.reduceEq, Int.reduceLT, Int.reduceLE, List.reduceReplicate, intA, setT_nil, setT_cons, hch.bound, hsl.bound, hi1, hle, hsp, hw, bound_sl, trim_at, ↓boolP_bool, ↓iteB_true, ↓iteB_false]
          exact ⟨μ - 1, by omega, i + 1, o.take j ++ y.2 :: o.drop j, by omega, by omega, ins_pair hpw hlo hgt, fun w => by rw [hmem2 w, ← hmem w]; exact ins_mem, Or.inr ⟨v + 1, by simp, by rw [hlen']; rfl, rfl⟩⟩

    · obtain rfl : i = (wordsT 0 t).length := by omega
      rw [List.take_length] at hmem
      have hov : o = vocL t := strict_uniq strictW hpw (voc_str t) fun a => by rw [hmem a, voc_mem]
      rcases hin with ⟨rfl, rfl, rfl⟩ | ⟨v, ho, rfl, rfl⟩
      · simp -implicitDefEqProofs only [go_sem, ↓reduceIte, Int.reduceEq, Int.reduceLT, Int.reduceLE, List.reduceReplicate, intA, setT_nil, setT_cons, hch.cells, hch.bound, hsl.bound, hlen, Int.lt_irrefl]
        rw [← hov]; rfl
      · simp -implicitDefEqProofs only [go_sem, ↓reduceIte, Int.reduceEq, Int.reduceLT, Int.reduceLE, List.reduceReplicate, intA, setT_nil, setT_cons, hch.cells, hch.bound, hsl.bound, hlen, Int.lt_irrefl]
        rw [← hov]
        exact freeze_tup_int (freeze_wdsK o ho rfl (by simp [Heap.row, Heap.get]) 999997) 0
end Go.Ev
namespace Go.Ev
open Go.Proofs
set_option maxRecDepth 100000
set_option linter.unusedSimpArgs false
attribute [local irreducible] Wp WpS
/-! ### the program's Words, Places and Vocabulary, for all texts -/
theorem ansR8 {e : Exts} (he : Quiet e) (t : Txt) (ht : Fits t) (hs : (wordsT 0 t).length < 2 ^ 33) (ch : AV) (xs : List AV) (hch : SlOf 2 xs ch) (hall : All2 ChapA t xs) : Ans (Cx e) 8 [.agg [ch]] (if textB t then .tup [intA (wordsT 0 t).length, intA 0] else .tup [intA 0, intA 10]) := by
  have h := ans14 he t ht ch xs hch hall
  rw [allIts_eq hall, List.length_map, wrap_nat _ (by omega)] at h
  exact h
def plcI (p : Plc) : P3 := (p.1, p.2.1, p.2.2)
theorem plsN_V (l : List Plc) : plsN l = plsV (l.map plcI) := by
  cases l with
  | nil => rfl
  | cons p r =>
    show AV.vs 3 ((p :: r).map plN) none = .vs 3 (((p :: r).map plcI).map p3V) none
    rw [List.map_map]; rfl
theorem ansR18 {e : Exts} (he : Quiet e) (t : Txt) (ht : Fits t) (ch : AV) (xs : List AV) (hch : SlOf 2 xs ch) (hall : All2 ChapA t xs) (w : ByteArray) (hws : w.size < 2 ^ 63) : Ans (Cx e) 18 [.agg [ch], .v (.string w)] (if textB t = false then .tup [.v (.slice none 0 0), intA 10] else if wordB w = false then .tup [.v (.slice none 0 0), intA 2] else .tup [plsV (placesL w (wordsT 0 t)), intA 0]) := by
  have hc := fun me d H => call40 he t ht ch ⟨xs, hch, hall⟩ me d H
  cases h1 : textB t
  · rw [h1] at hc
    simp only [Bool.false_eq_true, if_false, intA] at hc
    unfold Ans
    rw [fn_step (fn_18 e) (show Try.f18.body = some _ from rfl)]
    simp -implicitDefEqProofs only [Try.f18, go_sem, ↓reduceIte, Int.reduceEq, Int.reduceLT, Int.reduceLE, List.reduceReplicate, intA, setT_nil, setT_cons, hch.cells, hch.flat, hch.bound, hc, ↓boolP_bool, ↓iteB_true, ↓iteB_false, Int.reduceNe, decide_true, decide_false]
    rfl
  · cases h2 : wordB w
    · have h49 := fun me d H => call49 he w hws me d H
      rw [h2] at h49
      rw [h1] at hc
      simp only [if_true, intA] at hc
      unfold Ans
      rw [fn_step (fn_18 e) (show Try.f18.body = some _ from rfl)]
      simp -implicitDefEqProofs only [Try.f18, go_sem, ↓reduceIte, Int.reduceEq, Int.reduceLT, Int.reduceLE, List.reduceReplicate, intA, setT_nil, setT_cons, hch.cells, hch.flat, hch.bound, hc, h49, ↓boolP_bool, ↓iteB_true, ↓iteB_false, Int.reduceNe, decide_true, decide_false, Bool.not_false]
      rfl
    · exact ans21 he ht h1 hch hall w hws h2
theorem ansR20 (t : Txt) (ht : Fits t) (ch : AV) (xs : List AV) (hch : SlOf 2 xs ch) (hall : All2 ChapA t xs) : Ans (Cx eA) 20 [.agg [ch]] (if textB t = false then .tup [.v (.slice none 0 0), intA 10] else .tup [wdsV (vocL t), intA 0]) := by
  have hc := fun me d H => call40 quietA t ht ch ⟨xs, hch, hall⟩ me d H
  cases h1 : textB t
  · rw [h1] at hc
    simp only [Bool.false_eq_true, if_false, intA] at hc
    unfold Ans
    rw [fn_step (fn_20 eA) (show Try.f20.body = some _ from rfl)]
    simp -implicitDefEqProofs only [Try.f20, go_sem, ↓reduceIte, Int.reduceEq, Int.reduceLT, Int.reduceLE, List.reduceReplicate, intA, setT_nil, setT_cons, hch.cells, hch.flat, hch.bound, hc, ↓boolP_bool, ↓iteB_true, ↓iteB_false, Int.reduceNe, decide_true, decide_false]
    rfl
  · exact ans20 ht h1 hch hall
end Go.Ev
namespace Go.Ev
open Go.Proofs
set_option maxRecDepth 100000
set_option linter.unusedSimpArgs false
/-! ### lists of copies from arguments of plain data -/
end Go.Ev
namespace Go.Ev
open Go.Proofs Go.Sort
set_option maxRecDepth 100000
set_option linter.unusedSimpArgs false
attribute [local irreducible] Wp WpS
@[go_sem] theorem keepS_33 : Cs.keep 22 = [0, 1, 10, 5, 14, 25, 4] := rfl
theorem fnS_33 : Cs.P.funcs[22]? = some Try.f22 := Try.func22
/-! ### lists of places that are the same -/
set_option maxHeartbeats 2000000 in
theorem ans33 (l : List P3) (hn : l.length < 2 ^ 62) : Ans Cs 22 [plsV l, plsV l] (.v (.bool true)) := by
  have hd := plsV_sl l
  have hdl := hd.len
  rw [List.length_map] at hdl
  unfold Ans
  rw [fn_step fnS_33 (show Try.f22.body = some _ from rfl)]
  simp -implicitDefEqProofs only [Try.f22, go_sem, ↓reduceIte, Int.reduceEq, Int.reduceLT, Int.reduceLE, List.reduceReplicate, intA, setT_nil, setT_cons, ↓boolP_bool, ↓iteB_true, ↓iteB_false, hdl, decide_true]
  refine Lp_rule (P := fun μ a H => ∃ i : Nat, i + μ = l.length ∧ a = ⟨26, [(0, plsV l), (1, plsV l), (4, .v (.bool false)), (10, .v (.bool false)), (5, intA i)], []⟩ ∧ H = ⟨[], 0⟩) ?_ l.length _ _ ⟨0, by omega, rfl, rfl⟩
  rintro μ _ _ ⟨i, hi, rfl, rfl⟩
  by_cases hlt : (i : Int) < (l.length : Int)
  · obtain ⟨q, hq⟩ := at_lt l i (by omega)
    have hiq := hd.idx (show (l.map p3V)[i]? = some (p3V q) by rw [List.getElem?_map, hq]; rfl)
    unfold p3V intA at hiq
    have hw := wrap_succ i (by omega)
    have heq := eqP_iff q q
    rw [decide_eq_true rfl] at heq
    simp -implicitDefEqProofs only [go_sem, ↓reduceIte, Int.reduceEq, Int.reduceLT, Int.reduceLE, List.reduceReplicate, intA, setT_nil, setT_cons, ↓boolP_bool, ↓iteB_true, ↓iteB_false, hdl, hlt]
    refine wp_drawX [([], [], false), ([], [], false), ([], [], false), ([], [], false), ([], [], false), ([], [], false), ([], [], false), ([3], [], false), ([], [], false)] (by kernel_rfl) (by kernel_rfl) ?_
    simp -implicitDefEqProofs only [go_sem, ↓reduceIte, Int.reduceEq, Int.reduceLT, Int.reduceLE, List.reduceReplicate, intA, setT_nil, setT_cons, ↓boolP_bool, ↓iteB_true, ↓iteB_false, hdl, hlt, hiq, neq32, heq, Bool.not_true, hw, trim_at, plsV_bound]
    exact ⟨μ - 1, by omega, i + 1, by omega, rfl, rfl⟩
  · simp -implicitDefEqProofs only [go_sem, ↓reduceIte, Int.reduceEq, Int.reduceLT, Int.reduceLE, List.reduceReplicate, intA, setT_nil, setT_cons, ↓boolP_bool, ↓iteB_true, ↓iteB_false, hdl, hlt]
/-! ### rows of copies -/
end Go.Ev
namespace Go.Ev
open Go.Proofs
set_option maxRecDepth 100000
set_option linter.unusedSimpArgs false
attribute [local irreducible] Wp WpS
theorem callI31 {e : Exts} (he : Quiet e) (a b : AV) (xs ys : List ByteArray) (ha : SlOf 1 (strs xs) a) (hb : SlOf 1 (strs ys) b) (hn : xs.length < 2 ^ 63) (me : FuncId) (d : Option Tmp) : callI (Cx e) me 23 d [a, b] = some (.v (.bool (decide (xs = ys)))) := by
  have hbd : boundL [a, b] = 0 := by simp only [boundL_cons, ha.bound, hb.bound, boundL_nil]; rfl
  refine callI_of (fun H => callP31 he a b xs ys (Or.inl ha) hb hn me d) (Or.inr ?_)
  unfold callKind; rw [pure_23, hbd]; rfl
def base27 (ch ch' : AV) : Fm := [(0, .cells 0 0 24 1 false [ch]), (1, .cells 0 0 24 1 false [ch'])]
theorem stay27 (ch ch' : AV) : Stay 2 (base27 ch ch') := by
  intro p hp
  unfold base27 at hp
  simp only [List.mem_cons, List.not_mem_nil, or_false] at hp
  rcases hp with rfl | rfl <;> exact ⟨by simp, by simp⟩
theorem base27_of (ch ch' : AV) : Has (base27 ch ch') ⟨[some (.cells 0 0 24 1 false [ch]), some (.cells 0 0 24 1 false [ch'])], 0⟩ := by
  intro p hp
  unfold base27 at hp
  simp only [List.mem_cons, List.not_mem_nil, or_false] at hp
  rcases hp with rfl | rfl <;> rfl
set_option maxHeartbeats 8000000 in
theorem ans27 {e : Exts} (he : Quiet e) (t u : Txt) (ht : Fits t) (hu : Fits u) (ch ch' : AV) (xs xs' : List AV) (hch : SlOf 2 xs ch) (hall : All2 ChapA t xs) (hch' : SlOf 2 xs' ch') (hall' : All2 ChapA u xs') :
    Ans (Cx e) 24 [.agg [ch], .agg [ch']] (.v (.bool (decide (t = u)))) := by
  have hfit := ht.chs
  have hfit' := hu.chs
  unfold Ans
  rw [fn_step (fn_24 e) (show Try.f24.body = some _ from rfl)]
  by_cases hl : t.length = u.length
  · have hli : ((t.length : Int) = (u.length : Int)) := by omega
    simp -implicitDefEqProofs only [Try.f24, go_sem, ↓reduceIte, Int.reduceEq, Int.reduceLT, Int.reduceLE, List.reduceReplicate, intA, setT_nil, setT_cons, ↓boolP_bool, ↓iteB_true, ↓iteB_false, hch.len, hch.cells, hch.flat, hch.bound, hch'.len, hch'.cells, hch'.flat, hch'.bound, ← hall.1, ← hall'.1, hli]
    refine Lp_rule (P := fun μ a' H => ∃ k, k + μ = t.length ∧ a' = ⟨66, [(0, .agg [ch]), (1, .agg [ch']), (2, .ptr 0 0 0), (3, .ptr 1 0 0), (4, .v (.bool false)), (15, .v (.bool false)), (5, intA k)], []⟩ ∧ MB 2 (base27 ch ch') H [] (.v (.slice none 0 0)) ∧ decide (t = u) = decide (t.drop k = u.drop k)) ?_ t.length _ _ ⟨0, by omega, rfl, ⟨rfl, Nat.le_refl _, base27_of ch ch', Or.inl ⟨rfl, rfl⟩⟩, rfl⟩
    rintro μ _ X ⟨k, hk, rfl, hM, ho⟩
    obtain ⟨N, hN⟩ : ∃ N, X.size = N := ⟨_, rfl⟩
    have hlk : X.lock ≤ N := by rw [hM.lock]; omega
    have hN2 : 2 ≤ N := by have := hM.size; omega
    have hr0 := hM.row (b := 0) (v := 0) (m := 0) (e := 24) (sz := 1) (g := false) (cs := [ch]) (by simp [base27])
    have hr1 := hM.row (b := 1) (v := 0) (m := 0) (e := 24) (sz := 1) (g := false) (cs := [ch']) (by simp [base27])
    rw [← plus_nil X]
    by_cases hlt : (k : Int) < (t.length : Int)
    · obtain ⟨c, hs⟩ := at_lt t k (by omega)
      obtain ⟨c', hs'⟩ := at_lt u k (by omega)
      obtain ⟨z, hz, l, rfl, lxs, hll, hls⟩ := hall.get hs
      obtain ⟨z', hz', l', rfl, lxs', hll', hls'⟩ := hall'.get hs'
      have hw := wrap_succ k (by omega)
      rw [drop_eq_cons hs, drop_eq_cons hs'] at ho
      have hi := hch.idx hz
      have hi' := hch'.idx hz'
      unfold intA at hi hi'
      have g0 : ltB 0 N = true := by unfold ltB; simp; omega
      have g1 : ltB 1 N = true := by unfold ltB; simp; omega
      simp -implicitDefEqProofs only [go_sem, ↓reduceIte, Int.reduceEq, Int.reduceLT, Int.reduceLE, List.reduceReplicate, intA, setT_nil, setT_cons, ↓boolP_bool, ↓iteB_true, ↓iteB_false, hr0, hr1, hch.len, hch.cells, ← hall.1, hlt, sizeP hN, putP0 hN, putP hN, settleP0 hN, settleP hN, rowP0 hN, rowP hN, storeP0 hN hlk, storeP hN hlk, List.length_nil, Nat.add_zero]
      refine wp_drawX [([], [], false), ([], [], false), ([], [], false), ([], [], false), ([], [], false), ([], [], false), ([1, 4], [], false), ([], [], false), ([], [], false), ([1, 4], [], false), ([1, 4, 6, 9], [], false), ([1, 4, 6, 9, 10], [], false), ([6, 9], [10, 11], false), ([], [10, 11], false)] (by kernel_rfl) (by kernel_rfl) ?_
      have b1 : ((1 : Nat) == N + 10) = false := by simp
      have b2 : ((0 : Nat) == N + 10) = false := by simp
      have b3 : ((1 : Nat) == N + 11) = false := by simp
      have b4 : ((0 : Nat) == N + 11) = false := by simp
      have hne : ¬ (c.1 = c'.1 ∧ c.2.length = c'.2.length) → false = decide (t = u) := fun hh => by
        rw [ho]
        exact (decide_eq_false (fun h => hh (by rw [(List.cons.inj h).1]; exact ⟨rfl, rfl⟩))).symm
      cases k1 : decide (c.1 = c'.1)
      · simp -implicitDefEqProofs only [go_sem, ↓reduceIte, Int.reduceEq, Int.reduceLT, Int.reduceLE, List.reduceReplicate, intA, setT_nil, setT_cons, ↓boolP_bool, ↓iteB_true, ↓iteB_false, k1, hr0, hr1, g0, g1, b1, b2, b3, b4, hch.len, hch'.len, hch.cells, hch'.cells, hi, hi', hch.objs, hch'.objs, hll.cells, hll'.cells, hll.flat, hll'.flat, hll.bound, hll'.bound, hll.len, hll'.len, ← hls.1, ← hls'.1, sizeP hN, putP0 hN, putP hN, settleP0 hN, settleP hN, rowP0 hN, rowP hN, storeP0 hN hlk, storeP hN hlk, List.length_nil, Nat.add_zero]
        rw [← hne (fun hh => of_decide_eq_false k1 hh.1)]
      cases k2 : decide ((c.2.length : Int) = (c'.2.length : Int))
      · simp -implicitDefEqProofs only [go_sem, ↓reduceIte, Int.reduceEq, Int.reduceLT, Int.reduceLE, List.reduceReplicate, intA, setT_nil, setT_cons, ↓boolP_bool, ↓iteB_true, ↓iteB_false, k1, k2, hr0, hr1, g0, g1, b1, b2, b3, b4, hch.len, hch'.len, hch.cells, hch'.cells, hi, hi', hch.objs, hch'.objs, hll.cells, hll'.cells, hll.flat, hll'.flat, hll.bound, hll'.bound, hll.len, hll'.len, ← hls.1, ← hls'.1, sizeP hN, putP0 hN, putP hN, settleP0 hN, settleP hN, rowP0 hN, rowP hN, storeP0 hN hlk, storeP hN hlk, List.length_nil, Nat.add_zero]
        rw [← hne (fun hh => of_decide_eq_false k2 (by rw [hh.2]))]
      have hid := of_decide_eq_true k1
      have hln : c.2.length = c'.2.length := by have := of_decide_eq_true k2; omega
      simp -implicitDefEqProofs only [go_sem, ↓reduceIte, Int.reduceEq, Int.reduceLT, Int.reduceLE, List.reduceReplicate, intA, setT_nil, setT_cons, ↓boolP_bool, ↓iteB_true, ↓iteB_false, k1, k2, hr0, hr1, g0, g1, b1, b2, b3, b4, hch.len, hch'.len, hch.cells, hch'.cells, hi, hi', hch.objs, hch'.objs, hll.cells, hll'.cells, hll.flat, hll'.flat, hll.bound, hll'.bound, hll.len, hll'.len, ← hls.1, ← hls'.1, sizeP hN, putP0 hN, putP hN, settleP0 hN, settleP hN, rowP0 hN, rowP hN, storeP0 hN hlk, storeP hN hlk, List.length_nil, Nat.add_zero]
      have hcm := List.mem_of_getElem? hs
      have hll63 := ht.lines c hcm
      have hcut : decide (t = u) = decide (c.2 = c'.2 ∧ t.drop (k + 1) = u.drop (k + 1)) := by
        rw [ho, decide_eq_decide]
        constructor
        · intro h; exact ⟨by rw [(List.cons.inj h).1], (List.cons.inj h).2⟩
        · intro h
          rw [h.2]
          have : c = c' := by
            obtain ⟨ci, cl⟩ := c
            obtain ⟨ci', cl'⟩ := c'
            have h1 : ci = ci' := hid
            have h2 : cl = cl' := h.1
            rw [h1, h2]
          rw [this]
      have hS4 : Stay (N + 12) (base27 ch ch' ++ [(N + 10, .cells 0 0 78 1 false [.v (.int .i64 c.1), l]), (N + 11, .cells 0 0 78 1 false [.v (.int .i64 c'.1), l'])]) := by
        intro p hp
        rcases List.mem_append.1 hp with hp | hp
        · exact ⟨by have := (stay27 ch ch' p hp).1; omega, (stay27 ch ch' p hp).2⟩
        · simp only [List.mem_cons, List.not_mem_nil, or_false] at hp
          rcases hp with rfl | rfl <;> exact ⟨by simp, by simp⟩
      refine Lp_rule (P := fun μ a' H => ∃ n, n + μ = c.2.length ∧ a' = ⟨66, [(0, .agg [ch]), (1, .agg [ch']), (2, .ptr 0 0 0), (3, .ptr 1 0 0), (4, .v (.bool false)), (15, .v (.bool false)), (5, intA k), (20, .v (.bool true)), (6, .ptr (N + 10) 0 0), (7, .ptr (N + 11) 0 0), (46, .v (.bool false)), (8, intA n)], []⟩ ∧ MB (N + 12) (base27 ch ch' ++ [(N + 10, .cells 0 0 78 1 false [.v (.int .i64 c.1), l]), (N + 11, .cells 0 0 78 1 false [.v (.int .i64 c'.1), l'])]) H [] (.v (.slice none 0 0)) ∧ decide (t = u) = decide (c.2.drop n = c'.2.drop n ∧ t.drop (k + 1) = u.drop (k + 1))) ?_ c.2.length _ _ ⟨0, by omega, rfl, ⟨hM.lock, by rw [plus_size, hN]; simp, fun p hp => ?_, Or.inl ⟨rfl, rfl⟩⟩, hcut⟩
      · rintro μ2 _ Y ⟨n, hn, rfl, hM2, ho2⟩
        obtain ⟨N4, hN4⟩ : ∃ N, Y.size = N := ⟨_, rfl⟩
        have hlk4 : Y.lock ≤ N4 := by rw [hM2.lock]; omega
        have hB4 : N + 12 ≤ N4 := by have := hM2.size; omega
        have ra := hM2.row (b := N + 10) (v := 0) (m := 0) (e := 78) (sz := 1) (g := false) (cs := [.v (.int .i64 c.1), l]) (by simp)
        have rb := hM2.row (b := N + 11) (v := 0) (m := 0) (e := 78) (sz := 1) (g := false) (cs := [.v (.int .i64 c'.1), l']) (by simp)
        have ga : ltB (N + 10) N4 = true := by unfold ltB; simp; omega
        have gb : ltB (N + 11) N4 = true := by unfold ltB; simp; omega
        rw [← plus_nil Y]
        by_cases hltn : (n : Int) < (c.2.length : Int)
        · obtain ⟨a, ha⟩ := at_lt c.2 n (by omega)
          obtain ⟨b, hb⟩ := at_lt c'.2 n (by omega)
          obtain ⟨ax, hax, hA⟩ := hls.get ha
          obtain ⟨bx, hbx, hB⟩ := hls'.get hb
          have hA : SlOf 1 (strs a) ax := hA
          have hB : SlOf 1 (strs b) bx := hB
          have hia := hll.idx hax
          have hib := hll'.idx hbx
          have hwn := wrap_succ n (by omega)
          have hc31 := callI31 he ax bx a b hA hB (ht.words c hcm a (List.mem_of_getElem? ha))
          rw [drop_eq_cons ha, drop_eq_cons hb] at ho2
          simp -implicitDefEqProofs only [go_sem, ↓reduceIte, Int.reduceEq, Int.reduceLT, Int.reduceLE, List.reduceReplicate, intA, setT_nil, setT_cons, ↓boolP_bool, ↓iteB_true, ↓iteB_false, ra, hll.len, hll.cells, ← hls.1, hltn, sizeP hN4, putP0 hN4, putP hN4, settleP0 hN4, settleP hN4, rowP0 hN4, rowP hN4, storeP0 hN4 hlk4, storeP hN4 hlk4, List.length_nil, Nat.add_zero]
          refine wp_drawX [([], [], false), ([], [], false), ([], [], false), ([], [], false), ([], [], false), ([], [], false), ([1, 4], [], false), ([], [], false), ([], [], false), ([1, 4], [], false), ([], [], false), ([], [], false)] (by kernel_rfl) (by kernel_rfl) ?_
          cases kk : decide (a = b)
          · rw [kk] at hc31
            have h0 : decide (t = u) = false := by
              rw [ho2]
              exact decide_eq_false fun h => of_decide_eq_false kk (List.cons.inj h.1).1
            simp -implicitDefEqProofs only [go_sem, ↓reduceIte, Int.reduceEq, Int.reduceLT, Int.reduceLE, List.reduceReplicate, intA, setT_nil, setT_cons, ↓boolP_bool, ↓iteB_true, ↓iteB_false, ra, rb, ga, gb, hia, hib, hA.cells, hB.cells, hA.flat, hB.flat, hll.objs, hll'.objs, hll.cells, hll'.cells, hc31, hwn, sizeP hN4, putP0 hN4, putP hN4, settleP0 hN4, settleP hN4, rowP0 hN4, rowP hN4, storeP0 hN4 hlk4, storeP hN4 hlk4, List.length_nil, Nat.add_zero]
            rw [h0]
          · rw [kk] at hc31
            have hab := of_decide_eq_true kk
            simp -implicitDefEqProofs only [go_sem, ↓reduceIte, Int.reduceEq, Int.reduceLT, Int.reduceLE, List.reduceReplicate, intA, setT_nil, setT_cons, ↓boolP_bool, ↓iteB_true, ↓iteB_false, ra, rb, ga, gb, hia, hib, hA.cells, hB.cells, hA.flat, hB.flat, hll.objs, hll'.objs, hll.cells, hll'.cells, hc31, hwn, sizeP hN4, putP0 hN4, putP hN4, settleP0 hN4, settleP hN4, rowP0 hN4, rowP hN4, storeP0 hN4 hlk4, storeP hN4 hlk4, List.length_nil, Nat.add_zero]
            exact ⟨μ2 - 1, by omega, n + 1, by omega, rfl, (hM2.plus _).trim hS4 hB4 _ _ (Nat.zero_le _), by rw [ho2, hab, decide_eq_decide]; simp⟩
        · have hfin : decide (t = u) = decide (t.drop (k + 1) = u.drop (k + 1)) := by
            rw [ho2, show c.2.drop n = [] from List.drop_eq_nil_of_le (by omega), show c'.2.drop n = [] from List.drop_eq_nil_of_le (by omega), decide_eq_decide]; simp
          simp -implicitDefEqProofs only [go_sem, ↓reduceIte, Int.reduceEq, Int.reduceLT, Int.reduceLE, List.reduceReplicate, intA, setT_nil, setT_cons, ↓boolP_bool, ↓iteB_true, ↓iteB_false, ra, hll.len, hll.cells, ← hls.1, hltn, hw, sizeP hN4, putP0 hN4, putP hN4, settleP0 hN4, settleP hN4, rowP0 hN4, rowP hN4, storeP0 hN4 hlk4, storeP hN4 hlk4, List.length_nil, Nat.add_zero]
          exact ⟨μ - 1, by omega, k + 1, by omega, rfl, (((hM2.plus []).trim hS4 hB4 _ _ (Nat.zero_le _)).sub (by omega) (fun p hp => List.mem_append_left _ hp)).trim (stay27 ch ch') hN2 _ _ (Nat.zero_le _), hfin⟩
      · rcases List.mem_append.1 hp with hp | hp
        · exact hM.base.plus _ p hp
        · simp only [List.mem_cons, List.not_mem_nil, or_false] at hp
          rcases hp with rfl | rfl
          · rw [plus_get_hi _ (by omega), hN, show N + 10 - N = 10 by omega]; rfl
          · rw [plus_get_hi _ (by omega), hN, show N + 11 - N = 11 by omega]; rfl
    · have hd : decide (t = u) = true := by rw [ho, show t.drop k = [] from List.drop_eq_nil_of_le (by omega), show u.drop k = [] from List.drop_eq_nil_of_le (by omega)]; rfl
      simp -implicitDefEqProofs only [go_sem, ↓reduceIte, Int.reduceEq, Int.reduceLT, Int.reduceLE, List.reduceReplicate, intA, setT_nil, setT_cons, ↓boolP_bool, ↓iteB_true, ↓iteB_false, hr0, hr1, hch.len, hch.cells, ← hall.1, hlt, sizeP hN, settleP0 hN, settleP hN, List.length_nil, Nat.add_zero]
      rw [hd]
  · have hli : ¬ ((t.length : Int) = (u.length : Int)) := by omega
    have hne : decide (t = u) = false := decide_eq_false (fun h => hl (by rw [h]))
    simp -implicitDefEqProofs only [Try.f24, go_sem, ↓reduceIte, Int.reduceEq, Int.reduceLT, Int.reduceLE, List.reduceReplicate, intA, setT_nil, setT_cons, ↓boolP_bool, ↓iteB_true, ↓iteB_false, hch.len, hch.cells, hch.flat, hch.bound, hch'.len, hch'.cells, hch'.flat, hch'.bound, ← hall.1, ← hall'.1, hli]
    rw [hne]
end Go.Ev
namespace Go.Ev
open Go.Proofs
set_option maxRecDepth 100000
set_option linter.unusedSimpArgs false
attribute [local irreducible] Wp WpS
/-! ### the law of words and places, by what Twin answers -/
theorem wordsC_le (i n : Nat) : ∀ (ls : List Line) (j : Nat), (∀ l ∈ ls, l.length ≤ n) → (wordsC i j ls).length ≤ n * ls.length
  | [], _, _ => by simp [wordsC]
  | l :: r, j, h => by
    have h1 := wordsC_le i n r (j + 1) fun l hl => h l (List.mem_cons_of_mem _ hl)
    have h2 := h l (List.mem_cons_self ..)
    simp only [wordsC, List.length_append, wordsL_len, List.length_cons, Nat.mul_add, Nat.mul_one]
    omega
theorem wordsT_le (m n : Nat) : ∀ (t : Txt) (i : Nat), (∀ c ∈ t, c.2.length ≤ m ∧ ∀ l ∈ c.2, l.length ≤ n) → (wordsT i t).length ≤ n * m * t.length
  | [], _, _ => by simp [wordsT]
  | c :: r, i, h => by
    have h1 := wordsT_le m n r (i + 1) fun c hc => h c (List.mem_cons_of_mem _ hc)
    have h2 := h c (List.mem_cons_self ..)
    have h3 := wordsC_le i n c.2 0 h2.2
    have h4 : n * c.2.length ≤ n * m := Nat.mul_le_mul_left _ h2.1
    simp only [wordsT, List.length_append, List.length_cons, Nat.mul_add, Nat.mul_one]
    omega
theorem great_len {t : Txt} (h : greatT t = false) : t.length ≤ 10 ∧ ∀ c ∈ t, c.2.length ≤ 15 ∧ ∀ l ∈ c.2, l.length ≤ 15 ∧ ∀ s ∈ l, s.size ≤ 40 := by
  unfold greatT at h
  simp only [Bool.or_eq_false_iff, decide_eq_false_iff_not, List.any_eq_false, Bool.not_eq_true] at h
  refine ⟨by omega, fun c hc => ?_⟩
  have h1 := h.2 c hc
  unfold greatC at h1
  simp only [Bool.or_eq_false_iff, decide_eq_false_iff_not, List.any_eq_false, Bool.not_eq_true] at h1
  refine ⟨by omega, fun l hl => ?_⟩
  have h2 := h1.2 l hl
  unfold greatL at h2
  simp only [Bool.or_eq_false_iff, decide_eq_false_iff_not, List.any_eq_false, Bool.not_eq_true] at h2
  refine ⟨by omega, fun s hs => ?_⟩
  have := h2.2 s hs
  omega
theorem great_words {t : Txt} (h : greatT t = false) : (wordsT 0 t).length < 2 ^ 33 := by
  obtain ⟨h1, h2⟩ := great_len h
  have := wordsT_le 15 15 t 0 fun c hc => ⟨(h2 c hc).1, fun l hl => ((h2 c hc).2 l hl).1⟩
  omega
theorem wordO_get {t : Txt} {a b c : Int} {s : ByteArray} (h : wordO t a b c = some s) : ∃ (n : Nat) (x : Plc × ByteArray), (wordsT 0 t)[n]? = some x ∧ (x.1.1 : Int) = a ∧ (x.1.2.1 : Int) = b ∧ (x.1.2.2 : Int) = c := by
  obtain ⟨i, j, k, ln, rfl, rfl, rfl, hL, hc⟩ := wordO_some h
  obtain ⟨cp, hcp, hb⟩ : ∃ cp, t[i]? = some cp ∧ cp.2[j]? = some ln := by
    unfold lineAt at hL
    rw [if_pos (by omega)] at hL
    simp only [Int.toNat_natCast] at hL
    cases h : t[i]? with
    | none => rw [h] at hL; cases hL
    | some cp => rw [h] at hL; exact ⟨cp, rfl, hL⟩
  have hm : (((i, j, k) : Plc), s) ∈ wordsT 0 t := (wordsT_mem t 0 _).2 ⟨i, j, k, cp, ln, by simp, hcp, hb, hc⟩
  obtain ⟨n, hn⟩ := List.mem_iff_getElem?.1 hm
  exact ⟨n, _, hn, rfl, rfl, rfl⟩
theorem placeOfR_tup (t : Txt) (n : Int) : ∃ a b c k : Int, placeOfR t n = .tup [.agg [.v (.int .i64 a), .v (.int .i64 b), .v (.int .i64 c)], .v (.int .i64 k)] := by
  unfold placeOfR placeR plN intA
  split
  · split
    · exact ⟨_, _, _, _, rfl⟩
    · exact ⟨_, _, _, _, rfl⟩
  · exact ⟨_, _, _, _, rfl⟩
theorem atRes_tup (t : Txt) (a b c : Int) : ∃ (s : ByteArray) (k : Int), atRes t a b c = .tup [.v (.string s), .v (.int .i64 k)] := by
  unfold atRes intA
  split
  · exact ⟨_, _, rfl⟩
  · split
    · exact ⟨_, _, rfl⟩
    · exact ⟨_, _, rfl⟩
theorem number_same {e : Exts} (he : Quiet e) (t : Txt) (ht : Fits t) (hs : (wordsT 0 t).length < 2 ^ 33) (ch ch' : AV) (xs xs' : List AV) (hch : SlOf 2 xs ch) (hall : All2 ChapA t xs) (hch' : SlOf 2 xs' ch') (hall' : All2 ChapA t xs') (a b c : Int) :
    ∃ m k : Int, Ans (Cx e) 14 [.agg [ch'], .agg [intA a, intA b, intA c]] (.tup [.v (.int .i64 m), .v (.int .i64 k)]) ∧ Ans (Cx e) 15 [.agg [ch], .agg [intA a, intA b, intA c]] (.tup [.v (.int .i64 m), .v (.int .i64 k)]) := by
  by_cases h : textB t = false ∨ wordO t a b c = none
  · have h1 := ansR14e he t ht ch' xs' hch' hall' a b c h
    have h2 := ansR15e he t ht ch xs hch hall a b c h
    cases hb : textB t
    · rw [hb] at h1 h2; exact ⟨_, _, h1, h2⟩
    · rw [hb] at h1 h2; exact ⟨_, _, h1, h2⟩
  · have hb : textB t = true := by cases hb : textB t with | true => rfl | false => exact absurd (Or.inl hb) h
    cases hw : wordO t a b c with
    | none => exact absurd (Or.inr hw) h
    | some s =>
      obtain ⟨n, x, hx, rfl, rfl, rfl⟩ := wordO_get hw
      exact ⟨_, _, ans16 he t ht ch' xs' hch' hall' hb n x hx, ansR15 he t ht hb hs ch xs hch hall n x hx⟩
theorem places_same {e : Exts} (he : Quiet e) (t : Txt) (ht : Fits t) (hs : (wordsT 0 t).length < 2 ^ 33) (ch ch' : AV) (xs xs' : List AV) (hch : SlOf 2 xs ch) (hall : All2 ChapA t xs) (hch' : SlOf 2 xs' ch') (hall' : All2 ChapA t xs') (w : ByteArray) (hws : w.size < 2 ^ 63) :
    ∃ (l : List P3) (k : Int), l.length < 2 ^ 62 ∧ Ans (Cx e) 18 [.agg [ch'], .v (.string w)] (.tup [plsV l, .v (.int .i64 k)]) ∧ Ans (Cx e) 19 [.agg [ch], .v (.string w)] (.tup [plsV l, .v (.int .i64 k)]) := by
  have h1 := ansR18 he t ht ch' xs' hch' hall' w hws
  have h2 := ansR19 he t ht hs ch xs hch hall w hws
  cases hb : textB t
  · rw [hb] at h1 h2; exact ⟨[], _, by simp, h1, h2⟩
  · rw [hb] at h1 h2
    cases hw : wordB w
    · rw [hw] at h1 h2; exact ⟨[], _, by simp, h1, h2⟩
    · rw [hw] at h1 h2
      have hl : plsN (plcOf w (wordsT 0 t)) = plsV (placesL w (wordsT 0 t)) := by
        rw [plsN_V]; unfold plcOf placesL; rw [List.map_map]; rfl
      rw [hl] at h2
      refine ⟨placesL w (wordsT 0 t), _, ?_, h1, h2⟩
      unfold placesL
      rw [List.length_map]
      have := List.length_filter_le (fun y : Plc × ByteArray => decide (y.2 = w)) (wordsT 0 t)
      omega
theorem voc_same (t : Txt) (ht : Fits t) (hs : (wordsT 0 t).length < 2 ^ 33) (ch ch' : AV) (xs xs' : List AV) (hch : SlOf 2 xs ch) (hall : All2 ChapA t xs) (hch' : SlOf 2 xs' ch') (hall' : All2 ChapA t xs') :
    ∃ (l : List ByteArray) (k : Int), l.length < 2 ^ 63 ∧ Ans (Cx eA) 20 [.agg [ch']] (.tup [wdsV l, .v (.int .i64 k)]) ∧ Ans (Cx eA) 21 [.agg [ch]] (.tup [wdsV l, .v (.int .i64 k)]) := by
  have h1 := ansR20 t ht ch' xs' hch' hall'
  have h2 := ansR21 quietA t ht hs ch xs hch hall
  cases hb : textB t
  · rw [hb] at h1 h2; exact ⟨[], _, by simp, h1, h2⟩
  · rw [hb] at h1 h2
    refine ⟨vocL t, _, ?_, h1, h2⟩
    have := nodup_sub_len (voc_nodup t) (m := (wordsT 0 t).map (·.2)) fun a ha => voc_mem.1 ha
    rw [List.length_map] at this
    omega
end Go.Ev
namespace Go.Ev
open Go.Proofs
set_option maxRecDepth 100000
set_option linter.unusedSimpArgs false
attribute [local irreducible] Wp WpS
theorem plsV_bd (l : List P3) : bound (plsV l) = 0 := by cases l <;> rfl
theorem wdsV_bd (l : List ByteArray) : bound (wdsV l) = 0 := by cases l <;> rfl
theorem wdsV_sl' (l : List ByteArray) : SlOf 1 (strs l) (wdsV l) := by
  cases l with
  | nil => exact Or.inl ⟨rfl, rfl⟩
  | cons p r => exact Or.inr ⟨none, rfl⟩
set_option maxHeartbeats 4000000 in
theorem ansR3 (t : Txt) (ht : Fits t) (ch : AV) (xs : List AV) (hch : SlOf 2 xs ch) (hall : All2 ChapA t xs) (h7 : greatT t = false → ∃ ch' xs', SlOf 2 xs' ch' ∧ All2 ChapA t xs' ∧ Ans (Cx eA) 7 [.agg [ch]] (.agg [ch']))
    (a b c n : Int) (w : ByteArray) (hws : w.size < 2 ^ 63) : Ans (Cx eA) 3 [.agg [ch], .agg [intA a, intA b, intA c], intA n, .v (.string w)] (.v (.bool true)) := by
  have he := quietA
  have h6 := fun me d H => call38 he t ht _ ⟨ch, rfl, xs, hch, hall⟩ me d H
  unfold Ans
  rw [fn_step (fn_3 eA) (show Try.f3.body = some _ from rfl)]
  cases hg : greatT t
  · rw [hg] at h6
    cases hw40 : decide ((w.size : Int) > 40)
    · obtain ⟨ch', xs', hch', hall', h7⟩ := h7 hg
      have hs := great_words hg
      have bd : ∀ l : List AV, (∀ x ∈ l, bound x = 0) → Nat.beq (boundL l) 0 = true := fun l h => by
        have : boundL l = 0 := Nat.le_zero.1 (boundL_le.2 fun x hx => by rw [h x hx]; exact Nat.le_refl _)
        rw [this]; rfl
      have b1 : bound (AV.agg [ch]) = 0 := by simp only [bound_agg, boundL_cons, hch.bound, boundL_nil]; rfl
      have b2 : bound (AV.agg [ch']) = 0 := by simp only [bound_agg, boundL_cons, hch'.bound, boundL_nil]; rfl
      have b0 : ∀ {l : List AV}, (∀ x ∈ l, bound x = 0) → boundL l = 0 := fun h => Nat.le_zero.1 (boundL_le.2 fun x hx => by rw [h x hx]; exact Nat.le_refl _)
      have bu : boundL [AV.agg [ch']] = 0 := b0 (by simp [b2])
      have bt : boundL [AV.agg [ch]] = 0 := b0 (by simp [b1])
      have c7 := fun me d H => h7.call (ext_7 he) (pure_7 eA me d) bt H
      have c8 := fun me d H => (ansR8 he t ht hs ch' xs' hch' hall').call (ext_8 he) (pure_8 eA me d) bu H
      have c9 := fun me d H => (ansR9 he t ht hs ch xs hch hall).call (ext_9 he) (pure_9 eA me d) bt H
      have c12 := fun me d => (ansR12 he t ht ch' xs' hch' hall').callI (ext_12 he) (pure_12 eA me d) bu
      have c13 := fun me d => (ansR13 he t ht ch xs hch hall).callI (ext_13 he) (pure_13 eA me d) bt
      have bup : boundL [AV.agg [ch'], .agg [intA a, intA b, intA c]] = 0 := b0 (by simp [b2]; rfl)
      have btp : boundL [AV.agg [ch], .agg [intA a, intA b, intA c]] = 0 := b0 (by simp [b1]; rfl)
      have c10 := fun me d H => (ansR10 he t ht ch' xs' hch' hall' a b c).call (ext_10 he) (pure_10 eA me d) bup H
      have c11 := fun me d H => (ansR11 he t ht ch xs hch hall a b c).call (ext_11 he) (pure_11 eA me d) btp H
      obtain ⟨s1, k1, e1⟩ := atRes_tup t a b c
      rw [e1] at c10 c11
      obtain ⟨m2, k2, q1, q2⟩ := number_same he t ht hs ch ch' xs xs' hch hall hch' hall' a b c
      have c14 := fun me d H => q1.call (ext_14 he) (pure_14 eA me d) bup H
      have c15 := fun me d H => q2.call (ext_15 he) (pure_15 eA me d) btp H
      have bun : boundL [AV.agg [ch'], intA n] = 0 := b0 (by simp [b2]; rfl)
      have btn : boundL [AV.agg [ch], intA n] = 0 := b0 (by simp [b1]; rfl)
      obtain ⟨pa, pb, pc, k3, e3⟩ := placeOfR_tup t n
      have c16 := fun me d H => (ans15 he t ht ch' xs' hch' hall' n).call (ext_16 he) (pure_16 eA me d) bun H
      have c17 := fun me d H => (ansR17 he t ht hs ch xs hch hall n).call (ext_17 he) (pure_17 eA me d) btn H
      rw [e3] at c16 c17
      obtain ⟨l4, k4, hl4, q3, q4⟩ := places_same he t ht hs ch ch' xs xs' hch hall hch' hall' w hws
      have buw : boundL [AV.agg [ch'], .v (.string w)] = 0 := b0 (by simp [b2]; rfl)
      have btw : boundL [AV.agg [ch], .v (.string w)] = 0 := b0 (by simp [b1]; rfl)
      have c18 := fun me d H => q3.call (ext_18 he) (pure_18 eA me d) buw H
      have c19 := fun me d H => q4.call (ext_19 he) (pure_19 eA me d) btw H
      obtain ⟨l5, k5, hl5, q5, q6⟩ := voc_same t ht hs ch ch' xs xs' hch hall hch' hall'
      have c20 := fun me d H => q5.call (ext_20 he) (pure_20 eA me d) bu H
      have c21 := fun me d H => q6.call (ext_21 he) (pure_21 eA me d) bt H
      have c22 := fun me d H => (ans33 l4 hl4).call (C := Cx eA) (ext_22 he) (pure_22 eA me d) (b0 (by simp [plsV_bd])) H
      have c23 := fun me d H => callP31 he (X := H) (wdsV l5) (wdsV l5) l5 l5 (Or.inl (wdsV_sl' l5)) (wdsV_sl' l5) hl5 me d
      have c24 := fun me d H => (ans27 he t t ht ht ch' ch xs' xs hch' hall' hch hall).call (ext_24 he) (pure_24 eA me d) (b0 (by simp [b1, b2])) H
      cases hb : textB t
      all_goals
        rw [hb] at c8 c9 c12 c13
        simp only [if_true, if_false, Bool.false_eq_true] at c8 c9 c12 c13
        unfold intA at c8 c9 c10 c11 c12 c13 c14 c15 c16 c17
        simp only [decide_true] at c23 c24
        simp -implicitDefEqProofs only [Try.f3, go_sem, ↓reduceIte, Int.reduceEq, Int.reduceLT, Int.reduceLE, List.reduceReplicate, intA, setT_nil, setT_cons, hch.cells, hch.flat, hch.bound, hch'.cells, hch'.flat, hch'.bound, h6, hw40, c7, c8, c9, c10, c11, ↓boolP_bool, ↓iteB_true, ↓iteB_false]
        refine wp_draw (by kernel_rfl) ?_
        simp -implicitDefEqProofs only [go_sem, ↓reduceIte, Int.reduceEq, Int.reduceLT, Int.reduceLE, List.reduceReplicate, intA, setT_nil, setT_cons, hch.cells, hch.flat, hch.bound, hch'.cells, hch'.flat, hch'.bound, c12, c13, c14, c15, c16, c17, c18, c19, c20, c21, c22, c23, c24, eq32, eqP, plsV_bd, wdsV_bd, decide_true, decide_false, Bool.and_self, Bool.not_true, Bool.not_false, ne_eq, not_true_eq_false, ↓boolP_bool, ↓iteB_true, ↓iteB_false]
    · simp -implicitDefEqProofs only [Try.f3, go_sem, ↓reduceIte, Int.reduceEq, Int.reduceLT, Int.reduceLE, List.reduceReplicate, intA, setT_nil, setT_cons, hch.cells, hch.flat, hch.bound, h6, hw40, ↓boolP_bool, ↓iteB_true, ↓iteB_false]
  · rw [hg] at h6
    simp -implicitDefEqProofs only [Try.f3, go_sem, ↓reduceIte, Int.reduceEq, Int.reduceLT, Int.reduceLE, List.reduceReplicate, intA, setT_nil, setT_cons, hch.cells, hch.flat, hch.bound, h6, ↓boolP_bool, ↓iteB_true, ↓iteB_false]
end Go.Ev
namespace Go.Ev
set_option maxRecDepth 100000
set_option linter.unusedSimpArgs false
/-! ### what a value is when it is handed back, told by some places of memory alone -/
def Fz (X : Heap) (S : Nat → Prop) (d : Nat) (x y : AV) : Prop :=
  (x.flat = true ∧ bound y = 0 ∧ (bound x = 0 → y = x)) ∧ ∀ G : Heap, G.lock = 0 → (∀ b, S b → G.get b = X.get b) → ∀ k, d ≤ k → freezeV G k x = some y
theorem Fz.mono {X Y : Heap} {S T : Nat → Prop} {d d' : Nat} {x y : AV} (h : Fz X S d x y) (hs : ∀ b, S b → T b ∧ Y.get b = X.get b) (hd : d ≤ d') : Fz Y T d' x y :=
  ⟨h.1, fun G hk hg k hk2 => h.2 G hk (fun b hb => (hg b (hs b hb).1).trans (hs b hb).2) k (Nat.le_trans hd hk2)⟩
theorem Fz.v (X : Heap) (S : Nat → Prop) (v : Value) : Fz X S 1 (.v v) (.v v) :=
  ⟨⟨rfl, rfl, fun _ => rfl⟩, fun _ _ _ k hk => by obtain ⟨k', rfl⟩ : ∃ k', k = k' + 1 := ⟨k - 1, by omega⟩; rfl⟩
theorem Fz.vs (X : Heap) (S : Nat → Prop) (z : Nat) (l : List AV) (c : Option Nat) : Fz X S 1 (.vs z l c) (.vs z l c) :=
  ⟨⟨rfl, rfl, fun _ => rfl⟩, fun _ _ _ k hk => by obtain ⟨k', rfl⟩ : ∃ k', k = k' + 1 := ⟨k - 1, by omega⟩; rfl⟩
def FzL (X : Heap) (S : Nat → Prop) (d : Nat) : List AV → List AV → Prop
  | [], [] => True
  | x :: r, y :: s => Fz X S d x y ∧ FzL X S d r s
  | _, _ => False
theorem FzL.len {X : Heap} {S : Nat → Prop} {d : Nat} : ∀ {l m : List AV}, FzL X S d l m → l.length = m.length
  | [], [], _ => rfl
  | _ :: _, _ :: _, h => congrArg (· + 1) (FzL.len h.2)
  | [], _ :: _, h => h.elim
  | _ :: _, [], h => h.elim
theorem FzL.mono {X Y : Heap} {S T : Nat → Prop} {d d' : Nat} (hs : ∀ b, S b → T b ∧ Y.get b = X.get b) (hd : d ≤ d') : ∀ {l m : List AV}, FzL X S d l m → FzL Y T d' l m
  | [], [], _ => trivial
  | _ :: _, _ :: _, h => ⟨h.1.mono hs hd, FzL.mono hs hd h.2⟩
  | [], _ :: _, h => h.elim
  | _ :: _, [], h => h.elim
theorem FzL.app {X : Heap} {S : Nat → Prop} {d : Nat} {l2 m2 : List AV} (h2 : FzL X S d l2 m2) : ∀ {l m : List AV}, FzL X S d l m → FzL X S d (l ++ l2) (m ++ m2)
  | [], [], _ => h2
  | _ :: _, _ :: _, h => ⟨h.1, FzL.app h2 h.2⟩
  | [], _ :: _, h => h.elim
  | _ :: _, [], h => h.elim
theorem FzL.flat {X : Heap} {S : Nat → Prop} {d : Nat} : ∀ {l m : List AV}, FzL X S d l m → l.all AV.flat = true
  | [], [], _ => rfl
  | _ :: _, _ :: _, h => by rw [List.all_cons, h.1.1.1, FzL.flat h.2]; rfl
  | [], _ :: _, h => h.elim
  | _ :: _, [], h => h.elim
theorem FzL.bound {X : Heap} {S : Nat → Prop} {d : Nat} : ∀ {l m : List AV}, FzL X S d l m → boundL m = 0
  | [], [], _ => rfl
  | _ :: _, _ :: _, h => by rw [boundL_cons, h.1.1.2.1, FzL.bound h.2]; rfl
  | [], _ :: _, h => h.elim
  | _ :: _, [], h => h.elim
theorem FzL.closed {X : Heap} {S : Nat → Prop} {d : Nat} : ∀ {l m : List AV}, FzL X S d l m → boundL l = 0 → m = l
  | [], [], _, _ => rfl
  | x :: r, y :: s, h, hb => by
    rw [boundL_cons] at hb
    have h1 : Go.Ev.bound x = 0 := Nat.le_zero.1 (Nat.le_trans (Nat.le_max_left _ _) (Nat.le_of_eq hb))
    have h2 : boundL r = 0 := Nat.le_zero.1 (Nat.le_trans (Nat.le_max_right _ _) (Nat.le_of_eq hb))
    rw [h.1.1.2.2 h1, FzL.closed h.2 h2]
  | [], _ :: _, h, _ => h.elim
  | _ :: _, [], h, _ => h.elim
theorem FzL.freeze {X : Heap} {S : Nat → Prop} {d : Nat} {G : Heap} (hk : G.lock = 0) (hg : ∀ b, S b → G.get b = X.get b) : ∀ {l m : List AV}, FzL X S d l m → ∀ k, d + l.length + 1 ≤ k → freezeL G k l = some m
  | [], [], _, k, h => by obtain ⟨k', rfl⟩ : ∃ k', k = k' + 1 := ⟨k - 1, by omega⟩; rfl
  | x :: r, y :: s, h, k, hd => by
    obtain ⟨k', rfl⟩ : ∃ k', k = k' + 1 := ⟨k - 1, by omega⟩
    simp only [List.length_cons] at hd
    show (match freezeV G k' x, freezeL G k' r with | some y, some ys => some (y :: ys) | _, _ => none) = _
    rw [h.1.2 G hk hg k' (by omega), FzL.freeze hk hg h.2 k' (by omega)]
  | [], _ :: _, h, _, _ => h.elim
  | _ :: _, [], h, _, _ => h.elim
theorem Fz.row {X : Heap} {S : Nat → Prop} {d b v e m sz n : Nat} {g : Bool} {l ys : List AV} (hS : S b) (hr : X.get b = some (.cells v m e sz g l)) (hl : FzL X S d l ys) (hm : boundL l ≤ m) (hz : 0 < sz) (hn : l.length = n * sz) (c : Option Nat) {d' : Nat} (hd : d + l.length + 2 ≤ d') :
    Fz X S d' (.sl b v 0 n c) (.vs sz (chunk sz n ys) none) := by
  refine ⟨⟨rfl, rfl, fun h => by simp [Go.Ev.bound] at h⟩, fun G hk hg k hkd => ?_⟩
  obtain ⟨k', rfl⟩ : ∃ k', k = k' + 1 := ⟨k - 1, by omega⟩
  have hrow : G.row b v = some (m, e, sz, g, l) := by
    unfold Heap.row; rw [hg b hS, hr]; simp only [if_true]
  unfold freezeV
  simp only [hrow, hk]
  rw [if_neg (by omega), if_pos ⟨by omega, hz⟩, List.drop_zero, List.take_of_length_le (by omega)]
  by_cases h0 : m = 0
  · rw [if_pos h0, hl.closed (by omega)]
  · rw [if_neg h0, FzL.freeze hk hg hl k' (by omega)]
    simp only [hl.bound, if_true]
theorem trim_orT (H : Heap) (n : Nat) (vs : List AV) (ms : List Nat) : H.trim n vs ms = H ∨ H.trim n vs ms = { H with objs := H.objs.take n } := by
  unfold Heap.trim
  split
  · exact Or.inr rfl
  · exact Or.inl rfl
theorem trim_lockT (H : Heap) (n : Nat) (vs : List AV) (ms : List Nat) : (H.trim n vs ms).lock = H.lock := by
  rcases trim_orT H n vs ms with h | h <;> rw [h]
theorem trim_getT {H : Heap} {n : Nat} {vs : List AV} {ms : List Nat} {b : Nat} (hb : b < n) : (H.trim n vs ms).get b = H.get b := by
  rcases trim_orT H n vs ms with h | h
  · rw [h]
  · rw [h]; unfold Heap.get; simp only; rw [List.getElem?_take, if_pos hb]
theorem trim_szT {H : Heap} {n : Nat} {vs : List AV} {ms : List Nat} (hb : n ≤ H.size) : n ≤ (H.trim n vs ms).size := by
  rcases trim_orT H n vs ms with h | h
  · rw [h]; exact hb
  · rw [h]; unfold Heap.size at hb ⊢; simp only [List.length_take]; omega
theorem trim_keep {H : Heap} {n : Nat} {vs : List AV} {ms : List Nat} {b : Nat} {o : AObj} (hb : b < n) (hg : H.get b = some o) (ho : n < o.bound) : H.trim n vs ms = H := by
  rcases trim_cases H n vs ms with h | ⟨_, h2⟩
  · exact h
  · have := boundsOk_getI h2 (b := b) (o := o) (by rw [List.getElem?_take, if_pos hb]; unfold Heap.get at hg; cases hh : H.objs[b]? with
      | none => rw [hh] at hg; cases hg
      | some q => rw [hh] at hg; simp only [Option.join] at hg; rw [show q = some o from hg])
    omega
end Go.Ev
namespace Go.Ev
open Go.Proofs
set_option maxRecDepth 100000
set_option linter.unusedSimpArgs false
attribute [local irreducible] Wp WpS
theorem All2.snoc {α β : Type} {R : α → β → Prop} {l : List α} {m : List β} (h : All2 R l m) {a : α} {b : β} (hab : R a b) : All2 R (l ++ [a]) (m ++ [b]) := by
  refine ⟨by simp [h.1], fun i x y hx hy => ?_⟩
  by_cases hi : i < l.length
  · rw [List.getElem?_append_left hi] at hx
    rw [List.getElem?_append_left (by rw [← h.1]; exact hi)] at hy
    exact h.2 i x y hx hy
  · have hi2 := (List.getElem?_eq_some_iff.1 hx).1
    rw [List.length_append, List.length_singleton] at hi2
    obtain rfl : i = l.length := by omega
    rw [List.getElem?_append_right (Nat.le_refl _), Nat.sub_self] at hx
    rw [h.1, List.getElem?_append_right (Nat.le_refl _), Nat.sub_self] at hy
    simp at hx hy
    rw [← hx, ← hy]; exact hab
theorem appTo_vsT (e sz b : Nat) (H : Heap) (slot n : Nat) (new : List AV) : appTo e sz b H slot n new (.vs sz [] (some 0)) = if n = 0 then some (.vs sz [] (some 0), H) else if fitsA b n = true then some (.sl slot 0 0 n none, H.put slot (.cells 0 (boundL new) e sz true new)) else none := by
  unfold appTo
  simp only [ne_eq, not_true_eq_false, if_false, List.length_nil, if_true, List.flatMap_nil, List.all_nil, Bool.and_true, List.nil_append, Nat.zero_add]
  rw [show Nat.max (boundL []) (boundL new) = boundL new from Nat.zero_max (boundL new)]
theorem strs_bd (ws : Line) : boundL (strs ws) = 0 := by
  refine Nat.le_zero.1 (boundL_le.2 fun x hx => ?_)
  obtain ⟨s, -, rfl⟩ := List.mem_map.1 hx; exact Nat.le_refl _
theorem strs_flatT (ws : Line) : (strs ws).all AV.flat = true := by
  rw [List.all_eq_true]; intro x hx
  obtain ⟨s, -, rfl⟩ := List.mem_map.1 hx; rfl
theorem strs_fz (X : Heap) (S : Nat → Prop) : ∀ ws : Line, FzL X S 1 (strs ws) (strs ws)
  | [] => trivial
  | _ :: r => ⟨Fz.v X S _, strs_fz X S r⟩
theorem strs_cellsT : ∀ ws : Line, (strs ws).flatMap AV.cells = strs ws
  | [] => rfl
  | s :: r => by
    show AV.cells _ ++ (strs r).flatMap AV.cells = _
    rw [strs_cellsT r]; rfl
/-- what the cells of a line are, as append reads them -/
theorem line_cells {ws : Line} {x : AV} (h : SlOf 1 (strs ws) x) (G : Heap) : cellsFrom G 1 x = some (ws.length, strs ws) := by
  cases ws with
  | nil =>
    rcases h with ⟨rfl, -⟩ | ⟨c, rfl⟩ <;> rfl
  | cons a r =>
    rcases h with ⟨-, h1⟩ | ⟨c, rfl⟩
    · exact nomatch h1
    · rw [cells_vs', if_pos rfl, strs_len, strs_cellsT]
/-- the lines of a chapter that are copied so far -/
def LnI (X : Heap) (B j : Nat) (cid : Int) (ls : List Line) : Prop :=
  (j = 0 ∧ X.get B = some (.cells 0 0 78 1 false [intA cid, .v (.slice none 0 0)])) ∨
  ∃ R v mB mR l ys, 1 ≤ j ∧ B < R ∧ R < X.size ∧ X.get B = some (.cells 0 mB 78 1 false [intA cid, .sl R v 0 j none]) ∧ X.get R = some (.cells v mR 51 1 true l) ∧ l.length = j ∧ boundL l ≤ mR ∧ FzL X (fun b => B < b ∧ b < X.size ∧ b ≠ R) 100 l ys ∧ All2 LineA (ls.take j) ys
/-- a line of words, in a row of its own -/
theorem line_fz {Z : Heap} {S : Nat → Prop} {b : Nat} {ws : Line} (hS : S b) (hr : Z.get b = some (.cells 0 0 9 1 true (strs ws))) (hw : ws.length < 50) : Fz Z S 100 (.sl b 0 0 ws.length none) (.vs 1 (strs ws) none) := by
  have h := Fz.row hS hr (strs_fz Z S ws) (by rw [strs_bd]; exact Nat.le_refl _) (Nat.zero_lt_one) (n := ws.length) (by rw [strs_len]; omega) none (d' := 100) (by rw [strs_len]; omega)
  have h1 := chunk_one (strs ws)
  rw [strs_len] at h1
  rw [h1] at h
  exact h
theorem keep_end {Y : Heap} {M b : Nat} {o : AObj} {E : List (Option AObj)} (hY : Y.size = M) (hb : b < M) (hg : Y.get b = some o) (ho : M < o.bound) (hE : E.all Option.isNone = false) (vs : List AV) (ms : List Nat) : (settleH M (Y.plus E)).trim M vs ms = Y.plus E := by
  have h1 : settleH M (Y.plus E) = Y.plus E := by rw [settleP0 hY, List.drop_zero, if_neg (by rw [hE]; exact Bool.false_ne_true)]
  rw [h1]
  exact trim_keep hb (by rw [plus_get _ (by omega)]; exact hg) ho
theorem none_end {Y : Heap} {M : Nat} {E : List (Option AObj)} (hY : Y.size = M) (hE : E.all Option.isNone = true) (vs : List AV) (ms : List Nat) : (settleH M (Y.plus E)).trim M vs ms = Y := by
  have h1 : settleH M (Y.plus E) = Y := by rw [settleP0 hY, List.drop_zero, if_pos hE, List.take_zero, plus_nil]
  rw [h1]
  rcases trim_orT Y M vs ms with h | h
  · exact h
  · rw [h]
    cases Y with
    | mk o k => simp only [Heap.size] at hY; simp only [Heap.mk.injEq, and_true]; rw [← hY]; exact List.take_length
theorem plus_at {Y : Heap} {M : Nat} (hY : Y.size = M) (E : List (Option AObj)) (i : Nat) : (Y.plus E).get (M + i) = (E[i]?).join := by
  rw [plus_get_hi _ (by omega), hY, Nat.add_sub_cancel_left]
theorem LnI.first {Z : Heap} {N R mB mR : Nat} {cid : Int} {ls : List Line} {ws : Line} {x y : AV} (hZN : Z.get N = some (.cells 0 mB 78 1 false [intA cid, .sl R 0 0 1 none])) (hZR : Z.get R = some (.cells 0 mR 51 1 true [x])) (h1 : N < R) (h2 : R < Z.size) (hb : bound x ≤ mR)
    (hx : Fz Z (fun b => N < b ∧ b < Z.size ∧ b ≠ R) 100 x y) (hw : ls[0]? = some ws) (hy : LineA ws y) : LnI Z N 1 cid ls := by
  refine Or.inr ⟨R, 0, mB, mR, [x], [y], Nat.le_refl _, h1, h2, hZN, hZR, rfl, by simpa [boundL] using hb, ⟨hx, trivial⟩, ?_⟩
  cases ls with
  | nil => exact nomatch hw
  | cons a r =>
    obtain rfl : a = ws := by simpa using hw
    refine ⟨rfl, fun i p q hp hq => ?_⟩
    cases i with
    | zero => simp at hp hq; rw [← hp, ← hq]; exact hy
    | succ i => simp at hq
theorem LnI.next {Y Z : Heap} {N M R v mB mR mR' j : Nat} {cid : Int} {ls : List Line} {ws : Line} {x y : AV} {l' ys : List AV} (_hM : Y.size = M) (hZM : M ≤ Z.size) (hZN : Z.get N = some (.cells 0 mB 78 1 false [intA cid, .sl R (v + 1) 0 (j + 1) none])) (hZR : Z.get R = some (.cells (v + 1) mR' 51 1 true (l' ++ [x]))) (h1 : N < R) (h2 : R < M) (hlen : l'.length = j) (hm1 : boundL l' ≤ mR) (hm : mR ≤ mR') (hb : bound x ≤ mR')
    (hg : ∀ b, b < M → b ≠ N → b ≠ R → Z.get b = Y.get b) (hfz : FzL Y (fun b => N < b ∧ b < M ∧ b ≠ R) 100 l' ys) (hal : All2 LineA (ls.take j) ys)
    (hx : Fz Z (fun b => N < b ∧ b < Z.size ∧ b ≠ R) 100 x y) (hw : ls[j]? = some ws) (hy : LineA ws y) : LnI Z N (j + 1) cid ls := by
  refine Or.inr ⟨R, v + 1, mB, mR', l' ++ [x], ys ++ [y], by omega, h1, by omega, hZN, hZR, by simp [hlen], ?_, ?_, ?_⟩
  · refine boundL_le.2 fun z hz => ?_
    rcases List.mem_append.1 hz with hz | hz
    · exact Nat.le_trans (boundL_le.1 hm1 z hz) hm
    · rw [List.mem_singleton.1 hz]; exact hb
  · exact FzL.app (show FzL Z _ 100 [x] [y] from ⟨hx, trivial⟩) (hfz.mono (fun b hb => ⟨⟨hb.1, by omega, hb.2.2⟩, hg b hb.2.1 (by omega) hb.2.2⟩) (Nat.le_refl _))
  · rw [List.take_add_one, hw]
    exact hal.snoc hy
theorem LnI.done {Y : Heap} {N M : Nat} {cid : Int} {ls : List Line} (hM : Y.size = M) (h : LnI Y N ls.length cid ls) (hls : ls.length < 1000) :
    ∃ m sl ysl, Y.get N = some (.cells 0 m 78 1 false [intA cid, sl]) ∧ (sl = .v (.slice none 0 0) ∨ ∃ R v, sl = .sl R v 0 ls.length none ∧ N < R ∧ R < M) ∧ LinesA ls ysl ∧ ∀ (Z : Heap) (T : Nat → Prop), (∀ b, N < b → b < M → T b ∧ Z.get b = Y.get b) → Fz Z T 2000 sl ysl := by
  rcases h with ⟨h0, hB⟩ | ⟨R, v, mB, mR, l, ys, -, h1, h2, hB, hR, hl, hb, hf, ha⟩
  · obtain rfl : ls = [] := List.length_eq_zero_iff.1 h0
    exact ⟨0, _, _, hB, Or.inl rfl, ⟨[], Or.inl ⟨rfl, rfl⟩, rfl, fun i a b h => nomatch h⟩, fun Z T _ => (Fz.v Z T _).mono (fun b hb => ⟨hb, rfl⟩) (by omega)⟩
  · rw [hM] at h2 hf
    rw [List.take_length] at ha
    have hyl : ys.length = ls.length := ha.1.symm
    refine ⟨mB, _, .vs 1 ys none, hB, Or.inr ⟨R, v, rfl, h1, h2⟩, ⟨ys, Or.inr ⟨none, rfl⟩, ha⟩, fun Z T hT => ?_⟩
    have h3 := hT R h1 h2
    have h4 := Fz.row (d' := 2000) h3.1 (h3.2.trans hR) (hf.mono (fun b hb => hT b hb.1 hb.2.1) (Nat.le_refl _)) hb Nat.zero_lt_one (n := ls.length) (by omega) none (by omega)
    have h5 := chunk_one ys
    rw [hyl] at h5
    rw [h5] at h4
    exact h4
theorem chunk_snoc {a b : AV} : ∀ (k : Nat) {ys : List AV}, ys.length = k * 2 → chunk 2 (k + 1) (ys ++ [a, b]) = chunk 2 k ys ++ [.agg [a, b]]
  | 0, ys, h => by
    obtain rfl : ys = [] := List.length_eq_zero_iff.1 (by omega)
    rfl
  | k + 1, ys, h => by
    match ys, h with
    | x :: y :: r, h =>
      simp only [List.length_cons] at h
      have ih := chunk_snoc (a := a) (b := b) k (ys := r) (by omega)
      show AV.agg [x, y] :: chunk 2 (k + 1) (r ++ [a, b]) = AV.agg [x, y] :: chunk 2 k r ++ [.agg [a, b]]
      rw [ih]; rfl
    | [x], h => simp at h; omega
    | [], h => simp at h
theorem trim_self {Y : Heap} {M : Nat} (hY : Y.size = M) (vs : List AV) (ms : List Nat) : Y.trim M vs ms = Y := by
  rcases trim_orT Y M vs ms with h | h
  · exact h
  · rw [h]
    cases Y with
    | mk o k => simp only [Heap.size] at hY; simp only [Heap.mk.injEq, and_true]; rw [← hY]; exact List.take_length
def In7 (X0 : Heap) (ch : AV) (k B : Nat) (cid : Int) (ls : List Line) : Inv := fun μ a X => ∃ j, j + μ = ls.length ∧ a = ⟨55, [(0, .agg [ch]), (1, .ptr 0 0 0), (2, .ptr 1 0 0), (3, .ptr 2 0 0), (4, intA k), (11, .v (.bool true)), (5, .ptr B 0 0), (6, intA j)], []⟩ ∧ X.lock = 0 ∧ B < X.size ∧ (∀ b, b < B → X.get b = X0.get b) ∧ LnI X B j cid ls
def ChI (X : Heap) (k : Nat) (t : Txt) : Prop :=
  (k = 0 ∧ X.get 2 = some (.cells 0 0 24 1 false [.v (.slice none 0 0)])) ∨
  ∃ Q v m2 mQ cs ys, 1 ≤ k ∧ 3 ≤ Q ∧ Q < X.size ∧ X.get 2 = some (.cells 0 m2 24 1 false [.sl Q v 0 k none]) ∧ X.get Q = some (.cells v mQ 78 2 true cs) ∧ cs.length = k * 2 ∧ boundL cs ≤ mQ ∧ FzL X (fun b => 3 ≤ b ∧ b < X.size ∧ b ≠ Q) 2000 cs ys ∧ All2 ChapA (t.take k) (chunk 2 k ys)
theorem ChI.first {Y Z : Heap} {N M P mP m2 : Nat} {t : Txt} {c : Chap} {sl ysl : AV} (h1 : M ≤ P) (h2 : P < Z.size) (h3 : 3 ≤ N) (hNM : N < M) (hZ2 : Z.get 2 = some (.cells 0 m2 24 1 false [.sl P 0 0 1 none])) (hZP : Z.get P = some (.cells 0 mP 78 2 true [.v (.int .i64 c.1), sl]))
    (hb : bound sl ≤ mP) (hg : ∀ b, N < b → b < M → Z.get b = Y.get b) (hLA : LinesA c.2 ysl) (hFz : ∀ (Z : Heap) (T : Nat → Prop), (∀ b, N < b → b < M → T b ∧ Z.get b = Y.get b) → Fz Z T 2000 sl ysl) (hc : t[0]? = some c) : ChI Z 1 t := by
  refine Or.inr ⟨P, 0, m2, mP, _, [.v (.int .i64 c.1), ysl], Nat.le_refl _, by omega, h2, hZ2, hZP, rfl, ?_, ⟨(Fz.v _ _ _).mono (fun b hb => ⟨hb, rfl⟩) (by omega), hFz _ _ (fun b hb1 hb2 => ⟨⟨by omega, by omega, by omega⟩, hg b hb1 hb2⟩), trivial⟩, ?_⟩
  · refine boundL_le.2 fun z hz => ?_
    rcases List.mem_cons.1 hz with rfl | hz
    · exact Nat.zero_le _
    · rw [List.mem_singleton.1 hz]; exact hb
  · cases t with
    | nil => exact nomatch hc
    | cons a r =>
      obtain rfl : a = c := by simpa using hc
      refine ⟨rfl, fun i p q hp hq => ?_⟩
      cases i with
      | zero =>
        simp only [List.take_succ_cons, List.take_zero, List.getElem?_cons_zero, Option.some.injEq] at hp
        have hq : AV.agg [.v (.int .i64 a.1), ysl] = q := by simpa [chunk] using hq
        subst hp; subst hq
        exact ⟨ysl, rfl, hLA⟩
      | succ i => simp at hp
theorem ChI.next {X Z : Heap} {k N M P v mP mP' m2 : Nat} {t : Txt} {c : Chap} {sl ysl : AV} {cs ys : List AV} (hP3 : 3 ≤ P) (hPN : P < N) (_hN3 : 3 ≤ N) (_hNM : N < M) (hZs : N ≤ Z.size) (_hZM : bound sl = 0 ∨ M ≤ Z.size)
    (hZ2 : Z.get 2 = some (.cells 0 m2 24 1 false [.sl P (v + 1) 0 (k + 1) none])) (hZP : Z.get P = some (.cells (v + 1) mP' 78 2 true (cs ++ [.v (.int .i64 c.1), sl]))) (hb : bound sl ≤ mP') (hm : mP ≤ mP') (hcl : cs.length = k * 2) (hcb : boundL cs ≤ mP)
    (hgX : ∀ b, 3 ≤ b → b < N → b ≠ P → Z.get b = X.get b) (hcf : FzL X (fun b => 3 ≤ b ∧ b < N ∧ b ≠ P) 2000 cs ys) (hca : All2 ChapA (t.take k) (chunk 2 k ys)) (hLA : LinesA c.2 ysl) (hFz : Fz Z (fun b => 3 ≤ b ∧ b < Z.size ∧ b ≠ P) 2000 sl ysl) (hc : t[k]? = some c) : ChI Z (k + 1) t := by
  have hyl : ys.length = k * 2 := by rw [← hcl]; exact hcf.len.symm
  refine Or.inr ⟨P, v + 1, m2, mP', _, ys ++ [.v (.int .i64 c.1), ysl], by omega, hP3, by omega, hZ2, hZP, by simp [hcl]; omega, ?_, ?_, ?_⟩
  · refine boundL_le.2 fun z hz => ?_
    rcases List.mem_append.1 hz with hz | hz
    · exact Nat.le_trans (boundL_le.1 hcb z hz) hm
    · rcases List.mem_cons.1 hz with rfl | hz
      · exact Nat.zero_le _
      · rw [List.mem_singleton.1 hz]; exact hb
  · exact FzL.app (show FzL Z _ 2000 [.v (.int .i64 c.1), sl] [.v (.int .i64 c.1), ysl] from ⟨(Fz.v _ _ _).mono (fun b hb => ⟨hb, rfl⟩) (by omega), hFz, trivial⟩) (hcf.mono (fun b hb => ⟨⟨hb.1, by omega, hb.2.2⟩, hgX b hb.1 hb.2.1 hb.2.2⟩) (Nat.le_refl _))
  · rw [chunk_snoc k hyl, List.take_add_one, hc]
    exact hca.snoc ⟨ysl, rfl, hLA⟩
def Out7 (ch : AV) (t : Txt) : Inv := fun μ a X => ∃ k, k + μ = t.length ∧ a = ⟨55, [(0, .agg [ch]), (1, .ptr 0 0 0), (2, .ptr 1 0 0), (3, .ptr 2 0 0), (4, intA k)], []⟩ ∧ X.lock = 0 ∧ 3 ≤ X.size ∧ X.get 0 = some (.cells 0 0 24 1 false [ch]) ∧ X.get 1 = some (.cells 0 0 24 1 false [.v (.slice none 0 0)]) ∧ ChI X k t
set_option maxHeartbeats 4000000 in
theorem twinR {e : Exts} (_he : Quiet e) (t : Txt) (ht : t.length < 1000) (hL : ∀ c ∈ t, c.2.length < 1000) (hW : ∀ c ∈ t, ∀ w ∈ c.2, w.length < 50) (ch : AV) (xs : List AV) (hch : SlOf 2 xs ch) (hall : All2 ChapA t xs) : ∃ v, (∃ ch' xs', v = .agg [ch'] ∧ SlOf 2 xs' ch' ∧ All2 ChapA t xs') ∧ Ans (Cx e) 7 [.agg [ch]] v := by
  refine ans_of_P ?_
  rw [fn_step (fn_7 e) (show Try.f7.body = some _ from rfl)]
  simp -implicitDefEqProofs only [Try.f7, go_sem, ↓reduceIte, Int.reduceEq, Int.reduceLT, Int.reduceLE, List.reduceReplicate, intA, setT_nil, setT_cons, hch.cells, hch.flat, hch.bound, hch.len]
  refine Lp_ruleQ (P := Out7 ch t) ?_ t.length _ _ ?_
  · rintro Q KK hQ hKK μ _ X ⟨k, hk, rfl, hXl, hXs, h0, h1, hC⟩
    have hlen := hall.1
    have hrE : ∀ E, (X.plus E).row 0 0 = some (0, 24, 1, false, [ch]) := fun E => by rw [rowLo (by omega)]; exact get_row h0
    generalize hN : X.size = N at *
    have hlkN : X.lock ≤ N := by omega
    rw [← plus_nil X]
    cases μ with
    | zero =>
      obtain rfl : k = t.length := by omega
      simp -implicitDefEqProofs only [go_sem, ↓reduceIte, Int.reduceEq, Int.reduceLT, Int.reduceLE, List.reduceReplicate, intA, setT_nil, setT_cons, hrE, hch.len, hch.cells, ← hlen, Int.lt_irrefl, ↓boolP_bool, ↓iteB_true, ↓iteB_false]
      rw [plus_nil, trim_self hN]
      refine hKK _ _ _ ?_
      rw [← plus_nil X]
      rcases hC with ⟨hk0, hX2⟩ | ⟨P, v, m2, mP, cs, ys, hk1, hP3, hPN, hX2, hXP, hcsl, hcsb, hcsf, hcsa⟩
      · have hr2 : ∀ E, (X.plus E).row 2 0 = some (0, 24, 1, false, [.v (.slice none 0 0)]) := fun E => by rw [rowLo (by omega)]; exact get_row hX2
        have hr1 : ∀ E, (X.plus E).row 1 0 = some (0, 24, 1, false, [.v (.slice none 0 0)]) := fun E => by rw [rowLo (by omega)]; exact get_row h1
        have hst := fun x E => storeLoK (X := X) (b := 1) (v := 0) (k := 0) (x := .v x) (by omega) (by omega) (by have := hr1 []; rwa [plus_nil] at this) (by simp) rfl E
        simp -implicitDefEqProofs only [go_sem, ↓reduceIte, Int.reduceEq, Int.reduceLT, Int.reduceLE, List.reduceReplicate, intA, setT_nil, setT_cons, hr2, hr1, hst, hN, sizeP hN, putP0 hN, putP hN, settleP0 hN, settleP hN, rowP0 hN, rowP hN, storeP0 hN hlkN, storeP hN hlkN, ↓boolP_bool, ↓iteB_true, ↓iteB_false, List.length_nil, List.length_cons, Nat.add_zero, Nat.zero_add]
        have hZs : (X.put 1 (AObj.cells 0 0 24 1 false [AV.v (Value.slice none 0 0)])).size = N := by rw [put_sizeI _ (by omega)]; exact hN
        have hZ1 := get_row (put_get_eq (H := X) (b := 1) (AObj.cells 0 0 24 1 false [AV.v (Value.slice none 0 0)]) (by omega))
        have hZg : ∀ b, b ≠ 1 → (X.put 1 (AObj.cells 0 0 24 1 false [AV.v (Value.slice none 0 0)])).get b = X.get b := fun b hb => put_get_ne _ (by omega) hb
        have hZl : (X.put 1 (AObj.cells 0 0 24 1 false [AV.v (Value.slice none 0 0)])).lock = 0 := hXl
        generalize X.put 1 _ = Z at *
        have hse : settleH N (Z.plus []) = Z := by rw [settleP0 hZs, List.drop_zero, if_pos (show ([] : List (Option AObj)).all Option.isNone = true from rfl), List.take_zero, plus_nil]
        simp -implicitDefEqProofs only [go_sem, ↓reduceIte, Int.reduceEq, Int.reduceLT, Int.reduceLE, List.reduceReplicate, intA, setT_nil, setT_cons, hse, hZ1]
        exact ⟨.agg [.v (.slice none 0 0)], ⟨_, [], rfl, Or.inl ⟨rfl, rfl⟩, by
          obtain rfl : t = [] := List.length_eq_zero_iff.1 hk0
          exact ⟨rfl, fun i a b h => nomatch h⟩⟩, rfl⟩
      · rw [hN] at hPN hcsf
        have hr2 : ∀ E, (X.plus E).row 2 0 = some (m2, 24, 1, false, [.sl P v 0 t.length none]) := fun E => by rw [rowLo (by omega)]; exact get_row hX2
        have hr1 : ∀ E, (X.plus E).row 1 0 = some (0, 24, 1, false, [.v (.slice none 0 0)]) := fun E => by rw [rowLo (by omega)]; exact get_row h1
        have hst := fun b' v' o' l' c' E => storeLoK (X := X) (b := 1) (v := 0) (k := 0) (x := .sl b' v' o' l' c') (by omega) (by omega) (by have := hr1 []; rwa [plus_nil] at this) (by simp) rfl E
        simp -implicitDefEqProofs only [go_sem, ↓reduceIte, Int.reduceEq, Int.reduceLT, Int.reduceLE, List.reduceReplicate, intA, setT_nil, setT_cons, hr2, hr1, hst, bound_sl, hN, sizeP hN, putP0 hN, putP hN, settleP0 hN, settleP hN, rowP0 hN, rowP hN, storeP0 hN hlkN, storeP hN hlkN, ↓boolP_bool, ↓iteB_true, ↓iteB_false, List.length_nil, List.length_cons, Nat.add_zero, Nat.zero_add]
        have hZs : (X.put 1 (AObj.cells 0 (P + 1) 24 1 false [AV.sl P v 0 (List.length t) none])).size = N := by rw [put_sizeI _ (by omega)]; exact hN
        have hZ1 := get_row (put_get_eq (H := X) (b := 1) (AObj.cells 0 (P + 1) 24 1 false [AV.sl P v 0 (List.length t) none]) (by omega))
        have hZg : ∀ b, b ≠ 1 → (X.put 1 (AObj.cells 0 (P + 1) 24 1 false [AV.sl P v 0 (List.length t) none])).get b = X.get b := fun b hb => put_get_ne _ (by omega) hb
        have hZl : (X.put 1 (AObj.cells 0 (P + 1) 24 1 false [AV.sl P v 0 (List.length t) none])).lock = 0 := hXl
        generalize X.put 1 _ = Z at *
        have hse : settleH N (Z.plus []) = Z := by rw [settleP0 hZs, List.drop_zero, if_pos (show ([] : List (Option AObj)).all Option.isNone = true from rfl), List.take_zero, plus_nil]
        simp -implicitDefEqProofs only [go_sem, ↓reduceIte, Int.reduceEq, Int.reduceLT, Int.reduceLE, List.reduceReplicate, intA, setT_nil, setT_cons, hse, hZ1]
        rw [List.take_length] at hcsa
        refine ⟨.agg [.vs 2 (chunk 2 t.length ys) none], ⟨_, _, rfl, Or.inr ⟨none, rfl⟩, hcsa⟩, ?_⟩
        have hZ0 : ({ Z with lock := 0 } : Heap) = Z := by cases Z; simp only at hZl; subst hZl; rfl
        rw [hZ0]
        have hz := Fz.row (X := X) (S := fun b => b ≠ 1) (d' := 10000) (n := t.length) (show P ≠ 1 by omega) hXP (hcsf.mono (fun b hb => ⟨by omega, rfl⟩) (Nat.le_refl _)) hcsb (by omega) hcsl none (by omega)
        have h9 := hz.2 Z hZl (fun b hb => hZg b hb) 999998 (by omega)
        have e1 : freezeL Z 999999 [.sl P v 0 t.length none] = some [.vs 2 (chunk 2 t.length ys) none] := by
          show (match freezeV Z 999998 (.sl P v 0 t.length none), freezeL Z 999998 [] with | some y, some ys => some (y :: ys) | _, _ => none) = _
          rw [h9]; rfl
        show (freezeL Z 999999 [.sl P v 0 t.length none]).map AV.agg = _
        rw [e1]; rfl
    | succ μ =>
      obtain ⟨c, hc⟩ := at_lt t k (by omega)
      obtain ⟨y, hy, l, rfl, lxs, hl, hls⟩ := hall.get hc
      have hix := hch.idx hy
      have hlt : (k : Int) < ((t.length : Nat) : Int) := by omega
      simp -implicitDefEqProofs only [go_sem, ↓reduceIte, Int.reduceEq, Int.reduceLT, Int.reduceLE, List.reduceReplicate, intA, setT_nil, setT_cons, hrE, hch.len, hch.cells, ← hlen, hlt, hix, hl.cells, hl.flat, hl.bound, sizeP hN, putP0 hN, putP hN, settleP0 hN, settleP hN, rowP0 hN, rowP hN, storeP0 hN hlkN, storeP hN hlkN, ↓boolP_bool, ↓iteB_true, ↓iteB_false]
      generalize hX1 : X.plus [some (AObj.cells 0 0 78 1 false [AV.v (Value.int IntKind.i64 c.fst), AV.v (Value.slice none 0 0)])] = X1
      have h1s : X1.size = N + 1 := by rw [← hX1, plus_size, hN]; rfl
      have h1l : X1.lock = 0 := by rw [← hX1]; exact hXl
      have h1g : ∀ b, b < N → X1.get b = X.get b := fun b hb => by rw [← hX1, plus_get _ (by omega)]
      have h1B : X1.get N = some (AObj.cells 0 0 78 1 false [AV.v (Value.int IntKind.i64 c.fst), AV.v (Value.slice none 0 0)]) := by
        rw [← hX1]; subst hN; rw [plus_get_hi _ (Nat.le_refl _), Nat.sub_self]; rfl
      have hlsl := hls.1
      have hcl : c.2.length < 1000 := hL c (List.mem_of_getElem? hc)
      refine Lp_ruleQ (P := In7 X ch k N c.1 c.2) ?_ c.2.length _ _ ⟨0, Nat.zero_add _, rfl, h1l, by omega, h1g, Or.inl ⟨rfl, h1B⟩⟩
      rintro Q2 K2 hQ2 hK2 μ2 _ Y ⟨j, hj, rfl, hYl, hYs, hYg, hYI⟩
      have hrE : ∀ E, (Y.plus E).row 0 0 = some (0, 24, 1, false, [ch]) := fun E => by rw [rowLo (by omega)]; exact get_row ((hYg 0 (by omega)).trans h0)
      generalize hM : Y.size = M at *
      have hlkM : Y.lock ≤ M := by omega
      rw [← plus_nil Y]
      cases μ2 with
      | zero =>
        obtain rfl : j = c.2.length := by omega
        simp -implicitDefEqProofs only [go_sem, ↓reduceIte, Int.reduceEq, Int.reduceLT, Int.reduceLE, List.reduceReplicate, intA, setT_nil, setT_cons, hrE, hch.len, hch.cells, hix, hl.cells, hl.len, ← hlsl, Int.lt_irrefl, ↓boolP_bool, ↓iteB_true, ↓iteB_false]
        rw [plus_nil, trim_self hM]
        refine hK2 _ _ _ ?_
        obtain ⟨mN, sl, ysl, hYN, hsl, hLA, hFz⟩ := LnI.done hM hYI hcl
        have hrN : ∀ E, (Y.plus E).row N 0 = some (mN, 78, 1, false, [.v (.int .i64 c.1), sl]) := fun E => by rw [rowLo (by omega)]; exact get_row hYN
        have hf32 : fitsA 32 1 = true := by decide
        rw [← plus_nil Y]
        rcases hC with ⟨rfl, hX2⟩ | ⟨P, v, m2, mP, cs, ys, hk1, hP3, hPN, hX2, hXP, hcsl, hcsb, hcsf, hcsa⟩
        · have hr2 : ∀ E, (Y.plus E).row 2 0 = some (0, 24, 1, false, [.v (.slice none 0 0)]) := fun E => by rw [rowLo (by omega)]; exact get_row ((hYg 2 (by omega)).trans hX2)
          have hst := fun b' v' o' l' c' E => storeLoK (X := Y) (b := 2) (v := 0) (k := 0) (x := .sl b' v' o' l' c') (by omega) (by omega) (by have := hr2 []; rwa [plus_nil] at this) (by simp) rfl E
          rcases hsl with rfl | ⟨R, v', rfl, hR1, hR2⟩
          · simp -implicitDefEqProofs only [go_sem, ↓reduceIte, Int.reduceEq, Int.reduceLT, Int.reduceLE, List.reduceReplicate, intA, setT_nil, setT_cons, hr2, hrN, hst, hf32, bound_sl, List.flatMap_cons, List.flatMap_nil, List.append_nil, AV.cells, List.all_cons, List.all_nil, Bool.and_self, AV.flat, sizeP hM, putP0 hM, putP hM, settleP0 hM, settleP hM, rowP0 hM, rowP hM, storeP0 hM hlkM, storeP hM hlkM, ↓boolP_bool, ↓iteB_true, ↓iteB_false, List.length_nil, List.length_cons, Nat.add_zero, Nat.zero_add]
            have hZs : (Y.put 2 (AObj.cells 0 (M + 1) 24 1 false [AV.sl (M) 0 0 1 none])).size = M := by rw [put_sizeI _ (by omega)]; exact hM
            have hZ2 := put_get_eq (H := Y) (b := 2) (AObj.cells 0 (M + 1) 24 1 false [AV.sl (M) 0 0 1 none]) (by omega)
            have hZg : ∀ b, b ≠ 2 → (Y.put 2 (AObj.cells 0 (M + 1) 24 1 false [AV.sl (M) 0 0 1 none])).get b = Y.get b := fun b hb => put_get_ne _ (by omega) hb
            have hZl : (Y.put 2 (AObj.cells 0 (M + 1) 24 1 false [AV.sl (M) 0 0 1 none])).lock = 0 := hYl
            generalize Y.put 2 _ = Z at *
            rw [settleP0 hZs, List.drop_zero, if_neg (by simp), trim_keep (b := 2) (by omega) (by rw [plus_get _ (by omega)]; exact hZ2) (by show N < M + 1; omega), wrap_succ 0 (by omega)]
            refine Again.mk' μ (by omega) (hQ _ _ _ ⟨0 + 1, by omega, rfl, hZl, by rw [plus_size, hZs]; omega, by rw [plus_get _ (by omega), hZg 0 (by omega)]; exact (hYg 0 (by omega)).trans h0, by rw [plus_get _ (by omega), hZg 1 (by omega)]; exact (hYg 1 (by omega)).trans h1, ?_⟩)
            exact ChI.first (Y := Y) (N := N) (M := M) (P := M) (mP := 0) (by omega) (by rw [plus_size, hZs]; simp) (by omega) (by omega) (by rw [plus_get _ (by omega)]; exact hZ2) (plus_at hZs _ 0) (Nat.le_refl _) (fun b hb1 hb2 => by rw [plus_get _ (by omega)]; exact hZg b (by omega)) hLA hFz hc
          · simp -implicitDefEqProofs only [go_sem, ↓reduceIte, Int.reduceEq, Int.reduceLT, Int.reduceLE, List.reduceReplicate, intA, setT_nil, setT_cons, hr2, hrN, hst, hf32, bound_sl, List.flatMap_cons, List.flatMap_nil, List.append_nil, AV.cells, List.all_cons, List.all_nil, Bool.and_self, AV.flat, sizeP hM, putP0 hM, putP hM, settleP0 hM, settleP hM, rowP0 hM, rowP hM, storeP0 hM hlkM, storeP hM hlkM, ↓boolP_bool, ↓iteB_true, ↓iteB_false, List.length_nil, List.length_cons, Nat.add_zero, Nat.zero_add]
            have hZs : (Y.put 2 (AObj.cells 0 (M + 1 + 1) 24 1 false [AV.sl (M + 1) 0 0 1 none])).size = M := by rw [put_sizeI _ (by omega)]; exact hM
            have hZ2 := put_get_eq (H := Y) (b := 2) (AObj.cells 0 (M + 1 + 1) 24 1 false [AV.sl (M + 1) 0 0 1 none]) (by omega)
            have hZg : ∀ b, b ≠ 2 → (Y.put 2 (AObj.cells 0 (M + 1 + 1) 24 1 false [AV.sl (M + 1) 0 0 1 none])).get b = Y.get b := fun b hb => put_get_ne _ (by omega) hb
            have hZl : (Y.put 2 (AObj.cells 0 (M + 1 + 1) 24 1 false [AV.sl (M + 1) 0 0 1 none])).lock = 0 := hYl
            generalize Y.put 2 _ = Z at *
            rw [settleP0 hZs, List.drop_zero, if_neg (by simp), trim_keep (b := 2) (by omega) (by rw [plus_get _ (by omega)]; exact hZ2) (by show N < M + 1 + 1; omega), wrap_succ 0 (by omega)]
            refine Again.mk' μ (by omega) (hQ _ _ _ ⟨0 + 1, by omega, rfl, hZl, by rw [plus_size, hZs]; omega, by rw [plus_get _ (by omega), hZg 0 (by omega)]; exact (hYg 0 (by omega)).trans h0, by rw [plus_get _ (by omega), hZg 1 (by omega)]; exact (hYg 1 (by omega)).trans h1, ?_⟩)
            exact ChI.first (Y := Y) (N := N) (M := M) (P := M + 1) (mP := R + 1) (by omega) (by rw [plus_size, hZs]; simp) (by omega) (by omega) (by rw [plus_get _ (by omega)]; exact hZ2) (plus_at hZs _ 1) (Nat.le_refl _) (fun b hb1 hb2 => by rw [plus_get _ (by omega)]; exact hZg b (by omega)) hLA hFz hc
        · rw [hN] at hPN hcsf
          have hr2 : ∀ E, (Y.plus E).row 2 0 = some (m2, 24, 1, false, [.sl P v 0 k none]) := fun E => by rw [rowLo (by omega)]; exact get_row ((hYg 2 (by omega)).trans hX2)
          have hrP : ∀ E, (Y.plus E).row P v = some (mP, 78, 2, true, cs) := fun E => by rw [rowLo (by omega)]; exact get_row ((hYg P (by omega)).trans hXP)
          have hf33 : fitsA 32 (k + 1) = true := by unfold fitsA; exact decide_eq_true (by omega)
          have happ := fun x y E slot => (appTo_own (e := 78) (sz := 2) (b' := 32) (H := Y.plus E) (slot := slot) (n := 1) (new := [x, y]) (hrP E) (by omega) (by show Y.lock ≤ P; omega) hf33 (by omega) (by omega)).trans (by rw [putLo (by omega)])
          have hYP0 : ∀ o, (Y.put P o).row 2 0 = some (m2, 24, 1, false, [.sl P v 0 k none]) := fun x => get_row ((put_get_ne _ (by omega) (by omega)).trans ((hYg 2 (by omega)).trans hX2))
          have hYPs : ∀ o, (Y.put P o).size = M := fun x => by rw [put_sizeI _ (by omega)]; exact hM
          have hst := fun o b' v' o' l'' c' E => storeLoK (X := Y.put P o) (b := 2) (v := 0) (k := 0) (x := .sl b' v' o' l'' c') (by rw [hYPs]; omega) (by show Y.lock ≤ 2; omega) (hYP0 o) (by simp) rfl E
          rcases hsl with rfl | ⟨R, v', rfl, hR1, hR2⟩
          · simp -implicitDefEqProofs only [go_sem, ↓reduceIte, Int.reduceEq, Int.reduceLT, Int.reduceLE, List.reduceReplicate, intA, setT_nil, setT_cons, hr2, hrN, hst, happ, hf33, bound_sl, List.flatMap_cons, List.flatMap_nil, List.append_nil, AV.cells, List.all_cons, List.all_nil, Bool.and_self, AV.flat, sizeP hM, putP0 hM, putP hM, settleP0 hM, settleP hM, rowP0 hM, rowP hM, storeP0 hM hlkM, storeP hM hlkM, ↓boolP_bool, ↓iteB_true, ↓iteB_false, List.length_nil, List.length_cons, Nat.add_zero, Nat.zero_add]
            have hm1 : 0 ≤ (if mP ≤ 0 then 0 else mP) ∧ mP ≤ (if mP ≤ 0 then 0 else mP) := by split <;> omega
            generalize (if mP ≤ 0 then 0 else mP) = m1 at *
            generalize (if m2 ≤ P + 1 then P + 1 else m2) = m3
            have hZs : ((Y.put P (AObj.cells (v + 1) m1 78 2 true (cs ++ [AV.v (Value.int IntKind.i64 c.fst), AV.v (Value.slice none 0 0)]))).put 2 (AObj.cells 0 m3 24 1 false [AV.sl P (v + 1) 0 (k + 1) none])).size = M := by rw [put_sizeI _ (by rw [hYPs]; omega)]; exact hYPs _
            have hZP := (put_get_ne (H := Y.put P (AObj.cells (v + 1) m1 78 2 true (cs ++ [AV.v (Value.int IntKind.i64 c.fst), AV.v (Value.slice none 0 0)]))) (c := P) (AObj.cells 0 m3 24 1 false [AV.sl P (v + 1) 0 (k + 1) none]) (b := 2) (by rw [hYPs]; omega) (by omega)).trans (put_get_eq (AObj.cells (v + 1) m1 78 2 true (cs ++ [AV.v (Value.int IntKind.i64 c.fst), AV.v (Value.slice none 0 0)])) (by omega))
            have hZ2 := put_get_eq (H := Y.put P (AObj.cells (v + 1) m1 78 2 true (cs ++ [AV.v (Value.int IntKind.i64 c.fst), AV.v (Value.slice none 0 0)]))) (b := 2) (AObj.cells 0 m3 24 1 false [AV.sl P (v + 1) 0 (k + 1) none]) (by rw [hYPs]; omega)
            have hZg : ∀ b, b ≠ 2 → b ≠ P → ((Y.put P (AObj.cells (v + 1) m1 78 2 true (cs ++ [AV.v (Value.int IntKind.i64 c.fst), AV.v (Value.slice none 0 0)]))).put 2 (AObj.cells 0 m3 24 1 false [AV.sl P (v + 1) 0 (k + 1) none])).get b = Y.get b := fun b hb1 hb2 => by rw [put_get_ne _ (by rw [hYPs]; omega) hb1, put_get_ne _ (by omega) hb2]
            have hZl : ((Y.put P (AObj.cells (v + 1) m1 78 2 true (cs ++ [AV.v (Value.int IntKind.i64 c.fst), AV.v (Value.slice none 0 0)]))).put 2 (AObj.cells 0 m3 24 1 false [AV.sl P (v + 1) 0 (k + 1) none])).lock = 0 := hYl
            generalize (Y.put P _).put 2 _ = Z at *
            rw [settleP0 hZs, List.drop_zero, if_pos (show ([] : List (Option AObj)).all Option.isNone = true from rfl), List.take_zero, plus_nil, wrap_succ k (by omega)]
            generalize hW : Z.trim N _ [] = W
            have hWg : ∀ b, b < N → W.get b = Z.get b := fun b hb => by rw [← hW]; exact trim_getT hb
            have hWs : N ≤ W.size := by rw [← hW]; exact trim_szT (by omega)
            have hWl : W.lock = 0 := by rw [← hW, trim_lockT]; exact hZl
            refine Again.mk' μ (by omega) (hQ _ _ _ ⟨k + 1, by omega, rfl, hWl, by omega, by rw [hWg 0 (by omega), hZg 0 (by omega) (by omega)]; exact (hYg 0 (by omega)).trans h0, by rw [hWg 1 (by omega), hZg 1 (by omega) (by omega)]; exact (hYg 1 (by omega)).trans h1, ?_⟩)
            have hyl : ysl = .v (.slice none 0 0) := ((hFz Y (fun b => N < b ∧ b < M) (fun b h1 h2 => ⟨⟨h1, h2⟩, rfl⟩)).1.2.2 rfl)
            rw [hyl] at hLA
            exact ChI.next (X := X) (N := N) (M := M) (P := P) (v := v) (mP := mP) hP3 hPN (by omega) (by omega) hWs (Or.inl rfl) (by rw [hWg 2 (by omega)]; exact hZ2) (by rw [hWg P (by omega)]; exact hZP) (Nat.zero_le _) hm1.2 hcsl hcsb (fun b hb1 hb2 hb3 => by rw [hWg b hb2, hZg b (by omega) hb3]; exact hYg b hb2) hcsf hcsa hLA ((Fz.v _ _ _).mono (fun b hb => ⟨hb, rfl⟩) (by omega)) hc
          · simp -implicitDefEqProofs only [go_sem, ↓reduceIte, Int.reduceEq, Int.reduceLT, Int.reduceLE, List.reduceReplicate, intA, setT_nil, setT_cons, hr2, hrN, hst, happ, hf33, bound_sl, List.flatMap_cons, List.flatMap_nil, List.append_nil, AV.cells, List.all_cons, List.all_nil, Bool.and_self, AV.flat, sizeP hM, putP0 hM, putP hM, settleP0 hM, settleP hM, rowP0 hM, rowP hM, storeP0 hM hlkM, storeP hM hlkM, ↓boolP_bool, ↓iteB_true, ↓iteB_false, List.length_nil, List.length_cons, Nat.add_zero, Nat.zero_add]
            have hm1 : R + 1 ≤ (if mP ≤ R + 1 then R + 1 else mP) ∧ mP ≤ (if mP ≤ R + 1 then R + 1 else mP) := by split <;> omega
            generalize (if mP ≤ R + 1 then R + 1 else mP) = m1 at *
            generalize (if m2 ≤ P + 1 then P + 1 else m2) = m3
            have hZs : ((Y.put P (AObj.cells (v + 1) m1 78 2 true (cs ++ [AV.v (Value.int IntKind.i64 c.fst), AV.sl R v' 0 c.snd.length none]))).put 2 (AObj.cells 0 m3 24 1 false [AV.sl P (v + 1) 0 (k + 1) none])).size = M := by rw [put_sizeI _ (by rw [hYPs]; omega)]; exact hYPs _
            have hZP := (put_get_ne (H := Y.put P (AObj.cells (v + 1) m1 78 2 true (cs ++ [AV.v (Value.int IntKind.i64 c.fst), AV.sl R v' 0 c.snd.length none]))) (c := P) (AObj.cells 0 m3 24 1 false [AV.sl P (v + 1) 0 (k + 1) none]) (b := 2) (by rw [hYPs]; omega) (by omega)).trans (put_get_eq (AObj.cells (v + 1) m1 78 2 true (cs ++ [AV.v (Value.int IntKind.i64 c.fst), AV.sl R v' 0 c.snd.length none])) (by omega))
            have hZ2 := put_get_eq (H := Y.put P (AObj.cells (v + 1) m1 78 2 true (cs ++ [AV.v (Value.int IntKind.i64 c.fst), AV.sl R v' 0 c.snd.length none]))) (b := 2) (AObj.cells 0 m3 24 1 false [AV.sl P (v + 1) 0 (k + 1) none]) (by rw [hYPs]; omega)
            have hZg : ∀ b, b ≠ 2 → b ≠ P → ((Y.put P (AObj.cells (v + 1) m1 78 2 true (cs ++ [AV.v (Value.int IntKind.i64 c.fst), AV.sl R v' 0 c.snd.length none]))).put 2 (AObj.cells 0 m3 24 1 false [AV.sl P (v + 1) 0 (k + 1) none])).get b = Y.get b := fun b hb1 hb2 => by rw [put_get_ne _ (by rw [hYPs]; omega) hb1, put_get_ne _ (by omega) hb2]
            have hZl : ((Y.put P (AObj.cells (v + 1) m1 78 2 true (cs ++ [AV.v (Value.int IntKind.i64 c.fst), AV.sl R v' 0 c.snd.length none]))).put 2 (AObj.cells 0 m3 24 1 false [AV.sl P (v + 1) 0 (k + 1) none])).lock = 0 := hYl
            generalize (Y.put P _).put 2 _ = Z at *
            rw [settleP0 hZs, List.drop_zero, if_neg (by simp), trim_keep (b := P) (by omega) (by rw [plus_get _ (by omega)]; exact hZP) (by show N < m1; omega), wrap_succ k (by omega)]
            refine Again.mk' μ (by omega) (hQ _ _ _ ⟨k + 1, by omega, rfl, hZl, by rw [plus_size, hZs]; omega, by rw [plus_get _ (by omega), hZg 0 (by omega) (by omega)]; exact (hYg 0 (by omega)).trans h0, by rw [plus_get _ (by omega), hZg 1 (by omega) (by omega)]; exact (hYg 1 (by omega)).trans h1, ?_⟩)
            exact ChI.next (X := X) (N := N) (M := M) (P := P) (v := v) (mP := mP) hP3 hPN (by omega) (by omega) (by rw [plus_size, hZs]; omega) (Or.inr (by rw [plus_size, hZs]; omega)) (by rw [plus_get _ (by omega)]; exact hZ2) (by rw [plus_get _ (by omega)]; exact hZP) hm1.1 hm1.2 hcsl hcsb (fun b hb1 hb2 hb3 => by rw [plus_get _ (by omega), hZg b (by omega) hb3]; exact hYg b hb2) hcsf hcsa hLA (hFz _ _ (fun b hb1 hb2 => ⟨⟨by omega, by rw [plus_size, hZs]; omega, by omega⟩, by rw [plus_get _ (by omega)]; exact hZg b (by omega) (by omega)⟩)) hc
      | succ μ2 =>
        obtain ⟨ws, hw⟩ := at_lt c.2 j (by omega)
        obtain ⟨lx, hlx, hsl⟩ := hls.get hw
        have hltj : (j : Int) < ((c.2.length : Nat) : Int) := by omega
        have hjx := hl.idx hlx
        have hcf := line_cells hsl
        have hsl0 : SlOf 1 (strs ws) lx := hsl
        rcases hYI with ⟨rfl, hYB⟩ | ⟨R, v, mB, mR, l', ys, hj1, hR1, hR2, hYB, hYR, hl'l, hl'b, hfz, hal⟩
        · have hr5 : ∀ E, (Y.plus E).row N 0 = some (0, 78, 1, false, [.v (.int .i64 c.1), .v (.slice none 0 0)]) := fun E => by rw [rowLo (by omega)]; exact get_row hYB
          simp -implicitDefEqProofs only [go_sem, ↓reduceIte, Int.reduceEq, Int.reduceLT, Int.reduceLE, List.reduceReplicate, intA, setT_nil, setT_cons, hrE, hch.len, hch.cells, hix, hl.cells, hl.len, ← hlsl, hltj, ↓boolP_bool, ↓iteB_true, ↓iteB_false]
          refine wp_drawX [([], [], false), ([], [], false), ([1], [], false), ([], [], false), ([1, 2], [], false), ([], [], false), ([], [], false), ([], [], false), ([1, 2], [], false), ([], [], false), ([], [], false), ([1, 2], [], false), ([1], [2], false), ([1], [2, 12], false), ([], [2, 12, 13], false), ([], [], false), ([], [2, 12, 13, 14], false)] (by kernel_rfl) (by kernel_rfl) ?_
          have hst := fun b' v' o' l' c' E => storeLoK (X := Y) (b := N) (v := 0) (k := 1) (x := .sl b' v' o' l' c') (by omega) (by omega) (by have := hr5 []; rwa [plus_nil] at this) (by simp) rfl E
          have hne : (M + 2 == 0) = false := by simp
          have hne2 : ∀ n, ¬ (M + n + 1 = 0) := fun n => by omega
          have hne3 : ∀ n, (M + n + 1 ≤ 0) = False := fun n => by simp
          have hf24 : fitsA 24 1 = true := by decide
          have hB : ltB N M = true := by unfold ltB; exact decide_eq_true (by omega)
          have h0M : ltB 0 M = true := by unfold ltB; exact decide_eq_true (by omega)
          have hob := hsl0.objs
          have hq1 : ∀ k, ltB (M + (k + 1)) M = false := fun k => by unfold ltB; exact decide_eq_false (by omega)
          have hwl : ws.length < 50 := hW c (List.mem_of_getElem? hc) ws (List.mem_of_getElem? hw)
          have hfit : fitsA 16 ws.length = true := by unfold fitsA; exact decide_eq_true (by omega)
          by_cases hn0 : ws.length = 0
          · simp -implicitDefEqProofs only [go_sem, ↓reduceIte, Int.reduceEq, Int.reduceLT, Int.reduceLE, List.reduceReplicate, intA, setT_nil, setT_cons, hrE, hr5, hch.len, hch.cells, hix, hl.cells, hl.len, hjx, hcf, hsl0.cells, hne, hn0, appTo_vsT, bound_sl, hob, hq1, hf24, hfit, hne2, hne3, strs_flatT, strs_bd, hst, hB, h0M, List.all_cons, List.all_nil, beq_self_eq_true, Bool.or_true, Bool.true_or, Bool.not_false, Bool.and_self, not_false_eq_true, sizeP hM, putP0 hM, putP hM, settleP0 hM, settleP hM, rowP0 hM, rowP hM, storeP0 hM hlkM, storeP hM hlkM, ↓boolP_bool, ↓iteB_true, ↓iteB_false, List.length_nil, List.length_cons, Nat.add_zero, Nat.zero_add]
            have hws : ws = [] := List.length_eq_zero_iff.1 hn0
            subst hws
            have hYN : (Y.put N (AObj.cells 0 (M + 14 + 1) 78 1 false [AV.v (Value.int IntKind.i64 c.fst), AV.sl (M + 14) 0 0 1 none])).size = M := by rw [put_sizeI _ (by omega)]; exact hM
            simp -implicitDefEqProofs only [List.flatMap_cons, List.flatMap_nil, AV.cells, List.append_nil, List.all_cons, List.all_nil, AV.flat, Bool.and_self, go_sem, ↓reduceIte, Int.reduceEq, Int.reduceLT, Int.reduceLE, List.reduceReplicate, intA, setT_nil, setT_cons, hst, bound_sl, Nat.zero_le, List.length_cons, List.length_nil]
            rw [keep_end hYN (b := N) (by omega) (put_get_eq _ (by omega)) (by show M < M + 14 + 1; omega) rfl, wrap_succ 0 (by omega)]
            have hYNl : (Y.put N (AObj.cells 0 (M + 14 + 1) 78 1 false [AV.v (Value.int IntKind.i64 c.fst), AV.sl (M + 14) 0 0 1 none])).lock = 0 := hYl
            have hYNg : ∀ b, b < N → (Y.put N (AObj.cells 0 (M + 14 + 1) 78 1 false [AV.v (Value.int IntKind.i64 c.fst), AV.sl (M + 14) 0 0 1 none])).get b = X.get b := fun b hb => by rw [put_get_ne _ (by omega) (by omega)]; exact hYg b hb
            have hYNN := put_get_eq (H := Y) (b := N) (AObj.cells 0 (M + 14 + 1) 78 1 false [AV.v (Value.int IntKind.i64 c.fst), AV.sl (M + 14) 0 0 1 none]) (by omega)
            generalize Y.put N _ = Z at *
            refine Again.mk' μ2 (by omega) (hQ2 _ _ _ ⟨0 + 1, by omega, rfl, hYNl, by rw [plus_size, hYN]; omega, fun b hb => by rw [plus_get _ (by omega)]; exact hYNg b hb, ?_⟩)
            refine LnI.first (R := M + 14) (ws := []) (x := .vs 1 [] (some 0)) (y := .vs 1 [] (some 0)) (mR := 0) (by rw [plus_get _ (by omega)]; exact hYNN) (plus_at hYN _ _) (by omega) (by rw [plus_size, hYN]; simp) (Nat.le_refl _) ((Fz.vs _ _ 1 [] (some 0)).mono (fun b hb => ⟨hb, rfl⟩) (by omega)) hw (Or.inr ⟨some 0, rfl⟩)
          · simp -implicitDefEqProofs only [go_sem, ↓reduceIte, Int.reduceEq, Int.reduceLT, Int.reduceLE, List.reduceReplicate, intA, setT_nil, setT_cons, hrE, hr5, hch.len, hch.cells, hix, hl.cells, hl.len, hjx, hcf, hsl0.cells, hne, hn0, appTo_vsT, bound_sl, hob, hq1, hf24, hfit, hne2, hne3, strs_flatT, strs_bd, hst, hB, h0M, List.all_cons, List.all_nil, beq_self_eq_true, Bool.or_true, Bool.true_or, Bool.not_false, Bool.and_self, not_false_eq_true, sizeP hM, putP0 hM, putP hM, settleP0 hM, settleP hM, rowP0 hM, rowP hM, storeP0 hM hlkM, storeP hM hlkM, ↓boolP_bool, ↓iteB_true, ↓iteB_false, List.length_nil, List.length_cons, Nat.add_zero, Nat.zero_add]
            have hYN : (Y.put N (AObj.cells 0 (M + 14 + 1) 78 1 false [AV.v (Value.int IntKind.i64 c.fst), AV.sl (M + 14) 0 0 1 none])).size = M := by rw [put_sizeI _ (by omega)]; exact hM
            rw [keep_end hYN (b := N) (by omega) (put_get_eq _ (by omega)) (by show M < M + 14 + 1; omega) rfl, wrap_succ 0 (by omega)]
            have hYNl : (Y.put N (AObj.cells 0 (M + 14 + 1) 78 1 false [AV.v (Value.int IntKind.i64 c.fst), AV.sl (M + 14) 0 0 1 none])).lock = 0 := hYl
            have hYNg : ∀ b, b < N → (Y.put N (AObj.cells 0 (M + 14 + 1) 78 1 false [AV.v (Value.int IntKind.i64 c.fst), AV.sl (M + 14) 0 0 1 none])).get b = X.get b := fun b hb => by rw [put_get_ne _ (by omega) (by omega)]; exact hYg b hb
            have hYNN := put_get_eq (H := Y) (b := N) (AObj.cells 0 (M + 14 + 1) 78 1 false [AV.v (Value.int IntKind.i64 c.fst), AV.sl (M + 14) 0 0 1 none]) (by omega)
            generalize Y.put N _ = Z at *
            refine Again.mk' μ2 (by omega) (hQ2 _ _ _ ⟨0 + 1, by omega, rfl, hYNl, by rw [plus_size, hYN]; omega, fun b hb => by rw [plus_get _ (by omega)]; exact hYNg b hb, ?_⟩)
            refine LnI.first (R := M + 14) (ws := ws) (x := AV.sl (M + 12) 0 0 (List.length ws) none) (y := .vs 1 (strs ws) none) (mR := M + 12 + 1) (by rw [plus_get _ (by omega)]; exact hYNN) (plus_at hYN _ _) (by omega) (by rw [plus_size, hYN]; simp) (Nat.le_refl _) (line_fz ⟨by omega, by rw [plus_size, hYN]; simp, by omega⟩ (plus_at hYN _ _) hwl) hw (Or.inr ⟨none, rfl⟩)
        · have hr5 : ∀ E, (Y.plus E).row N 0 = some (mB, 78, 1, false, [.v (.int .i64 c.1), .sl R v 0 j none]) := fun E => by rw [rowLo (by omega)]; exact get_row hYB
          have hrR : ∀ E, (Y.plus E).row R v = some (mR, 51, 1, true, l') := fun E => by rw [rowLo (by omega)]; exact get_row hYR
          rw [hM] at hfz hR2
          simp -implicitDefEqProofs only [go_sem, ↓reduceIte, Int.reduceEq, Int.reduceLT, Int.reduceLE, List.reduceReplicate, intA, setT_nil, setT_cons, hrE, hch.len, hch.cells, hix, hl.cells, hl.len, ← hlsl, hltj, ↓boolP_bool, ↓iteB_true, ↓iteB_false]
          refine wp_drawX [([], [], false), ([], [], false), ([1], [], false), ([], [], false), ([1, 2], [], false), ([], [], false), ([], [], false), ([], [], false), ([1, 2], [], false), ([], [], false), ([], [], false), ([1, 2], [], false), ([1], [2], false), ([1], [2, 12], false), ([], [2, 12, 13], false), ([], [], false), ([], [2, 12, 13, 14], false)] (by kernel_rfl) (by kernel_rfl) ?_
          have hne : (M + 2 == 0) = false := by simp
          have hne2 : ∀ n, ¬ (M + n + 1 = 0) := fun n => by omega
          have hne3 : ∀ n, (M + n + 1 ≤ 0) = False := fun n => by simp
          have hf24 : fitsA 24 (j + 1) = true := by unfold fitsA; exact decide_eq_true (by omega)
          have happ := fun x E slot => (appTo_own (e := 51) (sz := 1) (b' := 24) (H := Y.plus E) (slot := slot) (n := 1) (new := [x]) (hrR E) (by omega) (by show Y.lock ≤ R; omega) hf24 (by omega) (by omega)).trans (by rw [putLo (by omega)])
          have hYR0 : ∀ o, (Y.put R o).row N 0 = some (mB, 78, 1, false, [.v (.int .i64 c.1), .sl R v 0 j none]) := fun x => get_row ((put_get_ne _ (by omega) (by omega)).trans hYB)
          have hYRs : ∀ o, (Y.put R o).size = M := fun x => by rw [put_sizeI _ (by omega)]; exact hM
          have hst := fun o b' v' o' l'' c' E => storeLoK (X := Y.put R o) (b := N) (v := 0) (k := 1) (x := .sl b' v' o' l'' c') (by rw [hYRs]; omega) (by show Y.lock ≤ N; omega) (hYR0 o) (by simp) rfl E
          have hB : ltB N M = true := by unfold ltB; exact decide_eq_true (by omega)
          have hBR : ltB R M = true := by unfold ltB; exact decide_eq_true (by omega)
          have h0M : ltB 0 M = true := by unfold ltB; exact decide_eq_true (by omega)
          have hob := hsl0.objs
          have hNR : (N == R) = false := by simp; omega
          have hRN : (R == N) = false := by simp; omega
          have hq1 : ∀ k, ltB (M + (k + 1)) M = false := fun k => by unfold ltB; exact decide_eq_false (by omega)
          have hwl : ws.length < 50 := hW c (List.mem_of_getElem? hc) ws (List.mem_of_getElem? hw)
          have hfit : fitsA 16 ws.length = true := by unfold fitsA; exact decide_eq_true (by omega)
          by_cases hn0 : ws.length = 0
          · simp -implicitDefEqProofs only [go_sem, ↓reduceIte, Int.reduceEq, Int.reduceLT, Int.reduceLE, List.reduceReplicate, intA, setT_nil, setT_cons, hrE, hr5, hch.len, hch.cells, hix, hl.cells, hl.len, hjx, hcf, hsl0.cells, hne, hn0, appTo_vsT, bound_sl, hob, hq1, hf24, hfit, hne2, hne3, happ, hBR, hNR, hRN, strs_flatT, strs_bd, hst, hB, h0M, List.all_cons, List.all_nil, beq_self_eq_true, Bool.or_true, Bool.true_or, Bool.not_false, Bool.and_self, not_false_eq_true, sizeP hM, putP0 hM, putP hM, settleP0 hM, settleP hM, rowP0 hM, rowP hM, storeP0 hM hlkM, storeP hM hlkM, ↓boolP_bool, ↓iteB_true, ↓iteB_false, List.length_nil, List.length_cons, Nat.add_zero, Nat.zero_add]
            have hws : ws = [] := List.length_eq_zero_iff.1 hn0
            subst hws
            simp -implicitDefEqProofs only [List.flatMap_cons, List.flatMap_nil, AV.cells, List.append_nil, List.all_cons, List.all_nil, AV.flat, Bool.and_self, go_sem, ↓reduceIte, Int.reduceEq, Int.reduceLT, Int.reduceLE, List.reduceReplicate, intA, setT_nil, setT_cons, happ, hst, bound_sl, Nat.zero_le, List.length_cons, List.length_nil]
            have hm1 : mR ≤ (if mR ≤ 0 then 0 else mR) := by split <;> omega
            generalize (if mR ≤ 0 then 0 else mR) = m1 at *
            generalize (if mB ≤ R + 1 then R + 1 else mB) = m2
            have hZs : ((Y.put R (AObj.cells (v + 1) m1 51 1 true (l' ++ [AV.vs 1 [] (some 0)]))).put N (AObj.cells 0 m2 78 1 false [AV.v (Value.int IntKind.i64 c.fst), AV.sl R (v + 1) 0 (j + 1) none])).size = M := by rw [put_sizeI _ (by rw [hYRs]; omega)]; exact hYRs _
            have hZR := (put_get_ne (H := Y.put R (AObj.cells (v + 1) m1 51 1 true (l' ++ [AV.vs 1 [] (some 0)]))) (c := R) (AObj.cells 0 m2 78 1 false [AV.v (Value.int IntKind.i64 c.fst), AV.sl R (v + 1) 0 (j + 1) none]) (b := N) (by rw [hYRs]; omega) (by omega)).trans (put_get_eq (AObj.cells (v + 1) m1 51 1 true (l' ++ [AV.vs 1 [] (some 0)])) (by omega))
            have hZN := put_get_eq (H := Y.put R (AObj.cells (v + 1) m1 51 1 true (l' ++ [AV.vs 1 [] (some 0)]))) (b := N) (AObj.cells 0 m2 78 1 false [AV.v (Value.int IntKind.i64 c.fst), AV.sl R (v + 1) 0 (j + 1) none]) (by rw [hYRs]; omega)
            have hZg : ∀ b, b ≠ N → b ≠ R → ((Y.put R (AObj.cells (v + 1) m1 51 1 true (l' ++ [AV.vs 1 [] (some 0)]))).put N (AObj.cells 0 m2 78 1 false [AV.v (Value.int IntKind.i64 c.fst), AV.sl R (v + 1) 0 (j + 1) none])).get b = Y.get b := fun b hb1 hb2 => by rw [put_get_ne _ (by rw [hYRs]; omega) hb1, put_get_ne _ (by omega) hb2]
            have hZl : ((Y.put R (AObj.cells (v + 1) m1 51 1 true (l' ++ [AV.vs 1 [] (some 0)]))).put N (AObj.cells 0 m2 78 1 false [AV.v (Value.int IntKind.i64 c.fst), AV.sl R (v + 1) 0 (j + 1) none])).lock = 0 := hYl
            generalize (Y.put R _).put N _ = Z at *
            rw [none_end hZs rfl, wrap_succ j (by omega)]
            refine Again.mk' μ2 (by omega) (hQ2 _ _ _ ⟨j + 1, by omega, rfl, hZl, by omega, fun b hb => by rw [hZg b (by omega) (by omega)]; exact hYg b hb, ?_⟩)
            exact LnI.next (M := M) hM (by omega) hZN hZR hR1 (by omega) hl'l hl'b hm1 (Nat.zero_le _) (fun b h1 h2 h3 => hZg b h2 h3) hfz hal ((Fz.vs _ _ 1 [] (some 0)).mono (fun b hb => ⟨hb, rfl⟩) (by omega)) hw (Or.inr ⟨some 0, rfl⟩)
          · simp -implicitDefEqProofs only [go_sem, ↓reduceIte, Int.reduceEq, Int.reduceLT, Int.reduceLE, List.reduceReplicate, intA, setT_nil, setT_cons, hrE, hr5, hch.len, hch.cells, hix, hl.cells, hl.len, hjx, hcf, hsl0.cells, hne, hn0, appTo_vsT, bound_sl, hob, hq1, hf24, hfit, hne2, hne3, happ, hBR, hNR, hRN, strs_flatT, strs_bd, hst, hB, h0M, List.all_cons, List.all_nil, beq_self_eq_true, Bool.or_true, Bool.true_or, Bool.not_false, Bool.and_self, not_false_eq_true, sizeP hM, putP0 hM, putP hM, settleP0 hM, settleP hM, rowP0 hM, rowP hM, storeP0 hM hlkM, storeP hM hlkM, ↓boolP_bool, ↓iteB_true, ↓iteB_false, List.length_nil, List.length_cons, Nat.add_zero, Nat.zero_add]
            have hm1 : M + 12 + 1 ≤ (if mR ≤ M + 12 + 1 then M + 12 + 1 else mR) ∧ mR ≤ (if mR ≤ M + 12 + 1 then M + 12 + 1 else mR) := by split <;> omega
            generalize (if mR ≤ M + 12 + 1 then M + 12 + 1 else mR) = m1 at *
            generalize (if mB ≤ R + 1 then R + 1 else mB) = m2
            have hZs : ((Y.put R (AObj.cells (v + 1) m1 51 1 true (l' ++ [AV.sl (M + 12) 0 0 (List.length ws) none]))).put N (AObj.cells 0 m2 78 1 false [AV.v (Value.int IntKind.i64 c.fst), AV.sl R (v + 1) 0 (j + 1) none])).size = M := by rw [put_sizeI _ (by rw [hYRs]; omega)]; exact hYRs _
            have hZR := (put_get_ne (H := Y.put R (AObj.cells (v + 1) m1 51 1 true (l' ++ [AV.sl (M + 12) 0 0 (List.length ws) none]))) (c := R) (AObj.cells 0 m2 78 1 false [AV.v (Value.int IntKind.i64 c.fst), AV.sl R (v + 1) 0 (j + 1) none]) (b := N) (by rw [hYRs]; omega) (by omega)).trans (put_get_eq (AObj.cells (v + 1) m1 51 1 true (l' ++ [AV.sl (M + 12) 0 0 (List.length ws) none])) (by omega))
            have hZN := put_get_eq (H := Y.put R (AObj.cells (v + 1) m1 51 1 true (l' ++ [AV.sl (M + 12) 0 0 (List.length ws) none]))) (b := N) (AObj.cells 0 m2 78 1 false [AV.v (Value.int IntKind.i64 c.fst), AV.sl R (v + 1) 0 (j + 1) none]) (by rw [hYRs]; omega)
            have hZg : ∀ b, b ≠ N → b ≠ R → ((Y.put R (AObj.cells (v + 1) m1 51 1 true (l' ++ [AV.sl (M + 12) 0 0 (List.length ws) none]))).put N (AObj.cells 0 m2 78 1 false [AV.v (Value.int IntKind.i64 c.fst), AV.sl R (v + 1) 0 (j + 1) none])).get b = Y.get b := fun b hb1 hb2 => by rw [put_get_ne _ (by rw [hYRs]; omega) hb1, put_get_ne _ (by omega) hb2]
            have hZl : ((Y.put R (AObj.cells (v + 1) m1 51 1 true (l' ++ [AV.sl (M + 12) 0 0 (List.length ws) none]))).put N (AObj.cells 0 m2 78 1 false [AV.v (Value.int IntKind.i64 c.fst), AV.sl R (v + 1) 0 (j + 1) none])).lock = 0 := hYl
            generalize (Y.put R _).put N _ = Z at *
            rw [keep_end hZs (b := R) (by omega) hZR (by show M < m1; omega) rfl, wrap_succ j (by omega)]
            refine Again.mk' μ2 (by omega) (hQ2 _ _ _ ⟨j + 1, by omega, rfl, hZl, by rw [plus_size, hZs]; omega, fun b hb => by rw [plus_get _ (by omega), hZg b (by omega) (by omega)]; exact hYg b hb, ?_⟩)
            exact LnI.next (M := M) hM (by rw [plus_size, hZs]; omega) (by rw [plus_get _ (by omega)]; exact hZN) (by rw [plus_get _ (by omega)]; exact hZR) hR1 (by omega) hl'l hl'b hm1.2 (show bound (AV.sl (M + 12) 0 0 (List.length ws) none) ≤ m1 from hm1.1) (fun b h1 h2 h3 => by rw [plus_get _ (by omega)]; exact hZg b h2 h3) hfz hal (line_fz ⟨by omega, by rw [plus_size, hZs]; simp, by omega⟩ (plus_at hZs _ _) hwl) hw (Or.inr ⟨none, rfl⟩)
  · exact ⟨0, Nat.zero_add _, rfl, rfl, Nat.le_refl _, rfl, rfl, Or.inl ⟨rfl, rfl⟩⟩
end Go.Ev
namespace Go.Ev
open Go.Proofs
set_option maxRecDepth 100000
set_option linter.unusedSimpArgs false
/-! ### a law's arguments -/
theorem plA_of {N : Nat} {x : AV} (h : Arg Try.prog (N + 2) 26 x) : ∃ a b c, x = .agg [intA a, intA b, intA c] := by
  obtain ⟨A, rfl, hp⟩ := arg_struct (by kernel_rfl) h
  obtain ⟨a, b, c, rfl⟩ := place_of (N := N) hp
  exact ⟨a, b, c, rfl⟩
theorem int_of {N : Nat} {x : AV} (h : Arg Try.prog (N + 1) 3 x) : ∃ n, x = intA n := by
  unfold Arg at h
  have hu : Try.prog.underlying 3 = some (.int .i64) := by kernel_rfl
  rw [hu] at h
  obtain ⟨m, hm, -⟩ := plain_int hu h
  simp only [List.cons.injEq, and_true] at hm
  exact ⟨m, hm⟩
theorem str_of {N : Nat} {x : AV} (h : Arg Try.prog (N + 1) 9 x) : ∃ s, x = .v (.string s) ∧ s.size < 2 ^ 63 := by
  unfold Arg at h
  have hu : Try.prog.underlying 9 = some .string := by kernel_rfl
  rw [hu] at h
  obtain ⟨s, hs, hl⟩ := plain_string hu h
  simp only [List.cons.injEq, and_true] at hs
  refine ⟨s, hs, ?_⟩
  have : maxLen = 2 ^ 63 - 1 := by decide
  omega
/-- what Twin answers: the same text, in memory of its own -/
theorem twin7 (t : Txt) (_ht : Fits t) (hg : greatT t = false) (ch : AV) (xs : List AV) (hch : SlOf 2 xs ch) (hall : All2 ChapA t xs) : ∃ ch' xs', SlOf 2 xs' ch' ∧ All2 ChapA t xs' ∧ Ans (Cx eA) 7 [.agg [ch]] (.agg [ch']) := by
  unfold greatT at hg
  rw [Bool.or_eq_false_iff] at hg
  have h1 := of_decide_eq_false hg.1
  have h2 : ∀ c ∈ t, greatC c = false := fun c hc => by
    have := List.any_eq_false.1 hg.2 c hc
    simpa using this
  have h3 : ∀ c ∈ t, c.2.length < 1000 := fun c hc => by
    have := h2 c hc
    unfold greatC at this
    rw [Bool.or_eq_false_iff] at this
    have := of_decide_eq_false this.1
    omega
  have h4 : ∀ c ∈ t, ∀ w ∈ c.2, w.length < 50 := fun c hc w hw => by
    have := h2 c hc
    unfold greatC at this
    rw [Bool.or_eq_false_iff] at this
    have h5 := List.any_eq_false.1 this.2 w hw
    have h6 : greatL w = false := by simpa using h5
    unfold greatL at h6
    rw [Bool.or_eq_false_iff] at h6
    have := of_decide_eq_false h6.1
    omega
  obtain ⟨v, ⟨ch', xs', rfl, ha, hb⟩, hc⟩ := twinR (e := eA) quietA t (by omega) h3 h4 ch xs hch hall
  exact ⟨ch', xs', ha, hb, hc⟩
end Go.Ev
