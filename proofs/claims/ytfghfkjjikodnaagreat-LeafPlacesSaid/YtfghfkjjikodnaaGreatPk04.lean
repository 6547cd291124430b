/- What the proof of this claim stands on, part 5: an evaluator of the model, proved right, and what it answers for functions of the program. -/
import Derived.Test.YtfghfkjjikodnaaGreatPk03
set_option linter.unusedSimpArgs false
namespace Go.Ev
open Go.Proofs Go.Sort
set_option maxRecDepth 100000
set_option linter.unusedSimpArgs false
attribute [local irreducible] Wp WpS
/-! ### lists of copies: closed, or in memory -/
/-! ### memory behind which places are laid -/
structure MP (X : Heap) (ch : AV) (H : Heap) (ps : List P3) (out : AV) : Prop where
  lock : H.lock = X.lock
  size : X.size + 2 ≤ H.size
  low : ∀ b, b < X.size → H.get b = X.get b
  b1 : H.get X.size = some (.cells 0 0 24 1 false [ch])
  b2 : H.get (X.size + 1) = some (.cells 0 0 79 1 false [ch])
  done : (ps = [] ∧ out = .v (.slice none 0 0)) ∨ (ps ≠ [] ∧ ∃ b v, X.size + 2 ≤ b ∧ b < H.size ∧ out = .sl b v 0 ps.length none ∧ H.row b v = some (0, 32, 3, true, clP ps))
theorem MP.plus {X : Heap} {ch : AV} {H : Heap} {ps : List P3} {out : AV} (h : MP X ch H ps out) (E : List (Option AObj)) : MP X ch (H.plus E) ps out := by
  have hs := h.size
  refine ⟨h.lock, by rw [plus_size]; omega, fun b hb => (plus_get E (by omega)).trans (h.low b hb), (plus_get E (by omega)).trans h.b1, (plus_get E (by omega)).trans h.b2, ?_⟩
  rcases h.done with hd | ⟨h0, b, v, h1, h2, h3, h4⟩
  · exact Or.inl hd
  · exact Or.inr ⟨h0, b, v, h1, by rw [plus_size]; omega, h3, by rw [rowLo h2]; exact h4⟩
theorem MP.trim {X : Heap} {ch : AV} {H : Heap} {ps : List P3} {out : AV} (h : MP X ch H ps out) {n : Nat} (hn : X.size + 2 ≤ n) (hn2 : n ≤ H.size) (vs : List AV) (ms : List Nat) (hv : bound out ≤ boundL vs) : MP X ch (H.trim n vs ms) ps out := by
  refine ⟨trim_lock.trans h.lock, Nat.le_trans hn (trim_size' hn2), fun b hb => (trim_lo (by omega)).trans (h.low b hb), (trim_lo (by omega)).trans h.b1, (trim_lo (by omega)).trans h.b2, ?_⟩
  rcases h.done with hd | ⟨h0, b, v, h1, h2, rfl, h4⟩
  · exact Or.inl hd
  · unfold Heap.trim
    split
    · rename_i hq
      rw [Bool.and_eq_true, Bool.and_eq_true, Bool.and_eq_true, Nat.ble_eq] at hq
      have h5 := hq.1.1.1
      have hb : b < n := by simp only [bound] at hv; omega
      have hg := (takeH_get (H := H) hb).trans (row_of_get h4)
      exact Or.inr ⟨h0, b, v, h1, get_size hg, rfl, get_row hg⟩
    · exact Or.inr ⟨h0, b, v, h1, h2, rfl, h4⟩
theorem MP.more {X : Heap} {ch : AV} {H : Heap} {ps : List P3} {b v : Nat} (h : MP X ch H ps (.sl b v 0 ps.length none)) (h0 : ps ≠ []) (h1 : X.size + 2 ≤ b) (hb : b < H.size) (s : List P3) (n : Nat) (hn : n = ps.length + s.length) : MP X ch (H.put b (.cells (v + 1) 0 32 3 true (clP (ps ++ s)))) (ps ++ s) (.sl b (v + 1) 0 n none) := by
  have hs := h.size
  refine ⟨h.lock, by rw [put_sizeI _ hb]; omega, fun c hc => (put_get_ne _ (by omega) (by omega)).trans (h.low c hc), (put_get_ne _ (by omega) (by omega)).trans h.b1, (put_get_ne _ (by omega) (by omega)).trans h.b2, Or.inr ⟨fun e => h0 (List.append_eq_nil_iff.1 e).1, b, v + 1, h1, by rw [put_sizeI _ hb]; exact hb, by rw [hn, List.length_append], row_put_same hb⟩⟩
theorem MP.new {X : Heap} {ch : AV} {H : Heap} {ps : List P3} {out : AV} (h : MP X ch H ps out) {N : Nat} (hN : H.size = N) (E : List (Option AObj)) (k : Nat) (qs : List P3) (h0 : qs ≠ []) (hE : E[k]? = some (some (.cells 0 0 32 3 true (clP qs)))) : MP X ch (H.plus E) qs (.sl (N + k) 0 0 qs.length none) := by
  have hk := (List.getElem?_eq_some_iff.1 hE).1
  have hs := h.size
  refine ⟨h.lock, by rw [plus_size]; omega, fun b hb => (plus_get E (by omega)).trans (h.low b hb), (plus_get E (by omega)).trans h.b1, (plus_get E (by omega)).trans h.b2, Or.inr ⟨h0, N + k, 0, by omega, by rw [plus_size]; omega, rfl, ?_⟩⟩
  rw [rowP hN, hE]; rfl
end Go.Ev
namespace Go.Ev
open Go.Proofs
set_option maxRecDepth 100000
set_option linter.unusedSimpArgs false
attribute [local irreducible] Wp WpS
end Go.Ev
namespace Go.Ev
open Go.Proofs
set_option maxRecDepth 100000
set_option linter.unusedSimpArgs false
attribute [local irreducible] Wp WpS
theorem isAgg3 : isAggT Tryz.prog 3 = some false := by kernel_rfl
end Go.Ev
namespace Go.Ev
open Go.Proofs
set_option maxRecDepth 100000
set_option linter.unusedSimpArgs false
attribute [local irreducible] Wp WpS
/-! ### the lengths of the lines of a copy -/
end Go.Ev
namespace Go.Ev
open Go.Proofs
set_option maxRecDepth 100000
set_option linter.unusedSimpArgs false
attribute [local irreducible] Wp WpS
end Go.Ev
namespace Go.Ev
open Go.Proofs
set_option maxRecDepth 100000
set_option linter.unusedSimpArgs false
/-! ### a line of a copy, read in either way -/
/-- how readings of one line stand one behind the other -/
def Bhd (a b : Rd) : Prop := a.wd ≤ b.wd ∧ (a.kind ≠ 2 → a.wd < b.wd)
/-- a way to write a copy's line word by word -/
structure Way (ls : Line) (on : Rd → Prop) (W : List Rd → List ByteArray → Nat → List ByteArray) : Prop where
  none : ∀ ds w s, ls[w]? = some s → W [] ds w = ds ++ [s]
  last : ∀ ds, W [] ds ls.length = ds
  skip : ∀ (r : Rd) (l : List Rd) (ds : List ByteArray) (w : Nat), r.wd ≠ (w : Nat) → W (r :: l) ds w = W l ds w
  put : ∀ (r : Rd) (l : List Rd) (ds : List ByteArray) (w : Nat), on r → r.wd = (w : Nat) → r.kind = 2 → W (r :: l) ds w = W l (ds ++ [r.word]) w
  other : ∀ (r : Rd) (l : List Rd) (ds : List ByteArray) (w : Nat), on r → r.wd = (w : Nat) → r.kind ≠ 2 → w < ls.length → (∀ q ∈ l, q.wd ≠ (w : Nat)) → W (r :: l) ds w = ds ++ if r.word = emp then [] else [r.word]
theorem Way.far {ls : Line} {on : Rd → Prop} {W : List Rd → List ByteArray → Nat → List ByteArray} (hW : Way ls on W) (ds : List ByteArray) (w : Nat) : ∀ l : List Rd, (∀ r ∈ l, r.wd ≠ (w : Nat)) → W l ds w = W [] ds w
  | [], _ => rfl
  | r :: l, h => by rw [hW.skip r l ds w (h r (List.mem_cons_self ..)), hW.far ds w l fun q hq => h q (List.mem_cons_of_mem _ hq)]
theorem drop_take_succ (ls : Line) (p n : Nat) (s : ByteArray) (h : ls[p]? = some s) : (ls.drop p).take (n + 1) = s :: (ls.drop (p + 1)).take n := by
  obtain ⟨hp, rfl⟩ := List.getElem?_eq_some_iff.1 h
  rw [List.drop_eq_getElem_cons hp, List.take_succ_cons]
theorem Way.free {ls : Line} {on : Rd → Prop} {W : List Rd → List ByteArray → Nat → List ByteArray} (hW : Way ls on W) (l : List Rd) : ∀ (n p : Nat) (ds : List ByteArray), p + n ≤ ls.length → (∀ r ∈ l, ((p + n : Nat) : Int) ≤ r.wd) → (List.range' p n).foldl (W l) ds = ds ++ (ls.drop p).take n
  | 0, p, ds, _, _ => by simp
  | n + 1, p, ds, h1, h2 => by
    obtain ⟨s, hs⟩ := at_lt ls p (by omega)
    rw [List.range'_succ, List.foldl_cons, hW.far ds p l (fun r hr => by have := h2 r hr; omega), hW.none ds p s hs, hW.free l n (p + 1) (ds ++ [s]) (by omega) (fun r hr => by have := h2 r hr; omega), drop_take_succ ls p n s hs, List.append_assoc]
    rfl
theorem foldl_eq {α β : Type} {f g : α → β → α} : ∀ (l : List β) (a : α), (∀ b ∈ l, ∀ a, f a b = g a b) → l.foldl f a = l.foldl g a
  | [], _, _ => rfl
  | b :: l, a, h => by rw [List.foldl_cons, List.foldl_cons, h b (List.mem_cons_self ..) a, foldl_eq l _ fun c hc => h c (List.mem_cons_of_mem _ hc)]
theorem range'_split (p q n : Nat) (h1 : p ≤ q) (h2 : q ≤ n) : List.range' p (n - p) = List.range' p (q - p) ++ List.range' q (n - q) := by
  have h := List.range'_append (s := p) (m := q - p) (n := n - q) (step := 1)
  rw [Nat.one_mul, show p + (q - p) = q by omega, show q - p + (n - q) = n - p by omega] at h
  exact h.symm
/-- the word is what the kind says -/
structure RdW (ls : Line) (r : Rd) : Prop where
  kind : r.kind = 1 ∨ r.kind = 2 ∨ r.kind = 3
  word : r.kind = 1 ↔ r.word = emp
  hi : r.wd + (if r.kind = 2 then 0 else 1) ≤ ls.length
theorem way_read {ls : Line} {on : Rd → Prop} {W : List Rd → List ByteArray → Nat → List ByteArray} (hW : Way ls on W) : ∀ (l : List Rd) (p : Nat) (ds : List ByteArray), p ≤ ls.length → (∀ r ∈ l, on r ∧ RdW ls r ∧ (p : Int) ≤ r.wd) → l.Pairwise Bhd →
    (List.range' p (ls.length + 1 - p)).foldl (W l) ds = (l.foldl (rdOne ls) (p, ds)).2 ++ ls.drop (l.foldl (rdOne ls) (p, ds)).1
  | [], p, ds, hp, _, _ => by
    rw [range'_split p ls.length (ls.length + 1) hp (Nat.le_succ _), List.foldl_append, hW.free [] (ls.length - p) p ds (by omega) (fun r hr => nomatch hr), Nat.add_sub_cancel_left]
    show W [] _ ls.length = _
    rw [hW.last]
    show _ = ds ++ ls.drop p
    rw [List.take_of_length_le (by rw [List.length_drop]; exact Nat.le_refl _)]
  | r :: l, p, ds, hp, hr, hs => by
    obtain ⟨hon, hrw, hpw⟩ := hr r (List.mem_cons_self ..)
    obtain ⟨hb, hs'⟩ := List.pairwise_cons.1 hs
    obtain ⟨q, hq⟩ : ∃ q : Nat, r.wd = q := ⟨r.wd.toNat, by omega⟩
    have hhi := hrw.hi
    have hql : q ≤ ls.length := by split at hhi <;> omega
    have hqt : r.wd.toNat = q := by omega
    have hall : ∀ x ∈ r :: l, (q : Int) ≤ x.wd := fun x hx => by
      rcases List.mem_cons.1 hx with rfl | hx
      · omega
      · have := (hb x hx).1; omega
    have hf := hW.free (r :: l) (q - p) p ds (by omega) (fun x hx => by have := hall x hx; omega)
    rw [range'_split p q (ls.length + 1) (by omega) (by omega), List.foldl_append, hf]
    have hrest : ∀ (a : List ByteArray) (n : Nat), (List.range' (q + 1) n).foldl (W (r :: l)) a = (List.range' (q + 1) n).foldl (W l) a := fun a n =>
      foldl_eq _ a fun w hw a => hW.skip r l a w (by have := (List.mem_range'_1.1 hw).1; omega)
    by_cases hk : r.kind = 2
    · have hd : (r :: l).foldl (rdOne ls) (p, ds) = l.foldl (rdOne ls) (q, ds ++ (ls.drop p).take (q - p) ++ [r.word]) := by
        rw [List.foldl_cons]; unfold rdOne
        simp only [hk, hqt, if_true]
        rw [if_neg (by omega)]
      rw [hd, ← way_read hW l q _ hql (fun x hx => ⟨(hr x (List.mem_cons_of_mem _ hx)).1, (hr x (List.mem_cons_of_mem _ hx)).2.1, hall x (List.mem_cons_of_mem _ hx)⟩) hs']
      rw [show ls.length + 1 - q = (ls.length - q) + 1 by omega, List.range'_succ, List.foldl_cons, List.foldl_cons, hW.put r l _ q hon hq hk, hrest]
    · have hlt : q < ls.length := by rw [if_neg hk] at hhi; omega
      have hne : ∀ x ∈ l, x.wd ≠ (q : Nat) := fun x hx => by have := (hb x hx).2 hk; omega
      have hw : (if r.kind = 1 then ([] : List ByteArray) else [r.word]) = if r.word = emp then [] else [r.word] := by
        by_cases h1 : r.kind = 1
        · rw [if_pos h1, if_pos (hrw.word.1 h1)]
        · rw [if_neg h1, if_neg (fun h => h1 (hrw.word.2 h))]
      have hd : (r :: l).foldl (rdOne ls) (p, ds) = l.foldl (rdOne ls) (q + 1, ds ++ (ls.drop p).take (q - p) ++ if r.word = emp then [] else [r.word]) := by
        rw [List.foldl_cons]; unfold rdOne
        simp only [hk, hqt, if_false, hw]
      rw [hd, ← way_read hW l (q + 1) _ hlt (fun x hx => ⟨(hr x (List.mem_cons_of_mem _ hx)).1, (hr x (List.mem_cons_of_mem _ hx)).2.1, by have := (hb x hx).2 hk; omega⟩) hs']
      rw [show ls.length + 1 - q = (ls.length + 1 - (q + 1)) + 1 by omega, List.range'_succ, List.foldl_cons, hW.other r l _ q hon hq hk hlt hne, hrest]
theorem way_line {ls : Line} {on : Rd → Prop} {W : List Rd → List ByteArray → Nat → List ByteArray} (hW : Way ls on W) (l : List Rd) (hr : ∀ r ∈ l, on r ∧ RdW ls r ∧ 0 ≤ r.wd) (hs : l.Pairwise Bhd) : (List.range (ls.length + 1)).foldl (W l) [] = readLineL ls l := by
  rw [List.range_eq_range']
  exact way_read hW l 0 [] (Nat.zero_le _) hr hs
/-! ### the reference's way -/
theorem refI_far (k n : Int) (w : Nat) (l : List Rd) (h : ∀ q ∈ l, q.wd ≠ (w : Nat)) (s : List ByteArray × ByteArray) : l.foldl (refI k n w) s = s := by
  induction l generalizing s with
  | nil => rfl
  | cons r l ih =>
    have : refI k n w s r = s := by unfold refI; rw [if_neg (fun hh => h r (List.mem_cons_self ..) hh.2.2)]
    rw [List.foldl_cons, this, ih fun q hq => h q (List.mem_cons_of_mem _ hq)]
theorem way_ref (ls : Line) (hne : ∀ s ∈ ls, s ≠ emp) (k n : Int) : Way ls (fun r => r.ch = k ∧ r.ln = n) (fun l => refW ls l k n) := by
  refine ⟨fun ds w s hs => ?_, fun ds => ?_, fun r l ds w h => ?_, fun r l ds w ho h hk => ?_, fun r l ds w ho h hk hw hf => ?_⟩
  · unfold refW
    simp only [List.foldl_nil, hs, Option.getD_some]
    rw [if_neg (hne s (List.mem_of_getElem? hs))]
  · unfold refW
    simp only [List.foldl_nil, List.getElem?_eq_none_iff.2 (Nat.le_refl _), Option.getD_none, if_true]
  · unfold refW
    rw [List.foldl_cons, show refI k n w (ds, (ls[w]?).getD emp) r = (ds, (ls[w]?).getD emp) by unfold refI; rw [if_neg (fun hh => h hh.2.2)]]
  · unfold refW
    rw [List.foldl_cons, show refI k n w (ds, (ls[w]?).getD emp) r = (ds ++ [r.word], (ls[w]?).getD emp) by unfold refI; rw [if_pos ⟨ho.1, ho.2, h⟩, if_pos hk]]
  · unfold refW
    rw [List.foldl_cons, show refI k n w (ds, (ls[w]?).getD emp) r = (ds, r.word) by unfold refI; rw [if_pos ⟨ho.1, ho.2, h⟩, if_neg hk], refI_far k n w l hf]
    simp only
    split
    · rw [List.append_nil]
    · rfl
theorem atLine_iff {k n : Int} {r : Rd} : atLine k n 0 r = true ↔ r.ch = k ∧ r.ln = n := by
  unfold atLine eqP; simp
theorem refW_filter (ls : Line) (rs : List Rd) (k n : Int) (ds : List ByteArray) (w : Nat) : refW ls rs k n ds w = refW ls (rs.filter (atLine k n 0)) k n ds w := by
  have h : ∀ (l : List Rd) (s : List ByteArray × ByteArray), l.foldl (refI k n w) s = (l.filter (atLine k n 0)).foldl (refI k n w) s := by
    intro l
    induction l with
    | nil => intro s; rfl
    | cons r l ih =>
      intro s
      cases ha : atLine k n 0 r
      · have : refI k n w s r = s := by unfold refI; rw [if_neg (fun hh => by rw [atLine_iff.2 ⟨hh.1, hh.2.1⟩] at ha; cases ha)]
        rw [List.foldl_cons, this, ih, List.filter_cons_of_neg (by rw [ha]; simp)]
      · rw [List.filter_cons_of_pos ha, List.foldl_cons, List.foldl_cons, ih]
  unfold refW; rw [h rs]
/-! ### the law's way -/
def putAt (k n w : Int) (r : Rd) : Bool := decide (r.kind = 2) && eqP r.ch r.ln r.wd k n w
def lawW (ls : Line) (rs : List Rd) (k n : Int) (ds : List ByteArray) (w : Nat) : List ByteArray :=
  let d := ds ++ (rs.filter (putAt k n w)).map Rd.word
  match ls[w]? with
  | none => d
  | some s => if standL rs k n w s = emp then d else d ++ [standL rs k n w s]
theorem eqP_wd {r : Rd} {k n : Int} {w : Nat} (h : r.wd ≠ (w : Nat)) : eqP r.ch r.ln r.wd k n w = false := by
  unfold eqP; simp; intro _ _ h2; exact h h2
theorem eqP_on {r : Rd} {k n : Int} {w : Nat} (h : r.ch = k ∧ r.ln = n) (hw : r.wd = (w : Nat)) : eqP r.ch r.ln r.wd k n w = true := by
  unfold eqP; simp [h.1, h.2, hw]
theorem stand_cons_no {r : Rd} {l : List Rd} {k n w : Int} {s : ByteArray} (h : takesB k n w r = false) : standL (r :: l) k n w s = standL l k n w s := by unfold standL; rw [List.find?_cons, h]
theorem stand_cons_yes {r : Rd} {l : List Rd} {k n w : Int} {s : ByteArray} (h : takesB k n w r = true) : standL (r :: l) k n w s = r.word := by unfold standL; rw [List.find?_cons, h]
theorem way_law (ls : Line) (hne : ∀ s ∈ ls, s ≠ emp) (k n : Int) : Way ls (fun r => r.ch = k ∧ r.ln = n) (fun l => lawW ls l k n) := by
  refine ⟨fun ds w s hs => ?_, fun ds => ?_, fun r l ds w h => ?_, fun r l ds w ho h hk => ?_, fun r l ds w ho h hk hw hf => ?_⟩
  · unfold lawW
    have h0 : standL [] k n w s = s := rfl
    simp only [hs, List.filter_nil, List.map_nil, List.append_nil, h0]
    rw [if_neg (hne s (List.mem_of_getElem? hs))]
  · unfold lawW
    simp only [List.getElem?_eq_none_iff.2 (Nat.le_refl _), List.filter_nil, List.map_nil, List.append_nil]
  · have h1 : putAt k n w r = false := by unfold putAt; rw [eqP_wd h, Bool.and_false]
    have h2 : takesB k n w r = false := by unfold takesB; rw [eqP_wd h]; rfl
    unfold lawW
    rw [List.filter_cons_of_neg (by rw [h1]; simp)]
    simp only [stand_cons_no h2]
  · have h1 : putAt k n w r = true := by unfold putAt; rw [eqP_on ho h, Bool.and_true]; exact decide_eq_true hk
    have h2 : takesB k n w r = false := by unfold takesB; rw [decide_eq_true hk, Bool.not_true, Bool.and_false]
    unfold lawW
    rw [List.filter_cons_of_pos h1]
    simp only [stand_cons_no h2, List.map_cons, List.append_assoc, List.singleton_append]
  · have h1 : putAt k n w r = false := by unfold putAt; rw [decide_eq_false hk]; rfl
    have h2 : takesB k n w r = true := by unfold takesB; rw [eqP_on ho h, decide_eq_false hk]; rfl
    have h3 : l.filter (putAt k n w) = [] := List.filter_eq_nil_iff.2 fun q hq => by unfold putAt; rw [eqP_wd (hf q hq), Bool.and_false]; simp
    obtain ⟨s, hs⟩ := at_lt ls w hw
    unfold lawW
    rw [List.filter_cons_of_neg (by rw [h1]; simp), h3]
    simp only [hs, stand_cons_yes h2, List.map_nil, List.append_nil]
    split
    · rw [List.append_nil]
    · rfl
theorem lawW_filter (ls : Line) (rs : List Rd) (k n : Int) (ds : List ByteArray) (w : Nat) : lawW ls rs k n ds w = lawW ls (rs.filter (atLine k n 0)) k n ds w := by
  have ha : ∀ r : Rd, eqP r.ch r.ln r.wd k n w = true → atLine k n 0 r = true := fun r h => by
    unfold eqP at h; simp at h; exact atLine_iff.2 ⟨h.1, h.2.1⟩
  have h1 : rs.filter (putAt k n w) = (rs.filter (atLine k n 0)).filter (putAt k n w) := by
    rw [List.filter_filter]
    refine List.filter_congr fun r _ => ?_
    cases hp : putAt k n w r
    · rfl
    · have : eqP r.ch r.ln r.wd k n w = true := by unfold putAt at hp; simp only [Bool.and_eq_true] at hp; exact hp.2
      rw [ha r this]; rfl
  have h2 : ∀ s, standL rs k n w s = standL (rs.filter (atLine k n 0)) k n w s := fun s => by
    induction rs with
    | nil => rfl
    | cons r l ih =>
      cases hl : atLine k n 0 r
      · have ht : takesB k n w r = false := by
          cases ht : takesB k n w r
          · rfl
          · unfold takesB at ht; simp only [Bool.and_eq_true] at ht; rw [ha r ht.1] at hl; cases hl
        rw [stand_cons_no ht, List.filter_cons_of_neg (by rw [hl]; simp)]
        exact ih (by rw [List.filter_filter]; refine List.filter_congr fun r _ => ?_; cases hp : putAt k n w r
                     · rfl
                     · have : eqP r.ch r.ln r.wd k n w = true := by unfold putAt at hp; simp only [Bool.and_eq_true] at hp; exact hp.2
                       rw [ha r this]; rfl)
      · rw [List.filter_cons_of_pos hl]
        unfold standL
        rw [List.find?_cons, List.find?_cons]
        cases ht : takesB k n w r
        · exact ih (by rw [List.filter_filter]; refine List.filter_congr fun r _ => ?_; cases hp : putAt k n w r
                       · rfl
                       · have : eqP r.ch r.ln r.wd k n w = true := by unfold putAt at hp; simp only [Bool.and_eq_true] at hp; exact hp.2
                         rw [ha r this]; rfl)
        · rfl
  unfold lawW; rw [← h1]; simp only [← h2]
end Go.Ev
namespace Go.Ev
open Go.Proofs
set_option maxRecDepth 100000
set_option linter.unusedSimpArgs false
/-! ### readings in order -/
def Ahd (a b : Rd) : Prop := a.ch < b.ch ∨ (a.ch = b.ch ∧ (a.ln < b.ln ∨ (a.ln = b.ln ∧ a.wd ≤ b.wd ∧ (a.kind ≠ 2 → a.wd < b.wd))))
theorem Ahd.trans {a b c : Rd} (h1 : Ahd a b) (h2 : Ahd b c) : Ahd a c := by
  unfold Ahd at *; omega
theorem pairR_ahd {a b : Rd} (h : pairR a b = true) : Ahd a b := by
  unfold pairR beforeB eqP at h
  unfold Ahd
  simp only [Bool.not_eq_true', Bool.or_eq_false_iff, Bool.and_eq_false_iff, Bool.not_eq_false', decide_eq_false_iff_not, decide_eq_true_eq, ne_eq] at h
  obtain ⟨h1, h2⟩ := h
  split at h1
  · simp only [decide_eq_false_iff_not] at h1; omega
  · split at h1
    · simp only [decide_eq_false_iff_not] at h1; omega
    · simp only [decide_eq_false_iff_not] at h1; omega
theorem rdsB_all (t : Txt) : ∀ (l : List Rd) (p : Option Rd), rdsB t p l = true → (∀ r ∈ l, readB t r = true) ∧ l.Pairwise Ahd ∧ (∀ q, p = some q → ∀ r ∈ l, Ahd q r)
  | [], _, _ => ⟨(fun r h => nomatch h), List.Pairwise.nil, (fun _ _ r h => nomatch h)⟩
  | r :: l, p, h => by
    unfold rdsB at h
    simp only [Bool.and_eq_true] at h
    obtain ⟨⟨h1, h2⟩, h3⟩ := h
    obtain ⟨i1, i2, i3⟩ := rdsB_all t l (some r) h3
    have i3 := i3 r rfl
    refine ⟨fun x hx => ?_, List.pairwise_cons.2 ⟨i3, i2⟩, fun q hq x hx => ?_⟩
    · rcases List.mem_cons.1 hx with rfl | hx
      · exact h1
      · exact i1 x hx
    · subst hq
      have hr := pairR_ahd h2
      rcases List.mem_cons.1 hx with rfl | hx
      · exact hr
      · exact hr.trans (i3 x hx)
theorem wordB_ne {s : ByteArray} (h : wordB s = true) : s ≠ emp := by
  rintro rfl
  unfold wordB at h
  simp only [Bool.and_eq_true] at h
  have := h.1
  revert this; decide
/-- a copy whose readings fit, in order -/
structure Cpy (t : Txt) (rs : List Rd) : Prop where
  fit : ∀ r ∈ rs, readB t r = true
  ord : rs.Pairwise Ahd
theorem Cpy.of {t : Txt} {rs : List Rd} (h : rdsB t none rs = true) : Cpy t rs := ⟨(rdsB_all t rs none h).1, (rdsB_all t rs none h).2.1⟩
/-- the readings of one line -/
def ofLn (rs : List Rd) (k n : Int) : List Rd := rs.filter (atLine k n 0)
theorem ofLn_mem {rs : List Rd} {k n : Int} {r : Rd} : r ∈ ofLn rs k n ↔ r ∈ rs ∧ r.ch = k ∧ r.ln = n := by
  unfold ofLn; rw [List.mem_filter, atLine_iff]
theorem Cpy.bhd {t : Txt} {rs : List Rd} (h : Cpy t rs) (k n : Int) : (ofLn rs k n).Pairwise Bhd := by
  have h1 : (ofLn rs k n).Pairwise Ahd := h.ord.sublist List.filter_sublist
  refine h1.imp_of_mem fun ha hb hr => ?_
  have h2 := (ofLn_mem.1 ha).2
  have h3 := (ofLn_mem.1 hb).2
  unfold Ahd at hr
  unfold Bhd
  omega
theorem Cpy.rdw {t : Txt} {rs : List Rd} (h : Cpy t rs) {k n : Int} {ls : Line} (hl : lineAt t k n = some ls) {r : Rd} (hr : r ∈ ofLn rs k n) : RdW ls r ∧ 0 ≤ r.wd := by
  obtain ⟨hm, h1, h2⟩ := ofLn_mem.1 hr
  have hf := h.fit r hm
  unfold readB at hf
  rw [h1, h2, hl] at hf
  simp only at hf
  split at hf
  · rename_i hk
    unfold fits1 at hf
    simp only [Bool.and_eq_true, decide_eq_true_eq] at hf
    exact ⟨⟨Or.inl hk, ⟨fun _ => hf.2, fun _ => hk⟩, by rw [if_neg (by omega)]; omega⟩, hf.1.1⟩
  · split at hf
    · rename_i hk1 hk
      unfold fits2 withinB at hf
      simp only [List.all_cons, List.all_nil, Bool.and_true, Bool.and_eq_true, decide_eq_true_eq] at hf
      exact ⟨⟨Or.inr (Or.inl hk), ⟨fun h => absurd h hk1, fun h => absurd h (wordB_ne hf.2)⟩, by rw [if_pos hk]; omega⟩, hf.1.1⟩
    · split at hf
      · rename_i hk1 hk2 hk
        unfold fits3 at hf
        simp only [Bool.and_eq_true, decide_eq_true_eq] at hf
        exact ⟨⟨Or.inr (Or.inr hk), ⟨fun h => absurd h hk1, fun h => absurd h (wordB_ne hf.1.2)⟩, by rw [if_neg hk2]; omega⟩, hf.1.1.1⟩
      · cases hf
theorem foldl_same {α β : Type} {f g : α → β → α} (h : ∀ a b, f a b = g a b) (l : List β) (a : α) : l.foldl f a = l.foldl g a := foldl_eq l a fun b _ a => h a b
theorem Cpy.line {t : Txt} {rs : List Rd} (h : Cpy t rs) {k n : Int} {ls : Line} (hl : lineAt t k n = some ls) (hne : ∀ s ∈ ls, s ≠ emp) : refLine ls rs k n = readLineL ls (ofLn rs k n) := by
  unfold refLine
  rw [foldl_same (g := refW ls (ofLn rs k n) k n) (fun a b => refW_filter ls rs k n a b)]
  exact way_line (way_ref ls hne k n) (ofLn rs k n) (fun r hr => ⟨(ofLn_mem.1 hr).2, h.rdw hl hr⟩) (h.bhd k n)
theorem Cpy.law {t : Txt} {rs : List Rd} (h : Cpy t rs) {k n : Int} {ls : Line} (hl : lineAt t k n = some ls) (hne : ∀ s ∈ ls, s ≠ emp) : (List.range (ls.length + 1)).foldl (lawW ls rs k n) [] = refLine ls rs k n := by
  rw [h.line hl hne, foldl_same (g := lawW ls (ofLn rs k n) k n) (fun a b => lawW_filter ls rs k n a b)]
  exact way_line (way_law ls hne k n) (ofLn rs k n) (fun r hr => ⟨(ofLn_mem.1 hr).2, h.rdw hl hr⟩) (h.bhd k n)
/-! ### the text of a copy -/
def readT (t : Txt) (rs : List Rd) : Txt := t.mapIdx fun k c => (c.1, c.2.mapIdx fun n l => refLine l rs k n)
theorem readT_get {t : Txt} {rs : List Rd} {k : Nat} {c : Chap} (h : t[k]? = some c) : (readT t rs)[k]? = some (c.1, c.2.mapIdx fun n l => refLine l rs k n) := by
  unfold readT; rw [List.getElem?_mapIdx, h]; rfl
theorem lineAt_nat {t : Txt} {k n : Nat} {c : Chap} {l : Line} (h : t[k]? = some c) (hl : c.2[n]? = some l) : lineAt t k n = some l := by
  unfold lineAt
  rw [if_pos (by omega)]
  simp only [Int.toNat_natCast, h, Option.bind_some, hl]
end Go.Ev
namespace Go.Ev
open Go.Proofs
set_option maxRecDepth 100000
set_option linter.unusedSimpArgs false
attribute [local irreducible] Wp WpS
/-! ### the text of a copy, as read answers it -/
theorem Small.ne {t : Txt} (hs : Small t) {k n : Int} {ls : Line} (h : lineAt t k n = some ls) : ∀ s ∈ ls, s ≠ emp := fun s hm => by
  obtain ⟨c, hc, hl⟩ := lineAt_mem h
  exact wordB_ne (hs.word c hc ls hl s hm)
/-! ### the lines of a copy are lines -/
theorem linesN_get (rs : List Rd) (k : Nat) : ∀ (ls : List Line) (n j : Nat) (l : Line), linesN rs k n ls = true → ls[j]? = some l → withinB 1 10 [((refLine l rs k ((n + j : Nat) : Int)).length : Int)] = true
  | [], _, _, _, _, h => by simp at h
  | x :: r, n, j, l, h1, h2 => by
    unfold linesN at h1
    simp only [Bool.and_eq_true] at h1
    cases j with
    | zero => simp at h2; subst h2; exact h1.1
    | succ j =>
      have := linesN_get rs k r (n + 1) j l h1.2 (by simpa using h2)
      rwa [show n + 1 + j = n + (j + 1) by omega] at this
theorem chapsN_get (rs : List Rd) : ∀ (t : Txt) (k i : Nat) (c : Chap), chapsN rs k t = true → t[i]? = some c → linesN rs (k + i) 0 c.2 = true
  | [], _, _, _, _, h => by simp at h
  | x :: r, k, i, c, h1, h2 => by
    unfold chapsN at h1
    simp only [Bool.and_eq_true] at h1
    cases i with
    | zero => simp at h2; subst h2; exact h1.1
    | succ i =>
      have := chapsN_get rs r (k + 1) i c h1.2 (by simpa using h2)
      rwa [show k + 1 + i = k + (i + 1) by omega] at this
theorem readT_mem {t : Txt} {rs : List Rd} {c : Chap} {l : Line} (hc : c ∈ readT t rs) (hl : l ∈ c.2) : ∃ (k n : Nat) (d : Chap) (ln : Line), t[k]? = some d ∧ d.2[n]? = some ln ∧ l = refLine ln rs k n ∧ c.2.length = d.2.length := by
  obtain ⟨k, hk⟩ := List.getElem?_of_mem hc
  have hil : k < t.length := by
    have := (List.getElem?_eq_some_iff.1 hk).1
    unfold readT at this; rwa [List.length_mapIdx] at this
  obtain ⟨d, hd⟩ := at_lt t k hil
  rw [readT_get hd] at hk
  cases hk
  obtain ⟨n, hn⟩ := List.getElem?_of_mem hl
  simp only at hn
  rw [List.getElem?_mapIdx] at hn
  cases hk : d.2[n]? with
  | none => rw [hk] at hn; cases hn
  | some ln => rw [hk] at hn; cases hn; exact ⟨k, n, d, ln, hd, hk, rfl, by simp⟩
theorem readT_chap {t : Txt} {rs : List Rd} {c : Chap} (hc : c ∈ readT t rs) : ∃ d ∈ t, c.1 = d.1 ∧ c.2.length = d.2.length := by
  obtain ⟨k, hk⟩ := List.getElem?_of_mem hc
  have hil : k < t.length := by
    have := (List.getElem?_eq_some_iff.1 hk).1
    unfold readT at this; rwa [List.length_mapIdx] at this
  obtain ⟨d, hd⟩ := at_lt t k hil
  rw [readT_get hd] at hk
  cases hk
  exact ⟨d, List.mem_of_getElem? hd, rfl, by simp⟩
theorem rdOnes_mem {ls : Line} {s : ByteArray} : ∀ (l : List Rd) (st : Nat × List ByteArray), s ∈ (l.foldl (rdOne ls) st).2 → s ∈ st.2 ∨ s ∈ ls ∨ ∃ r ∈ l, r.kind ≠ 1 ∧ s = r.word
  | [], st, h => Or.inl h
  | r :: l, st, h => by
    rw [List.foldl_cons] at h
    rcases rdOnes_mem l _ h with h | h | ⟨q, hq, h⟩
    · unfold rdOne at h
      simp only at h
      rcases List.mem_append.1 h with h | h
      · rcases List.mem_append.1 h with h | h
        · exact Or.inl h
        · exact Or.inr (Or.inl (List.mem_of_mem_drop (List.mem_of_mem_take h)))
      · split at h
        · exact nomatch h
        · rename_i hk
          exact Or.inr (Or.inr ⟨r, List.mem_cons_self .., hk, List.mem_singleton.1 h⟩)
    · exact Or.inr (Or.inl h)
    · exact Or.inr (Or.inr ⟨q, List.mem_cons_of_mem _ hq, h⟩)
theorem readLineL_mem {ls : Line} {l : List Rd} {s : ByteArray} (h : s ∈ readLineL ls l) : s ∈ ls ∨ ∃ r ∈ l, r.kind ≠ 1 ∧ s = r.word := by
  unfold readLineL at h
  rcases List.mem_append.1 h with h | h
  · rcases rdOnes_mem l _ h with h | h | h
    · exact nomatch h
    · exact Or.inl h
    · exact Or.inr h
  · exact Or.inl (List.mem_of_mem_drop h)
theorem Cpy.wordB {t : Txt} {rs : List Rd} (h : Cpy t rs) {r : Rd} (hr : r ∈ rs) (hk : r.kind ≠ 1) : wordB r.word = true := by
  have hf := h.fit r hr
  unfold readB at hf
  split at hf
  · cases hf
  · rw [if_neg hk] at hf
    split at hf
    · unfold fits2 at hf; simp only [Bool.and_eq_true] at hf; exact hf.2
    · split at hf
      · unfold fits3 at hf; simp only [Bool.and_eq_true] at hf; exact hf.1.2
      · cases hf
/-- what the reference's Copy says of a copy -/
structure Right (t : Txt) (id : Int) (rs : List Rd) : Prop where
  id : withinB 0 9999 [id] = true
  len : ¬ 20 < (rs.length : Int)
  cpy : Cpy t rs
  lines : ∀ (k n : Nat) (c : Chap) (l : Line), t[k]? = some c → c.2[n]? = some l → 1 ≤ (refLine l rs k n).length ∧ (refLine l rs k n).length ≤ 10
theorem Right.of {t : Txt} {id : Int} {rs : List Rd} (h : copyB t id rs = true) : Right t id rs := by
  unfold copyB at h
  simp only [Bool.and_eq_true, Bool.not_eq_true', decide_eq_false_iff_not] at h
  obtain ⟨⟨h1, h2⟩, h3, h4⟩ := h
  refine ⟨h1, h2, Cpy.of h3, fun k n c l hc hl => ?_⟩
  have := linesN_get rs (0 + k) c.2 0 n l (chapsN_get rs t 0 k c h4 hc) hl
  rw [Nat.zero_add, Nat.zero_add] at this
  unfold withinB at this
  simp only [List.all_cons, List.all_nil, Bool.and_true, Bool.and_eq_true, decide_eq_true_eq] at this
  omega
theorem Right.small {t : Txt} {id : Int} {rs : List Rd} (h : Right t id rs) (hs : Small t) : Small (readT t rs) := by
  refine ⟨?_, fun c hc => ?_, fun c hc l hl => ?_, fun c hc l hl s hm => ?_⟩
  · unfold readT; rw [List.length_mapIdx]; exact hs.chs
  · obtain ⟨d, hd, -, h2⟩ := readT_chap hc
    rw [h2]; exact hs.lines d hd
  · obtain ⟨k, n, d, ln, h1, h2, rfl, -⟩ := readT_mem hc hl
    exact h.lines k n d ln h1 h2
  · obtain ⟨k, n, d, ln, h1, h2, rfl, -⟩ := readT_mem hc hl
    have hLA := lineAt_nat h1 h2
    rw [h.cpy.line hLA (hs.ne hLA)] at hm
    rcases readLineL_mem hm with hm | ⟨r, hr, hk, rfl⟩
    · exact hs.word d (List.mem_of_getElem? h1) ln (List.mem_of_getElem? h2) s hm
    · exact h.cpy.wordB ((ofLn_mem.1 hr).1) hk
end Go.Ev
namespace Go.Ev
open Go.Proofs
set_option maxRecDepth 100000
set_option linter.unusedSimpArgs false
attribute [local irreducible] Wp WpS
/-! ### a copy that is right, by both -/
/-! ### memory with a list of words that grows over what stays -/
structure MB (B : Nat) (base : Fm) (H : Heap) (ds : List ByteArray) (out : AV) : Prop where
  lock : H.lock = 0
  size : B ≤ H.size
  base : Has base H
  done : DoneR H ds out
/-- what stays is no list that grows, and lies in front -/
def Stay (B : Nat) (base : Fm) : Prop := ∀ p ∈ base, p.1 < B ∧ ∀ v m e sz cs, p.2 ≠ .cells v m e sz true cs
theorem MB.row {B : Nat} {base : Fm} {H : Heap} {ds : List ByteArray} {out : AV} (h : MB B base H ds out) {b v m e sz : Nat} {g : Bool} {cs : List AV} (hb : (b, AObj.cells v m e sz g cs) ∈ base) (E : List (Option AObj)) : (H.plus E).row b v = some (m, e, sz, g, cs) := by
  have hg := h.base _ hb
  rw [rowLo (get_ltS hg)]; exact get_row hg
theorem MB.plus {B : Nat} {base : Fm} {H : Heap} {ds : List ByteArray} {out : AV} (h : MB B base H ds out) (E : List (Option AObj)) : MB B base (H.plus E) ds out :=
  ⟨h.lock, by have := h.size; rw [plus_size]; omega, h.base.plus E, h.done.plus E⟩
theorem MB.trim {B : Nat} {base : Fm} {H : Heap} {ds : List ByteArray} {out : AV} (h : MB B base H ds out) (hS : Stay B base) {n : Nat} (hn : B ≤ n) (vs : List AV) (ms : List Nat) (hv : bound out ≤ boundL vs) : MB B base (H.trim n vs ms) ds out := by
  by_cases hn2 : n ≤ H.size
  · refine ⟨trim_lock.trans h.lock, Nat.le_trans hn (trim_size' hn2), fun p hp => (trim_lo (by have := (hS p hp).1; omega)).trans (h.base p hp), ?_⟩
    rcases h.done with hd | ⟨b, v, h1, h2, rfl, h4⟩
    · exact Or.inl hd
    · unfold Heap.trim
      split
      · rename_i hq
        rw [Bool.and_eq_true, Bool.and_eq_true, Bool.and_eq_true, Nat.ble_eq] at hq
        have h5 := hq.1.1.1
        have hb : b < n := by simp only [bound] at hv; omega
        have hg := (takeH_get (H := H) hb).trans (row_of_get h4)
        exact Or.inr ⟨b, v, h1, get_size hg, rfl, get_row hg⟩
      · exact Or.inr ⟨b, v, h1, h2, rfl, h4⟩
  · rw [trim_whole (by omega)]; exact h
theorem MB.more {B : Nat} {base : Fm} {H : Heap} {ds : List ByteArray} {b v : Nat} (h : MB B base H ds (.sl b v 0 ds.length none)) (hS : Stay B base) (hb : b < H.size) (hr : H.row b v = some (0, 9, 1, true, strs ds)) (s : List ByteArray) (n : Nat) (hn : n = ds.length + s.length) : MB B base (H.put b (.cells (v + 1) 0 9 1 true (strs (ds ++ s)))) (ds ++ s) (.sl b (v + 1) 0 n none) := by
  refine ⟨h.lock, by rw [put_sizeI _ hb]; exact h.size, fun p hp => ?_, Or.inr ⟨b, v + 1, ?_, by rw [put_sizeI _ hb]; exact hb, by rw [hn, List.length_append], row_put_same hb⟩⟩
  · have hne : p.1 ≠ b := by
      rintro rfl
      have h1 := (row_of_get hr).symm.trans (h.base p hp)
      exact (hS p hp).2 v 0 9 1 (strs ds) (Option.some.inj h1).symm
    exact (put_get_ne _ (by omega) hne).trans (h.base p hp)
  · have := h.lock
    show H.lock ≤ b
    omega
theorem MB.new {B : Nat} {base : Fm} {H : Heap} {ds : List ByteArray} {out : AV} (h : MB B base H ds out) {N : Nat} (hN : H.size = N) (E : List (Option AObj)) (k : Nat) (ds' : List ByteArray) (hE : E[k]? = some (some (.cells 0 0 9 1 true (strs ds')))) : MB B base (H.plus E) ds' (.sl (N + k) 0 0 ds'.length none) := by
  have hk := (List.getElem?_eq_some_iff.1 hE).1
  refine ⟨h.lock, by have := h.size; rw [plus_size]; omega, h.base.plus E, Or.inr ⟨N + k, 0, ?_, by rw [plus_size]; omega, rfl, ?_⟩⟩
  · have := h.lock
    show H.lock ≤ _
    omega
  · rw [rowP hN, hE]; rfl
end Go.Ev
namespace Go.Ev
open Go.Proofs
set_option maxRecDepth 100000
set_option linter.unusedSimpArgs false
attribute [local irreducible] Wp WpS
end Go.Ev
namespace Go.Ev
open Go.Proofs
set_option maxRecDepth 100000
set_option linter.unusedSimpArgs false
attribute [local irreducible] Wp WpS
end Go.Ev
namespace Go.Ev
open Go.Proofs
set_option maxRecDepth 100000
set_option linter.unusedSimpArgs false
attribute [local irreducible] Wp WpS
theorem MB.drop {B : Nat} {base : Fm} {H : Heap} {ds : List ByteArray} {out : AV} (h : MB B base H ds out) : MB B base H [] (.v (.slice none 0 0)) := ⟨h.lock, h.size, h.base, Or.inl ⟨rfl, rfl⟩⟩
theorem MB.sub {B B' : Nat} {base base' : Fm} {H : Heap} {ds : List ByteArray} {out : AV} (h : MB B base H ds out) (hB : B' ≤ B) (hb : ∀ p ∈ base', p ∈ base) : MB B' base' H ds out := ⟨h.lock, Nat.le_trans hB h.size, fun p hp => h.base p (hb p hp), h.done⟩
theorem MB.lay {B : Nat} {base : Fm} {H : Heap} {ds : List ByteArray} {out : AV} (h : MB B base H ds out) {N : Nat} (hN : H.size = N) (o : AObj) (E : List (Option AObj)) : MB (N + 1) (base ++ [(N, o)]) (H.plus (some o :: E)) ds out := by
  refine ⟨h.lock, by rw [plus_size, hN, List.length_cons]; omega, fun p hp => ?_, h.done.plus _⟩
  rcases List.mem_append.1 hp with hp | hp
  · exact h.base.plus _ p hp
  · obtain rfl := List.mem_singleton.1 hp
    rw [plus_get_hi _ (by omega), hN, Nat.sub_self]; rfl
theorem Stay.lay {B N : Nat} {base : Fm} (h : Stay B base) (hB : B ≤ N) {o : AObj} (ho : ∀ v m e sz cs, o ≠ .cells v m e sz true cs) : Stay (N + 1) (base ++ [(N, o)]) := by
  intro p hp
  rcases List.mem_append.1 hp with hp | hp
  · exact ⟨by have := (h p hp).1; omega, (h p hp).2⟩
  · obtain rfl := List.mem_singleton.1 hp
    exact ⟨Nat.lt_succ_self _, ho⟩
end Go.Ev
namespace Go.Ev
open Go.Proofs
set_option maxRecDepth 100000
set_option linter.unusedSimpArgs false
/-! ### from arguments of plain data to copies -/
end Go.Ev
namespace Go.Ev
open Go.Proofs Go.Sort
set_option maxRecDepth 100000
set_option linter.unusedSimpArgs false
attribute [local irreducible] Wp WpS
theorem words_at {t : Txt} {n : Nat} {x : Plc × ByteArray} (hx : (wordsT 0 t)[n]? = some x) : ∃ ln, lineAt t x.1.1 x.1.2.1 = some ln ∧ ln[x.1.2.2]? = some x.2 := by
  obtain ⟨m, k, w, c, l, h1, h2, h3, h4⟩ := (wordsT_mem t 0 x).1 (List.mem_of_getElem? hx)
  rw [h1]
  refine ⟨l, ?_, h4⟩
  rw [Nat.zero_add]
  exact lineAt_nat h2 h3
theorem ans_of_call {C : Cfg} {me f : FuncId} {d : Option Tmp} {args : List AV} {H : Heap} {v : AV} (hx : C.ext f = none) (hp : C.pure me f d = true) (hb : boundL args = 0) (h : callA C (lim C) me f d args H = some (v, H)) : Ans C f args v := by
  unfold callA callB callKind at h
  rw [hx] at h
  simp only [hp, if_true] at h
  rw [if_pos (by rw [hb]; rfl)] at h
  refine Ans.iff.2 ?_
  simp only at h
  split at h
  · rename_i x H' hq
    simp only [Option.map_eq_some_iff, Prod.mk.injEq, and_true] at h
    obtain ⟨w, hw, rfl⟩ := h
    exact ⟨x, H', hq, hw⟩
  · cases h
end Go.Ev
namespace Go.Ev
open Go.Proofs Go.Sort
set_option maxRecDepth 100000
set_option linter.unusedSimpArgs false
attribute [local irreducible] Wp WpS
theorem call13S (t : Txt) (ht : Fits t) {ch : AV} {xs : List AV} (hch : SlOf 2 xs ch) (hall : All2 ChapA t xs) (me : FuncId) (d : Option Tmp) (H : Heap) : callA Cs (lim Cs) me 13 d [.agg [ch]] H = some (.v (.bool (readyB t)), H) :=
  told rfl (ans13 quietA t ht _ ⟨ch, rfl, xs, hch, hall⟩) (by simp only [boundL_cons, bound_agg, hch.bound, boundL_nil]; rfl) me d H
theorem readyS {t : Txt} (h : readyB t = true) : textB t = true := by unfold readyB at h; simp only [Bool.and_eq_true] at h; exact h.2
theorem call14S {t : Txt} (ht : Fits t) (htx : textB t = true) {ch : AV} {xs : List AV} (hch : SlOf 2 xs ch) (hall : All2 ChapA t xs) (me : FuncId) (d : Option Tmp) (H : Heap) : callA Cs (lim Cs) me 14 d [.agg [ch]] H = some (.tup [.v (.int .i64 (wordsT 0 t).length), .v (.int .i64 0)], H) := by
  have hb : boundL [AV.agg [ch]] = 0 := by simp only [boundL_cons, bound_agg, hch.bound, boundL_nil]; rfl
  exact told rfl (ans_of_call (me := 0) (d := none) (ext_14 quietA) (pure_14 _ _ _) hb (call14 quietA t ht ch xs hch hall htx 0 none { objs := [], lock := 0 })) hb me d H
theorem callI15S {t : Txt} (ht : Fits t) (htx : textB t = true) {ch : AV} {xs : List AV} (hch : SlOf 2 xs ch) (hall : All2 ChapA t xs) {n : Nat} {x : Plc × ByteArray} (hx : (wordsT 0 t)[n]? = some x) (me : FuncId) (d : Option Tmp) : callI Cs me 15 d [.agg [ch], .v (.int .i64 n)] = some (.tup [.agg [.v (.int .i64 x.1.1), .v (.int .i64 x.1.2.1), .v (.int .i64 x.1.2.2)], .v (.int .i64 0)]) := by
  have h := ans15 quietA t ht ch xs hch hall n
  rw [placeOf_in htx hx] at h
  exact toldI rfl h (by simp only [boundL_cons, bound_agg, hch.bound, intA, bound_v, boundL_nil]; rfl) me d
theorem call19S {t : Txt} (ht : Fits t) (htx : textB t = true) {ch : AV} {xs : List AV} (hch : SlOf 2 xs ch) (hall : All2 ChapA t xs) {n : Nat} {x : Plc × ByteArray} (hx : (wordsT 0 t)[n]? = some x) (me : FuncId) (d : Option Tmp) (H : Heap) : callA Cs (lim Cs) me 19 d [.agg [ch], .agg [.v (.int .i64 x.1.1), .v (.int .i64 x.1.2.1), .v (.int .i64 x.1.2.2)]] H = some (.tup [.v (.string x.2), .v (.int .i64 0)], H) := by
  obtain ⟨ln, h1, h2⟩ := words_at hx
  exact told rfl (ans19 quietA t ht htx ch xs hch hall x.1.1 x.1.2.1 x.1.2.2 ln h1 x.2 h2) (by simp only [boundL_cons, bound_agg, hch.bound, intA, bound_v, boundL_nil]; rfl) me d H
theorem plsV_sl (l : List P3) : SlOf 3 (l.map p3V) (plsV l) := by
  cases l with
  | nil => exact Or.inl ⟨rfl, rfl⟩
  | cons p r => exact Or.inr ⟨none, rfl⟩
theorem before_lt (p q : P3) : beforeB p q = ltP p q := by
  unfold beforeB ltP
  by_cases h1 : p.1 = q.1
  · by_cases h2 : p.2.1 = q.2.1
    · simp [h1, h2]
    · simp [h1, h2]
  · simp [h1]
theorem callI17S {t : Txt} (ht : Fits t) {ch : AV} {xs : List AV} (hch : SlOf 2 xs ch) (hall : All2 ChapA t xs) (q : P3) (me : FuncId) (d : Option Tmp) : callI Cs me 17 d [.agg [ch], .agg [.v (.int .i64 q.1), .v (.int .i64 q.2.1), .v (.int .i64 q.2.2)]] = some (.v (.bool (placeB' t q.1 q.2.1 q.2.2))) :=
  toldI rfl (ans17 quietA t ht ch xs hch hall q.1 q.2.1 q.2.2) (by simp only [boundL_cons, bound_agg, hch.bound, intA, bound_v, boundL_nil]; rfl) me d
theorem callI18S (p q : P3) (me : FuncId) (d : Option Tmp) : callI Cs me 18 d [.agg [.v (.int .i64 p.1), .v (.int .i64 p.2.1), .v (.int .i64 p.2.2)], .agg [.v (.int .i64 q.1), .v (.int .i64 q.2.1), .v (.int .i64 q.2.2)]] = some (.v (.bool (ltP p q))) := by
  have h := ans18 (e := eA) p.1 p.2.1 p.2.2 q.1 q.2.1 q.2.2
  rw [show beforeB (p.1, p.2.1, p.2.2) (q.1, q.2.1, q.2.2) = ltP p q from before_lt p q] at h
  exact toldI rfl h rfl me d
end Go.Ev
namespace Go.Ev
open Go.Proofs Go.Sort
set_option maxRecDepth 100000
set_option linter.unusedSimpArgs false
attribute [local irreducible] Wp WpS
/-! ### places by words, as plain lists -/
theorem places_mem {w : ByteArray} {l : List (Plc × ByteArray)} {q : P3} : q ∈ placesL w l ↔ ∃ y ∈ l, y.2 = w ∧ plI y.1 = q := by
  unfold placesL
  simp only [List.mem_map, List.mem_filter, decide_eq_true_eq, and_assoc]
theorem places_len (w : ByteArray) (l : List (Plc × ByteArray)) : (placesL w l).length ≤ l.length := by
  unfold placesL; rw [List.length_map]; exact List.length_filter_le _ _
theorem ltP_plI {a b : Plc} (h : plLt a b) : ltP (plI a) (plI b) = true := by
  unfold plLt at h
  unfold ltP plI
  refine decide_eq_true ?_
  simp only
  omega
theorem places_str (w : ByteArray) {l : List (Plc × ByteArray)} (h : upW l) : (placesL w l).Pairwise fun a b => ltP a b = true := by
  unfold placesL
  exact List.pairwise_map.2 ((h.filter _).imp fun {a b} hab => ltP_plI hab)
theorem sum_one (w : ByteArray) : ∀ (ks : List ByteArray), ks.Nodup → (ks.map fun k => if w = k then 1 else 0).sum = if w ∈ ks then 1 else 0
  | [], _ => rfl
  | k :: r, h => by
    obtain ⟨h1, h2⟩ := List.nodup_cons.1 h
    rw [List.map_cons, List.sum_cons, sum_one w r h2]
    by_cases e : w = k
    · subst e; simp [h1]
    · simp [e]
theorem sum_zero : ∀ ks : List ByteArray, (ks.map fun _ => 0).sum = 0
  | [] => rfl
  | k :: r => by rw [List.map_cons, List.sum_cons, sum_zero r]
theorem sum_add (f g : ByteArray → Nat) : ∀ ks : List ByteArray, (ks.map fun k => f k + g k).sum = (ks.map f).sum + (ks.map g).sum
  | [] => rfl
  | k :: r => by simp only [List.map_cons, List.sum_cons, sum_add f g r]; omega
theorem places_sum (ks : List ByteArray) (hn : ks.Nodup) : ∀ l : List (Plc × ByteArray), (∀ y ∈ l, y.2 ∈ ks) → (ks.map fun w => (placesL w l).length).sum = l.length
  | [], _ => sum_zero ks
  | y :: r, h => by
    have ih := places_sum ks hn r fun z hz => h z (List.mem_cons_of_mem _ hz)
    have e : ∀ w, (placesL w (y :: r)).length = (if y.2 = w then 1 else 0) + (placesL w r).length := fun w => by
      unfold placesL
      rw [List.length_map, List.length_map, List.filter_cons]
      by_cases e : y.2 = w
      · rw [if_pos (decide_eq_true e), if_pos e, List.length_cons]; omega
      · rw [if_neg (by simp [e]), if_neg e]; omega
    have e2 : (ks.map fun w => (placesL w (y :: r)).length) = ks.map fun w => (if y.2 = w then 1 else 0) + (placesL w r).length := List.map_congr_left fun w _ => e w
    rw [e2, sum_add, ih, sum_one y.2 ks hn, if_pos (h y List.mem_cons_self), List.length_cons]; omega
theorem wdsV_bound (ws : List ByteArray) : bound (wdsV ws) = 0 := by cases ws <;> rfl
/-- a word, as it lies in the text -/
theorem at_word {t : Txt} {xs : List AV} (hall : All2 ChapA t xs) {p : Plc} {s : ByteArray} (hx : (p, s) ∈ wordsT 0 t) : ∃ id l0 lxs lx ws, xs[p.1]? = some (.agg [intA id, l0]) ∧ SlOf 1 lxs l0 ∧ lxs[p.2.1]? = some lx ∧ SlOf 1 (strs ws) lx ∧ ws[p.2.2]? = some s := by
  obtain ⟨m, n, k, c, l, h1, h2, h3, h4⟩ := (wordsT_mem t 0 _).1 hx
  rw [Nat.zero_add] at h1
  simp only at h1 h4
  subst h1
  obtain ⟨y, hy, l0, rfl, lxs, hl0, hls⟩ := hall.get h2
  obtain ⟨lx, hlx, hw⟩ := hls.get h3
  exact ⟨c.1, l0, lxs, lx, l, hy, hl0, hlx, hw, h4⟩
theorem place_of_mem {t : Txt} {y : Plc × ByteArray} (hy : y ∈ wordsT 0 t) : placeB' t (plI y.1).1 (plI y.1).2.1 (plI y.1).2.2 = true := by
  obtain ⟨i, hi⟩ := List.getElem?_of_mem hy
  obtain ⟨ln, h1, h2⟩ := words_at hi
  unfold placeB' plI
  simp only [h1]
  have := (List.getElem?_eq_some_iff.1 h2).1
  exact decide_eq_true ⟨by omega, by omega⟩
theorem sum_take (f : ByteArray → Nat) (l : List ByteArray) (i : Nat) : ((l.take i).map f).sum ≤ (l.map f).sum := by
  conv => rhs; rw [← List.take_append_drop i l, List.map_append, List.sum_append]
  omega
/-! calls -/
theorem callS20 {t : Txt} (ht : Fits t) (htx : textB t = true) {ch : AV} {xs : List AV} (hch : SlOf 2 xs ch) (hall : All2 ChapA t xs) (me : FuncId) (d : Option Tmp) (H : Heap) : callA Cs (lim Cs) me 20 d [.agg [ch]] H = some (.tup [wdsV (vocL t), .v (.int .i64 0)], H) :=
  (ans20 ht htx hch hall).call (C := Cx eA) (ext_20 quietA) (pure_20 eA me d) (by simp only [boundL_cons, bound_agg, hch.bound, boundL_nil]; rfl) H
theorem callS21 {t : Txt} (ht : Fits t) (htx : textB t = true) {ch : AV} {xs : List AV} (hch : SlOf 2 xs ch) (hall : All2 ChapA t xs) (w : ByteArray) (hw : wordB w = true) (hws : w.size < 2 ^ 63) (me : FuncId) (d : Option Tmp) (H : Heap) : callA Cs (lim Cs) me 21 d [.agg [ch], .v (.string w)] H = some (.tup [plsV (placesL w (wordsT 0 t)), .v (.int .i64 0)], H) :=
  (ans21 quietA ht htx hch hall w hws hw).call (C := Cx eA) (ext_21 quietA) (pure_21 eA me d) (by simp only [boundL_cons, bound_agg, hch.bound, bound_v, boundL_nil]; rfl) H
@[go_sem] theorem keepS_4 : Cs.keep 4 = [0, 2, 5, 29, 7, 6, 41, 1, 8, 9, 11, 13, 10, 96, 12, 99, 98, 100, 97, 17, 19, 18, 16, 129, 132, 131, 133, 130, 21, 20, 173, 15, 14, 4] := rfl
theorem fnS_4 : Cs.P.funcs[4]? = some Tryz.f4 := Tryz.func4
set_option maxHeartbeats 8000000 in
theorem ans4 (t : Txt) (ht : Fits t) (ch : AV) (xs : List AV) (hch : SlOf 2 xs ch) (hall : All2 ChapA t xs) (o : Nat) (ho : o < 65536) : Ans Cs 4 [.agg [ch], .v (.int .u16 o)] (.v (.bool true)) := by
  have h13 := call13S t ht hch hall
  unfold Ans
  rw [fn_step fnS_4 (show Tryz.f4.body = some _ from rfl)]
  cases h1 : readyB t
  · rw [h1] at h13
    simp -implicitDefEqProofs only [Tryz.f4, go_sem, ↓reduceIte, Int.reduceEq, Int.reduceLT, Int.reduceLE, List.reduceReplicate, intA, setT_nil, setT_cons, ↓boolP_bool, ↓iteB_true, ↓iteB_false, hch.cells, hch.flat, hch.bound, callS12, h13]
  rw [h1] at h13
  have htx := readyS h1
  have hs := small_of htx
  have hN := wordsT_small hs
  have h14 := call14S ht htx hch hall
  have h20 := callS20 ht htx hch hall
  generalize hNn : (wordsT 0 t).length = N at hN h14
  have hlt1 : ¬ ((N : Int) < 1) := by omega
  have hwo := wrap_nat o (by omega)
  have hN0 : (N : Int) ≠ 0 := by omega
  have hrem : ∀ (x y : Operand) (m : Int), binA Tryz.prog .rem 3 x y (.v (.int .i64 m)) (.v (.int .i64 N)) = some (.v (.int .i64 (Int.tmod m N))) := fun x y m => bin_rem x y m N hN0
  have hmod : Int.tmod (o : Int) (N : Int) = ((o % N : Nat) : Int) := rfl
  obtain ⟨x, hx1⟩ := at_lt (wordsT 0 t) (o % N) (by rw [hNn]; exact Nat.mod_lt _ (by omega))
  generalize o % N = w at hmod hx1
  have h15 := callI15S ht htx hch hall hx1
  have h19 := call19S ht htx hch hall hx1
  simp -implicitDefEqProofs only [Tryz.f4, go_sem, ↓reduceIte, Int.reduceEq, Int.reduceLT, Int.reduceLE, List.reduceReplicate, intA, setT_nil, setT_cons, ↓boolP_bool, ↓iteB_true, ↓iteB_false, hch.cells, hch.flat, hch.bound, callS12, h13, h14, hlt1]
  obtain ⟨id, l0, lxs, lx, ws, g1, g2, g3, g4, g5⟩ := at_word hall (List.mem_of_getElem? hx1 : (x.1, x.2) ∈ _)
  have i1 := hch.idx g1
  have i2 := g2.idx g3
  have i3 := g4.idx (strs_get g5)
  unfold intA at i1
  have h17 := callI17S ht hch hall (plI x.1)
  rw [show placeB' t (plI x.1).1 (plI x.1).2.1 (plI x.1).2.2 = true from place_of_mem (List.mem_of_getElem? hx1)] at h17
  simp only [plI] at h17
  refine wp_drawX [([], [], false), ([], [], false), ([], [], false), ([], [], false), ([], [], false), ([], [], false), ([], [], false), ([], [], false), ([], [], false), ([0, 5], [], false), ([], [9], false), ([], [], false)] (by kernel_rfl) (by kernel_rfl) ?_
  simp -implicitDefEqProofs only [go_sem, ↓reduceIte, Int.reduceEq, Int.reduceLT, Int.reduceLE, List.reduceReplicate, intA, setT_nil, setT_cons, ↓boolP_bool, ↓iteB_true, ↓iteB_false, conv_u16, hwo, hrem, hmod, h15, h19, h20, hch.cells, hch.flat, hch.bound]
  have hV := wdsV_sl (vocL t)
  have hVl := hV.len
  rw [show (strs (vocL t)).length = (vocL t).length from List.length_map _] at hVl
  refine wp_drawX [([], [], false), ([], [], false), ([], [], false), ([], [], false), ([], [], false), ([], [], false), ([], [], false), ([], [], false), ([], [], false), ([], [], false), ([], [], false), ([], [], false), ([11], [], false), ([], [], false), ([], [], false), ([], [], false), ([], [], false), ([], [], false), ([], [], false), ([], [], false), ([18], [], false), ([], [], false), ([], [], false), ([], [], false), ([], [], false), ([18, 20, 23], [], false), ([], [], false), ([], [], false), ([], [], false), ([18, 20, 23, 25, 27], [], false), ([], [], false), ([], [], false), ([], [], false), ([], [], false), ([], [], false)] (by kernel_rfl) (by kernel_rfl) ?_
  simp -implicitDefEqProofs only [go_sem, ↓reduceIte, Int.reduceEq, Int.reduceLT, Int.reduceLE, List.reduceReplicate, intA, setT_nil, setT_cons, ↓boolP_bool, ↓iteB_true, ↓iteB_false, h17, i1, i2, i3, bin_sne, hVl, hch.cells, hch.flat, hch.bound, g2.cells, g4.cells]
  have hnd := voc_nodup t
  have hst := voc_str t
  have hvm : ∀ w ∈ vocL t, ∃ y ∈ wordsT 0 t, y.2 = w := fun w hw => by
    obtain ⟨y, hy, rfl⟩ := List.mem_map.1 (voc_mem.1 hw)
    exact ⟨y, hy, rfl⟩
  have hxv : x.2 ∈ vocL t := voc_mem.2 (List.mem_map.2 ⟨x, List.mem_of_getElem? hx1, rfl⟩)
  have hsum := places_sum (vocL t) hnd (wordsT 0 t) fun y hy => voc_mem.2 (List.mem_map.2 ⟨y, hy, rfl⟩)
  rw [hNn] at hsum
  have hVlen : (vocL t).length < 2 ^ 62 := by
    have h1 : (vocL t).length ≤ N := by
      rw [← hNn]
      have h2 : ∀ w ∈ vocL t, w ∈ (wordsT 0 t).map (·.2) := fun w hw => voc_mem.1 hw
      have := nodup_sub_len hnd h2
      rw [List.length_map] at this; exact this
    omega
  have hwd : ∀ y ∈ wordsT 0 t, wordB y.2 = true ∧ y.2.size < 2 ^ 63 := fun y hy => by
    obtain ⟨m, n, k, c, l, h1, h2, h3, h4⟩ := (wordsT_mem t 0 y).1 hy
    exact ⟨hs.word c (List.mem_of_getElem? h2) l (List.mem_of_getElem? h3) _ (List.mem_of_getElem? h4), ht.size c (List.mem_of_getElem? h2) l (List.mem_of_getElem? h3) _ (List.mem_of_getElem? h4)⟩
  generalize vocL t = V at *
  refine Lp_rule (P := fun μ a H => ∃ (i n : Nat) (b : Bool), i + μ = V.length ∧ n = ((V.take i).map fun w => (placesL w (wordsT 0 t)).length).sum ∧ b = (V.take i).any (fun w => (placesL w (wordsT 0 t)).any fun q => decide (q = plI x.1) && decide (w = x.2)) ∧ a = ⟨200, [(0, .agg [ch]), (1, .v (.int .u16 o)), (2, .ptr 0 0 0), (4, .v (.bool false)), (5, .v (.bool true)), (29, .v (.bool false)), (6, intA N), (7, intA 0), (41, .v (.bool false)), (8, .ptr 10 0 0), (9, intA 0), (10, .v (.string x.2)), (11, intA 0), (12, wdsV V), (13, intA 0), (96, .v (.bool false)), (14, intA n), (15, .v (.bool b)), (97, wdsV V), (98, intA V.length), (99, intA i)], []⟩ ∧ H = ⟨[some (.cells 0 0 24 1 false [ch]), none, none, none, none, none, none, none, none, none, some (.cells 0 0 32 1 false [intA x.1.1, intA x.1.2.1, intA x.1.2.2]), none, none], 0⟩) ?_ V.length _ _ ⟨0, 0, false, by omega, rfl, rfl, rfl, rfl⟩
  rintro μ _ _ ⟨i, n, b, hi, hn, hb, rfl, rfl⟩
  by_cases hlt : (i : Int) < (V.length : Int)
  · obtain ⟨u, hu⟩ := at_lt V i (by omega)
    obtain ⟨y0, hy0, hyu⟩ := hvm u (List.mem_of_getElem? hu)
    have hwu := hwd y0 hy0
    rw [hyu] at hwu
    have h21 := callS21 ht htx hch hall u hwu.1 hwu.2
    have hiu := hV.idx (strs_get hu)
    have hw := wrap_succ i (by omega)
    have hQ := plsV_sl (placesL u (wordsT 0 t))
    have hQl := hQ.len
    rw [List.length_map] at hQl
    have hQ0 : (placesL u (wordsT 0 t)).length ≠ 0 := fun e => by
      have : plI y0.1 ∈ placesL u (wordsT 0 t) := places_mem.2 ⟨y0, hy0, hyu, rfl⟩
      rw [List.length_eq_zero_iff.1 e] at this; cases this
    have hQ1 : ¬ ((placesL u (wordsT 0 t)).length : Int) = 0 := by omega
    refine Or.elim (Decidable.em ((0 : Int) < (i : Int))) (fun hi0 => ?_) (fun hi0 => ?_)
    rotate_left
    simp -implicitDefEqProofs only [go_sem, ↓reduceIte, Int.reduceEq, Int.reduceLT, Int.reduceLE, List.reduceReplicate, intA, setT_nil, setT_cons, ↓boolP_bool, ↓iteB_true, ↓iteB_false, hlt, hiu, h21, hQl, hQ1, hi0, hch.cells, hch.bound]
    rotate_left
    obtain ⟨u', hu'⟩ := at_lt V (i - 1) (by omega)
    have hiu' := hV.idx (strs_get hu')
    have hwm : IntKind.i64.wrap ((i : Int) - 1) = ((i - 1 : Nat) : Int) := by rw [wrap_in _ (by omega) (by omega)]; omega
    have hlw : bytesLt u'.data.toList u.data.toList = true := by
      have h := List.pairwise_iff_getElem.1 hst (i - 1) i (by omega) (by omega) (by omega)
      obtain ⟨h3, e3⟩ := List.getElem?_eq_some_iff.1 hu'
      obtain ⟨h4, e4⟩ := List.getElem?_eq_some_iff.1 hu
      rw [e3, e4] at h
      exact h
    simp -implicitDefEqProofs only [go_sem, ↓reduceIte, Int.reduceEq, Int.reduceLT, Int.reduceLE, List.reduceReplicate, intA, setT_nil, setT_cons, ↓boolP_bool, ↓iteB_true, ↓iteB_false, hlt, hiu, hiu', hwm, h21, hQl, hQ1, hi0, hlw, Bool.not_true, hch.cells, hch.bound]
    all_goals
      have hnd2 : (placesL u (wordsT 0 t)).length < 2 ^ 62 := by have := places_len u (wordsT 0 t); omega
      have hns : n + (placesL u (wordsT 0 t)).length ≤ N := by
        have h1 := sum_take (fun w => (placesL w (wordsT 0 t)).length) V (i + 1)
        rw [hsum, List.take_add_one, hu] at h1
        simp only [List.map_append, List.sum_append, Option.toList_some, List.map_cons, List.map_nil, List.sum_cons, List.sum_nil] at h1
        omega
      have hwn : IntKind.i64.wrap ((n : Int) + ((placesL u (wordsT 0 t)).length : Int)) = ((n + (placesL u (wordsT 0 t)).length : Nat) : Int) := by rw [wrap_in _ (by omega) (by omega)]; omega
      refine Lp_rule (P := fun μ a H => ∃ (k : Nat) (g : Bool), k + μ = (placesL u (wordsT 0 t)).length ∧ g = (b || ((placesL u (wordsT 0 t)).take k).any fun q => decide (q = plI x.1) && decide (u = x.2)) ∧ a = ⟨200, [(0, .agg [ch]), (1, .v (.int .u16 o)), (2, .ptr 0 0 0), (4, .v (.bool false)), (5, .v (.bool true)), (29, .v (.bool false)), (6, intA N), (7, intA 0), (41, .v (.bool false)), (8, .ptr 10 0 0), (9, intA 0), (10, .v (.string x.2)), (11, intA 0), (12, wdsV V), (13, intA 0), (96, .v (.bool false)), (14, intA n), (15, .v (.bool g)), (97, wdsV V), (98, intA V.length), (99, intA i), (100, .v (.bool true)), (16, intA i), (17, .v (.string u)), (18, plsV (placesL u (wordsT 0 t))), (19, intA 0), (129, .v (.bool false)), (130, plsV (placesL u (wordsT 0 t))), (131, intA (placesL u (wordsT 0 t)).length), (132, intA k)], []⟩ ∧ H = ⟨[some (.cells 0 0 24 1 false [ch]), none, none, none, none, none, none, none, none, none, some (.cells 0 0 32 1 false [intA x.1.1, intA x.1.2.1, intA x.1.2.2]), none, none], 0⟩) ?_ (placesL u (wordsT 0 t)).length _ _ ⟨0, b, by omega, by simp, rfl, rfl⟩
      rintro μ2 _ _ ⟨k, g, hk, hg, rfl, rfl⟩
      by_cases hlt2 : (k : Int) < ((placesL u (wordsT 0 t)).length : Int)
      · obtain ⟨q, hq⟩ := at_lt (placesL u (wordsT 0 t)) k (by omega)
        obtain ⟨y, hy, hy2, rfl⟩ := places_mem.1 (List.mem_of_getElem? hq)
        obtain ⟨id', l0', lxs', lx', ws', f1, f2, f3, f4, f5⟩ := at_word hall (show (y.1, y.2) ∈ wordsT 0 t from hy)
        rw [hy2] at f5
        have k1 := hch.idx f1
        have k2 := f2.idx f3
        have k3 := f4.idx (strs_get f5)
        unfold intA at k1
        have h17q := callI17S ht hch hall (plI y.1)
        rw [place_of_mem hy] at h17q
        have hiq := hQ.idx (show ((placesL u (wordsT 0 t)).map p3V)[k]? = some (p3V (plI y.1)) by rw [List.getElem?_map, hq]; rfl)
        unfold p3V intA at hiq
        have hwk := wrap_succ k (by omega)
        have hany : (b || ((placesL u (wordsT 0 t)).take (k + 1)).any fun q => decide (q = plI x.1) && decide (u = x.2)) = (g || (decide (plI y.1 = plI x.1) && decide (u = x.2))) := by
          rw [List.take_add_one, hq, List.any_append, ← Bool.or_assoc, ← hg]; simp
        obtain ⟨dq, hdq⟩ : ∃ dq, decide (plI y.1 = plI x.1) = dq := ⟨_, rfl⟩
        have heq : eqP (plI y.1).1 (plI y.1).2.1 (plI y.1).2.2 (plI x.1).1 (plI x.1).2.1 (plI x.1).2.2 = dq := (eqP_iff (plI y.1) (plI x.1)).trans ((decide_eq_decide.2 Iff.rfl).trans hdq)
        rw [hdq] at hany
        simp only [plI] at h17q hiq heq
        simp -implicitDefEqProofs only [go_sem, ↓reduceIte, Int.reduceEq, Int.reduceLT, Int.reduceLE, List.reduceReplicate, intA, setT_nil, setT_cons, ↓boolP_bool, ↓iteB_true, ↓iteB_false, hlt2, hiq, hch.bound, plsV_bound, wdsV_bound]
        refine wp_drawX [([], [], false), ([0], [], false), ([], [], false), ([], [], false), ([], [], false), ([], [], false), ([], [], false), ([], [], false), ([6], [], false), ([], [], false), ([], [], false), ([], [], false), ([], [], false), ([6, 8, 11], [], false), ([], [], false), ([], [], false), ([], [], false), ([6, 8, 11, 13, 15], [], false), ([], [], false), ([], [], false), ([], [], false), ([], [], false), ([], [], false), ([], [], false), ([], [], false), ([], [], false), ([], [], false), ([], [], false), ([], [], false), ([], [], false), ([], [], false), ([], [], false), ([31], [], false), ([], [], false), ([], [], false), ([], [], false), ([], [], false)] (by kernel_rfl) (by kernel_rfl) ?_
        by_cases hk0 : (0 : Int) < (k : Int)
        · obtain ⟨p, hp⟩ := at_lt (placesL u (wordsT 0 t)) (k - 1) (by omega)
          have hip := hQ.idx (show ((placesL u (wordsT 0 t)).map p3V)[k - 1]? = some (p3V p) by rw [List.getElem?_map, hp]; rfl)
          unfold p3V intA at hip
          have hwm2 : IntKind.i64.wrap ((k : Int) - 1) = ((k - 1 : Nat) : Int) := by rw [wrap_in _ (by omega) (by omega)]; omega
          have h18 := callI18S p (plI y.1)
          have hpq : ltP p (plI y.1) = true := by
            have h := List.pairwise_iff_getElem.1 (places_str u (wordsT_up t 0)) (k - 1) k (by omega) (by omega) (by omega)
            obtain ⟨h3, e3⟩ := List.getElem?_eq_some_iff.1 hp
            obtain ⟨h4, e4⟩ := List.getElem?_eq_some_iff.1 hq
            rw [e3, e4] at h
            exact h
          rw [hpq] at h18
          simp only [plI] at h18
          cases g <;> cases dq <;> simp -implicitDefEqProofs only [go_sem, ↓reduceIte, Int.reduceEq, Int.reduceLT, Int.reduceLE, List.reduceReplicate, intA, setT_nil, setT_cons, ↓boolP_bool, ↓iteB_true, ↓iteB_false, hk0, hwk, hwm2, hip, h17q, h18, k1, k2, k3, bin_sne, bin_seq, eq32, heq, hch.cells, hch.flat, hch.bound, f2.cells, f4.cells, plsV_bound, wdsV_bound, trim_at, decide_true, Bool.not_true]
          all_goals exact ⟨μ2 - 1, by omega, k + 1, _, by omega, hany.symm, rfl, rfl⟩
        · cases g <;> cases dq <;> simp -implicitDefEqProofs only [go_sem, ↓reduceIte, Int.reduceEq, Int.reduceLT, Int.reduceLE, List.reduceReplicate, intA, setT_nil, setT_cons, ↓boolP_bool, ↓iteB_true, ↓iteB_false, hk0, hwk, h17q, k1, k2, k3, bin_sne, bin_seq, eq32, heq, hch.cells, hch.flat, hch.bound, f2.cells, f4.cells, plsV_bound, wdsV_bound, trim_at, decide_true, Bool.not_true]
          all_goals exact ⟨μ2 - 1, by omega, k + 1, _, by omega, hany.symm, rfl, rfl⟩
      · obtain rfl : k = (placesL u (wordsT 0 t)).length := by omega
        rw [List.take_length] at hg
        have hany : (V.take (i + 1)).any (fun w => (placesL w (wordsT 0 t)).any fun q => decide (q = plI x.1) && decide (w = x.2)) = g := by
          rw [List.take_add_one, hu, List.any_append, ← hb, hg]; simp
        have hsu : ((V.take (i + 1)).map fun w => (placesL w (wordsT 0 t)).length).sum = n + (placesL u (wordsT 0 t)).length := by
          rw [List.take_add_one, hu, List.map_append, List.sum_append, ← hn]; simp
        simp -implicitDefEqProofs only [go_sem, ↓reduceIte, Int.reduceEq, Int.reduceLT, Int.reduceLE, List.reduceReplicate, intA, setT_nil, setT_cons, ↓boolP_bool, ↓iteB_true, ↓iteB_false, hlt2, hQl, hwn, hw, hch.bound, plsV_bound, wdsV_bound, trim_at]
        exact ⟨μ - 1, by omega, i + 1, _, _, by omega, hsu.symm, hany.symm, rfl, rfl⟩
  · obtain rfl : i = V.length := by omega
    rw [List.take_length] at hn hb
    have hbt : b = true := by
      rw [hb]
      refine List.any_eq_true.2 ⟨x.2, hxv, List.any_eq_true.2 ⟨plI x.1, places_mem.2 ⟨x, List.mem_of_getElem? hx1, rfl, rfl⟩, by simp⟩⟩
    have hnN : n = N := hn.trans hsum
    subst hbt hnN
    simp -implicitDefEqProofs only [go_sem, ↓reduceIte, Int.reduceEq, Int.reduceLT, Int.reduceLE, List.reduceReplicate, intA, setT_nil, setT_cons, ↓boolP_bool, ↓iteB_true, ↓iteB_false, hlt, beq_self_eq_true, decide_true]
end Go.Ev
