/- What the proof of this claim stands on, part 3: an evaluator of the model, proved right, and what it answers for functions of the program. -/
import Derived.Test.YtphfgbmonepliaaPk01
import Derived.Laws.StructEq
import Derived.Lib.Bytealg
import Derived.ChangeReads
import Derived.ChangeOld
import Derived.ChangeArms
import Derived.RowKit3
import Derived.WalkKit
import Derived.ProofKit
import Derived.OpenShut
set_option linter.unusedSimpArgs false
namespace Go.Ev
open Go.Proofs
set_option maxRecDepth 100000
set_option linter.unusedSimpArgs false
def wsG (ws : Line) (j : Nat) : Bool := (ws.drop j).any fun s => decide (s.size > 40)
theorem drop_any {α : Type} (p : α → Bool) (l : List α) (j : Nat) (x : α) (h : l[j]? = some x) : (l.drop j).any p = (p x || (l.drop (j + 1)).any p) := by
  obtain ⟨hj, rfl⟩ := List.getElem?_eq_some_iff.1 h
  rw [List.drop_eq_getElem_cons hj, List.any_cons]
theorem drop_all {α : Type} (p : α → Bool) (l : List α) (j : Nat) (x : α) (h : l[j]? = some x) : (l.drop j).all p = (p x && (l.drop (j + 1)).all p) := by
  obtain ⟨hj, rfl⟩ := List.getElem?_eq_some_iff.1 h
  rw [List.drop_eq_getElem_cons hj, List.all_cons]
theorem at_lt {α : Type} (l : List α) (j : Nat) (h : j < l.length) : ∃ x, l[j]? = some x := ⟨l[j], List.getElem?_eq_getElem h⟩
set_option maxHeartbeats 4000000 in
theorem loop38c {e : Exts} (xs lxs : List AV) (ch : AV) (hch : SlOf 2 xs ch) (i k : Nat) (id : Int) (l lx : AV) (hy : xs[i]? = some (.agg [intA id, l])) (hl : SlOf 1 lxs l) (hk : lxs[k]? = some lx) (ws : Line) (hlx : SlOf 1 (strs ws) lx) (hn : ws.length < 2 ^ 63) (K : Post) :
    ∀ m j : Nat, j + m = ws.length → (wsG ws j = false → AtK K (.exit 4) ⟨75, [(0, .agg [ch]), (1, .ptr 0 0 0), (2, .v (.bool false)), (9, .v (.bool false)), (3, intA i), (14, .v (.bool true)), (24, .v (.bool false)), (4, intA k), (33, .v (.bool true)), (46, .v (.bool false)), (5, intA (ws.length : Nat))], []⟩ ⟨[some (.cells 0 0 24 1 false [ch])], 0⟩) → (wsG ws j = true → ∀ tl HH, assoc 2 tl = some (.v (.bool true)) → AtK K .ret ⟨75, tl, []⟩ HH) →
    Lp (Cx e) 6 none [0, 1, 2, 9, 3, 14, 24, 4, 33, 46, 5] (body38 2) ⟨75, [(0, .agg [ch]), (1, .ptr 0 0 0), (2, .v (.bool false)), (9, .v (.bool false)), (3, intA i), (14, .v (.bool true)), (24, .v (.bool false)), (4, intA k), (33, .v (.bool true)), (46, .v (.bool false)), (5, intA j)], []⟩ ⟨[some (.cells 0 0 24 1 false [ch])], 0⟩ K := by
  intro m
  induction m with
  | zero =>
    intro j hj h1 h2
    rw [Lp_step]
    generalize hK : loopK (Cx e) 6 none [0, 1, 2, 9, 3, 14, 24, 4, 33, 46, 5] (body38 2) _ K = KK
    unfold body38
    obtain rfl : j = ws.length := by omega
    simp only [Try.f6, loops, Option.map_some, Option.getD_some, List.nil_append, List.append_nil, List.cons_append, List.getElem?_cons_zero, List.getElem?_cons_succ]
    simp -implicitDefEqProofs only [go_sem, ↓reduceIte, intA, Int.lt_irrefl, hch.len, hch.idx hy, hl.len, hl.idx hk, hlx.len, hlx.cells, strs_len]
    subst hK
    simp -implicitDefEqProofs only [go_sem, ↓reduceIte]
    exact h1 (by simp [wsG])
  | succ m ih =>
    intro j hj h1 h2
    rw [Lp_step]
    generalize hK : loopK (Cx e) 6 none [0, 1, 2, 9, 3, 14, 24, 4, 33, 46, 5] (body38 2) _ K = KK
    unfold body38
    have hlt : (j : Int) < ((ws.length : Nat) : Int) := by omega
    have hw := wrap_succ j (by omega)
    have hj0 : (0 : Int) ≤ (j : Int) := by omega
    simp only [Try.f6, loops, Option.map_some, Option.getD_some, List.nil_append, List.append_nil, List.cons_append, List.getElem?_cons_zero, List.getElem?_cons_succ]
    obtain ⟨s, hs⟩ := at_lt ws j (by omega)
    have hd : wsG ws j = (decide (s.size > 40) || wsG ws (j + 1)) := drop_any _ ws j s hs
    by_cases c1 : 40 < (s.size : Int)
    · simp -implicitDefEqProofs only [go_sem, ↓reduceIte, intA, hlt, hw, hch.len, hch.idx hy, hl.len, hl.idx hk, hlx.len, hlx.cells, strs_len, hlx.idx (strs_get hs), c1]
      subst hK
      simp -implicitDefEqProofs only [go_sem, ↓reduceIte]
      exact h2 (by rw [hd]; simp; left; omega) _ _ rfl
    · simp -implicitDefEqProofs only [go_sem, ↓reduceIte, intA, hlt, hw, hch.len, hch.idx hy, hl.len, hl.idx hk, hlx.len, hlx.cells, strs_len, hlx.idx (strs_get hs), c1]
      subst hK
      simp -implicitDefEqProofs only [go_sem, ↓reduceIte]
      have hd' : wsG ws j = wsG ws (j + 1) := by rw [hd]; simp; omega
      rw [hd'] at h1 h2
      exact ih (j + 1) (by omega) h1 h2
def lnG (ls : List Line) (j : Nat) : Bool := (ls.drop j).any greatL
def chG (t : Txt) (j : Nat) : Bool := (t.drop j).any greatC
theorem greatL_eq (ws : Line) : greatL ws = (decide (ws.length > 15) || wsG ws 0) := rfl
set_option maxHeartbeats 4000000 in
theorem loop38b {e : Exts} (xs lxs : List AV) (ch : AV) (hch : SlOf 2 xs ch) (i : Nat) (id : Int) (l : AV) (hy : xs[i]? = some (.agg [intA id, l])) (hl : SlOf 1 lxs l) (ls : List Line) (hls : All2 LineA ls lxs) (hn : ls.length < 2 ^ 63) (hz : ∀ s ∈ ls, s.length < 2 ^ 63) (K : Post) :
    ∀ m j : Nat, j + m = ls.length → (lnG ls j = false → AtK K (.exit 2) ⟨75, [(0, .agg [ch]), (1, .ptr 0 0 0), (2, .v (.bool false)), (9, .v (.bool false)), (3, intA i), (14, .v (.bool true)), (24, .v (.bool false)), (4, intA (ls.length : Nat))], []⟩ ⟨[some (.cells 0 0 24 1 false [ch])], 0⟩) → (lnG ls j = true → ∀ tl HH, assoc 2 tl = some (.v (.bool true)) → AtK K .ret ⟨75, tl, []⟩ HH) →
    Lp (Cx e) 6 none [0, 1, 2, 9, 3, 14, 24, 4] (body38 1) ⟨75, [(0, .agg [ch]), (1, .ptr 0 0 0), (2, .v (.bool false)), (9, .v (.bool false)), (3, intA i), (14, .v (.bool true)), (24, .v (.bool false)), (4, intA j)], []⟩ ⟨[some (.cells 0 0 24 1 false [ch])], 0⟩ K := by
  intro m
  induction m with
  | zero =>
    intro j hj h1 h2
    rw [Lp_step]
    generalize hK : loopK (Cx e) 6 none [0, 1, 2, 9, 3, 14, 24, 4] (body38 1) _ K = KK
    unfold body38
    obtain rfl : j = ls.length := by omega
    simp only [Try.f6, loops, Option.map_some, Option.getD_some, List.nil_append, List.append_nil, List.cons_append, List.getElem?_cons_zero, List.getElem?_cons_succ]
    simp -implicitDefEqProofs only [go_sem, ↓reduceIte, intA, Int.lt_irrefl, hch.len, hch.idx hy, hl.len, ← hls.1]
    subst hK
    simp -implicitDefEqProofs only [go_sem, ↓reduceIte]
    exact h1 (by simp [lnG])
  | succ m ih =>
    intro j hj h1 h2
    rw [Lp_step]
    generalize hK : loopK (Cx e) 6 none [0, 1, 2, 9, 3, 14, 24, 4] (body38 1) _ K = KK
    unfold body38
    have hlt : (j : Int) < ((ls.length : Nat) : Int) := by omega
    have hw := wrap_succ j (by omega)
    have hj0 : (0 : Int) ≤ (j : Int) := by omega
    simp only [Try.f6, loops, Option.map_some, Option.getD_some, List.nil_append, List.append_nil, List.cons_append, List.getElem?_cons_zero, List.getElem?_cons_succ]
    obtain ⟨ws, hs⟩ := at_lt ls j (by omega)
    obtain ⟨lx, hk, hlx⟩ := hls.get hs
    have hlx : SlOf 1 (strs ws) lx := hlx
    have hd : lnG ls j = (greatL ws || lnG ls (j + 1)) := drop_any _ ls j ws hs
    by_cases c1 : 15 < (ws.length : Int)
    · simp -implicitDefEqProofs only [go_sem, ↓reduceIte, intA, hlt, hw, hch.len, hch.idx hy, hl.len, hl.idx hk, hlx.len, hlx.cells, strs_len, ← hls.1, c1]
      subst hK
      simp -implicitDefEqProofs only [go_sem, ↓reduceIte]
      exact h2 (by rw [hd, greatL_eq]; simp; left; left; omega) _ _ rfl
    · simp -implicitDefEqProofs only [go_sem, ↓reduceIte, intA, hlt, hw, hch.len, hch.idx hy, hl.len, hl.idx hk, hlx.len, hlx.cells, strs_len, ← hls.1, c1]
      refine loop38c xs lxs ch hch i j id l lx hy hl hk ws hlx (hz ws (List.mem_of_getElem? hs)) _ ws.length 0 (by omega) ?_ ?_
      · intro hf
        simp -implicitDefEqProofs only [go_sem, ↓reduceIte, intA, hw]
        subst hK
        simp -implicitDefEqProofs only [go_sem, ↓reduceIte]
        have hd' : lnG ls j = lnG ls (j + 1) := by rw [hd, greatL_eq, hf]; simp; omega
        rw [hd'] at h1 h2
        exact ih (j + 1) (by omega) h1 h2
      · intro hf l HH hl
        subst hK
        simp -implicitDefEqProofs only [go_sem, ↓reduceIte]
        exact h2 (by rw [hd, greatL_eq, hf]; simp) l HH hl
set_option maxHeartbeats 4000000 in
theorem loop38a {e : Exts} (xs : List AV) (ch : AV) (hch : SlOf 2 xs ch) (t : Txt) (ht : Fits t) (hn : t.length < 2 ^ 63) (hall : All2 ChapA t xs) (K : Post) :
    ∀ m j : Nat, j + m = t.length → (chG t j = false → AtK K (.exit 0) ⟨75, [(0, .agg [ch]), (1, .ptr 0 0 0), (2, .v (.bool false)), (9, .v (.bool false)), (3, intA (t.length : Nat))], []⟩ ⟨[some (.cells 0 0 24 1 false [ch])], 0⟩) → (chG t j = true → ∀ tl HH, assoc 2 tl = some (.v (.bool true)) → AtK K .ret ⟨75, tl, []⟩ HH) →
    Lp (Cx e) 6 none [0, 1, 2, 9, 3] (body38 0) ⟨75, [(0, .agg [ch]), (1, .ptr 0 0 0), (2, .v (.bool false)), (9, .v (.bool false)), (3, intA j)], []⟩ ⟨[some (.cells 0 0 24 1 false [ch])], 0⟩ K := by
  intro m
  induction m with
  | zero =>
    intro j hj h1 h2
    rw [Lp_step]
    generalize hK : loopK (Cx e) 6 none [0, 1, 2, 9, 3] (body38 0) _ K = KK
    unfold body38
    obtain rfl : j = t.length := by omega
    simp only [Try.f6, loops, Option.map_some, Option.getD_some, List.nil_append, List.append_nil, List.cons_append, List.getElem?_cons_zero, List.getElem?_cons_succ]
    simp -implicitDefEqProofs only [go_sem, ↓reduceIte, intA, Int.lt_irrefl, hch.len, ← hall.1]
    subst hK
    simp -implicitDefEqProofs only [go_sem, ↓reduceIte]
    exact h1 (by simp [chG])
  | succ m ih =>
    intro j hj h1 h2
    rw [Lp_step]
    generalize hK : loopK (Cx e) 6 none [0, 1, 2, 9, 3] (body38 0) _ K = KK
    unfold body38
    have hlt : (j : Int) < ((t.length : Nat) : Int) := by omega
    have hw := wrap_succ j (by omega)
    have hj0 : (0 : Int) ≤ (j : Int) := by omega
    simp only [Try.f6, loops, Option.map_some, Option.getD_some, List.nil_append, List.append_nil, List.cons_append, List.getElem?_cons_zero, List.getElem?_cons_succ]
    have hfit := ht.chs
    have hw := wrap_succ j (by omega)
    obtain ⟨c, hs⟩ := at_lt t j (by omega)
    obtain ⟨y, hy, l, rfl, lxs, hl, hls⟩ := hall.get hs
    have hd : chG t j = (greatC c || chG t (j + 1)) := drop_any _ t j c hs
    have hm := List.mem_of_getElem? hs
    by_cases c1 : 15 < (c.2.length : Int)
    · simp -implicitDefEqProofs only [go_sem, ↓reduceIte, intA, hlt, hw, hch.len, hch.idx hy, hl.len, hl.cells, ← hls.1, ← hall.1, c1]
      subst hK
      simp -implicitDefEqProofs only [go_sem, ↓reduceIte]
      exact h2 (by rw [hd]; unfold greatC; simp; left; left; omega) _ _ rfl
    · simp -implicitDefEqProofs only [go_sem, ↓reduceIte, intA, hlt, hw, hch.len, hch.idx hy, hl.len, hl.cells, ← hls.1, ← hall.1, c1]
      refine loop38b xs lxs ch hch j c.1 l hy hl c.2 hls (ht.lines c hm) (ht.words c hm) _ c.2.length 0 (by omega) ?_ ?_
      · intro hf
        simp -implicitDefEqProofs only [go_sem, ↓reduceIte, intA, hw]
        subst hK
        simp -implicitDefEqProofs only [go_sem, ↓reduceIte]
        have hd' : chG t j = chG t (j + 1) := by
          rw [hd]; unfold greatC; rw [show c.2.any greatL = lnG c.2 0 from rfl, hf]; simp; omega
        rw [hd'] at h1 h2
        exact ih (j + 1) (by omega) h1 h2
      · intro hf l HH hl
        subst hK
        simp -implicitDefEqProofs only [go_sem, ↓reduceIte]
        exact h2 (by rw [hd]; unfold greatC; rw [show c.2.any greatL = lnG c.2 0 from rfl, hf]; simp) l HH hl
set_option maxHeartbeats 1000000 in
theorem ans38 {e : Exts} (t : Txt) (ht : Fits t) (x : AV) (hx : TextA t x) : Ans (Cx e) 6 [x] (.v (.bool (greatT t))) := by
  obtain ⟨ch, rfl, xs, hch, hall⟩ := hx
  unfold Ans
  rw [fn_step (fn_6 e) (show Try.f6.body = some _ from rfl)]
  by_cases h1 : 10 < (t.length : Int)
  · simp -implicitDefEqProofs only [Try.f6, intA, go_sem, ↓reduceIte, hch.len, hch.cells, hch.flat, hch.bound, ← hall.1, h1]
    have : greatT t = true := by unfold greatT; simp; left; omega
    rw [this]
  · simp -implicitDefEqProofs only [Try.f6, intA, go_sem, ↓reduceIte, hch.len, hch.cells, hch.flat, hch.bound, ← hall.1, h1]
    refine loop38a xs ch hch t ht ht.chs hall _ t.length 0 (by omega) ?_ ?_
    · intro hf
      simp -implicitDefEqProofs only [go_sem, ↓reduceIte]
      have : greatT t = false := by unfold greatT; rw [show t.any greatC = chG t 0 from rfl, hf]; simp; omega
      rw [this]
    · intro hf l HH hl
      simp -implicitDefEqProofs only [go_sem, ↓reduceIte, hl]
      have : greatT t = true := by unfold greatT; rw [show t.any greatC = chG t 0 from rfl, hf]; simp
      rw [this]
end Go.Ev
namespace Go.Ev
open Go.Proofs
set_option maxRecDepth 100000
set_option linter.unusedSimpArgs false
def wsB (ws : Line) (j : Nat) : Bool := !(ws.drop j).all wordB
def lineB (l : Line) : Bool := withinB 1 10 [(l.length : Int)] && l.all wordB
def lnB (ls : List Line) (j : Nat) : Bool := !(ls.drop j).all lineB
def idB (t : Txt) (id : Int) (j n : Nat) : Bool := ((t.take n).drop j).any fun c => decide (c.1 = id)
def condC (t : Txt) (i : Nat) (c : Chap) : Bool := withinB 0 9999 [c.1] && withinB 1 10 [(c.2.length : Int)] && !idB t c.1 0 i && c.2.all lineB
def okFrom (t : Txt) : Nat → Txt → Bool
  | _, [] => true
  | j, c :: r => condC t j c && okFrom t (j + 1) r
def textB (t : Txt) : Bool := withinB 1 6 [(t.length : Int)] && okFrom t 0 t
noncomputable def body39 (n : Nat) : Code := ((Try.f42.body.map loops).getD [])[n]?.getD .skip
theorem idB_step (t : Txt) (id : Int) (n j : Nat) (c : Chap) (_hn : n ≤ t.length) (hj : j < n) (h : t[j]? = some c) : idB t id j n = (decide (c.1 = id) || idB t id (j + 1) n) := by
  unfold idB
  exact drop_any _ _ j c (by rw [List.getElem?_take, if_pos hj]; exact h)
set_option maxHeartbeats 4000000 in
theorem loop39i {e : Exts} (t : Txt) (xs : List AV) (ch : AV) (hch : SlOf 2 xs ch) (hall : All2 ChapA t xs) (i : Nat) (hi : i ≤ t.length) (hn : i < 2 ^ 63) (id : Int) (l : AV) (K : Post) :
    ∀ m j : Nat, j + m = i → (idB t id j i = false → AtK K (.exit 2) ⟨85, [(0, .agg [ch]), (1, .ptr 0 0 0), (2, .v (.bool false)), (12, .v (.bool false)), (3, intA i), (17, .v (.bool true)), (4, .ptr 1 0 0), (35, .v (.bool false)), (5, intA (i : Nat))], []⟩ ⟨[some (.cells 0 0 24 1 false [ch]), some (.cells 0 0 78 1 false [intA id, l])], 0⟩) → (idB t id j i = true → ∀ tl HH, assoc 2 tl = some (.v (.bool false)) → AtK K .ret ⟨85, tl, []⟩ HH) →
    Lp (Cx e) 42 none [0, 1, 2, 12, 3, 17, 4, 35, 5] (body39 1) ⟨85, [(0, .agg [ch]), (1, .ptr 0 0 0), (2, .v (.bool false)), (12, .v (.bool false)), (3, intA i), (17, .v (.bool true)), (4, .ptr 1 0 0), (35, .v (.bool false)), (5, intA j)], []⟩ ⟨[some (.cells 0 0 24 1 false [ch]), some (.cells 0 0 78 1 false [intA id, l])], 0⟩ K := by
  intro m
  induction m with
  | zero =>
    intro j hj h1 h2
    rw [Lp_step]
    generalize hK : loopK (Cx e) 42 none [0, 1, 2, 12, 3, 17, 4, 35, 5] (body39 1) _ K = KK
    unfold body39
    obtain rfl : j = i := by omega
    simp only [Try.f42, loops, Option.map_some, Option.getD_some, List.nil_append, List.append_nil, List.cons_append, List.getElem?_cons_zero, List.getElem?_cons_succ]
    simp -implicitDefEqProofs only [go_sem, ↓reduceIte, intA, Int.lt_irrefl, hch.len]
    subst hK
    simp -implicitDefEqProofs only [go_sem, ↓reduceIte]
    exact h1 (by unfold idB; rw [List.drop_of_length_le (by simp; omega)]; rfl)
  | succ m ih =>
    intro j hj h1 h2
    rw [Lp_step]
    generalize hK : loopK (Cx e) 42 none [0, 1, 2, 12, 3, 17, 4, 35, 5] (body39 1) _ K = KK
    unfold body39
    have hlt : (j : Int) < ((i : Nat) : Int) := by omega
    have hw := wrap_succ j (by omega)
    have hj0 : (0 : Int) ≤ (j : Int) := by omega
    simp only [Try.f42, loops, Option.map_some, Option.getD_some, List.nil_append, List.append_nil, List.cons_append, List.getElem?_cons_zero, List.getElem?_cons_succ]
    obtain ⟨c, hs⟩ := at_lt t j (by omega)
    obtain ⟨y, hy, lj, rfl, -⟩ := hall.get hs
    have hd := idB_step t id i j c hi (by omega) hs
    simp -implicitDefEqProofs only [go_sem, ↓reduceIte, intA, hlt, hw]
    refine wp_draw (by kernel_rfl) ?_
    by_cases c1 : c.1 = id
    · simp -implicitDefEqProofs only [go_sem, ↓reduceIte, intA, hlt, hw, hch.idx hy, c1]
      subst hK
      simp -implicitDefEqProofs only [go_sem, ↓reduceIte]
      exact h2 (by rw [hd]; simp [c1]) _ _ rfl
    · simp -implicitDefEqProofs only [go_sem, ↓reduceIte, intA, hlt, hw, hch.idx hy, c1]
      subst hK
      simp -implicitDefEqProofs only [go_sem, ↓reduceIte]
      have hd' : idB t id j i = idB t id (j + 1) i := by rw [hd]; simp [c1]
      rw [hd'] at h1 h2
      exact ih (j + 1) (by omega) h1 h2
set_option maxHeartbeats 4000000 in
theorem loop39w {e : Exts} (he : Quiet e) (ch : AV) (i k : Nat) (id : Int) (lxs : List AV) (l lx : AV) (hl : SlOf 1 lxs l) (hk : lxs[k]? = some lx) (ws : Line) (hlx : SlOf 1 (strs ws) lx) (hn : ws.length < 2 ^ 63) (hz : ∀ s ∈ ws, s.size < 2 ^ 63) (K : Post) :
    ∀ m j : Nat, j + m = ws.length → (wsB ws j = false → AtK K (.exit 6) ⟨85, [(0, .agg [ch]), (1, .ptr 0 0 0), (2, .v (.bool false)), (12, .v (.bool false)), (3, intA i), (17, .v (.bool true)), (4, .ptr 1 0 0), (35, .v (.bool false)), (5, intA i), (6, intA k), (54, .v (.bool true)), (64, .v (.bool false)), (7, intA (ws.length : Nat))], []⟩ ⟨[some (.cells 0 0 24 1 false [ch]), some (.cells 0 0 78 1 false [intA id, l])], 0⟩) → (wsB ws j = true → ∀ tl HH, assoc 2 tl = some (.v (.bool false)) → AtK K .ret ⟨85, tl, []⟩ HH) →
    Lp (Cx e) 42 none [0, 1, 2, 12, 3, 17, 4, 35, 5, 6, 54, 64, 7] (body39 3) ⟨85, [(0, .agg [ch]), (1, .ptr 0 0 0), (2, .v (.bool false)), (12, .v (.bool false)), (3, intA i), (17, .v (.bool true)), (4, .ptr 1 0 0), (35, .v (.bool false)), (5, intA i), (6, intA k), (54, .v (.bool true)), (64, .v (.bool false)), (7, intA j)], []⟩ ⟨[some (.cells 0 0 24 1 false [ch]), some (.cells 0 0 78 1 false [intA id, l])], 0⟩ K := by
  intro m
  induction m with
  | zero =>
    intro j hj h1 h2
    rw [Lp_step]
    generalize hK : loopK (Cx e) 42 none [0, 1, 2, 12, 3, 17, 4, 35, 5, 6, 54, 64, 7] (body39 3) _ K = KK
    unfold body39
    obtain rfl : j = ws.length := by omega
    simp only [Try.f42, loops, Option.map_some, Option.getD_some, List.nil_append, List.append_nil, List.cons_append, List.getElem?_cons_zero, List.getElem?_cons_succ]
    simp -implicitDefEqProofs only [go_sem, ↓reduceIte, intA, Int.lt_irrefl, hl.len, hl.cells, hl.idx hk, hlx.len, hlx.cells, strs_len]
    subst hK
    simp -implicitDefEqProofs only [go_sem, ↓reduceIte]
    exact h1 (by unfold wsB; rw [List.drop_of_length_le (by simp)]; rfl)
  | succ m ih =>
    intro j hj h1 h2
    rw [Lp_step]
    generalize hK : loopK (Cx e) 42 none [0, 1, 2, 12, 3, 17, 4, 35, 5, 6, 54, 64, 7] (body39 3) _ K = KK
    unfold body39
    have hlt : (j : Int) < ((ws.length : Nat) : Int) := by omega
    have hw := wrap_succ j (by omega)
    have hj0 : (0 : Int) ≤ (j : Int) := by omega
    simp only [Try.f42, loops, Option.map_some, Option.getD_some, List.nil_append, List.append_nil, List.cons_append, List.getElem?_cons_zero, List.getElem?_cons_succ]
    obtain ⟨s, hs⟩ := at_lt ws j (by omega)
    have hd : wsB ws j = (!wordB s || wsB ws (j + 1)) := by unfold wsB; rw [drop_all _ ws j s hs, Bool.not_and]
    have hc := call61 he s (hz s (List.mem_of_getElem? hs))
    cases c1 : wordB s
    · rw [c1] at hc
      simp -implicitDefEqProofs only [go_sem, ↓reduceIte, intA, hlt, hw, hl.len, hl.cells, hl.idx hk, hlx.len, hlx.cells, strs_len, hlx.idx (strs_get hs), hc]
      subst hK
      simp -implicitDefEqProofs only [go_sem, ↓reduceIte]
      exact h2 (by rw [hd, c1]; rfl) _ _ rfl
    · rw [c1] at hc
      simp -implicitDefEqProofs only [go_sem, ↓reduceIte, intA, hlt, hw, hl.len, hl.cells, hl.idx hk, hlx.len, hlx.cells, strs_len, hlx.idx (strs_get hs), hc]
      subst hK
      simp -implicitDefEqProofs only [go_sem, ↓reduceIte]
      have hd' : wsB ws j = wsB ws (j + 1) := by rw [hd, c1]; rfl
      rw [hd'] at h1 h2
      exact ih (j + 1) (by omega) h1 h2
set_option maxHeartbeats 4000000 in
theorem loop39l {e : Exts} (he : Quiet e) (ch : AV) (i : Nat) (id : Int) (lxs : List AV) (l : AV) (hl : SlOf 1 lxs l) (ls : List Line) (hls : All2 LineA ls lxs) (hn : ls.length < 2 ^ 63) (hz : ∀ s ∈ ls, s.length < 2 ^ 63) (hzz : ∀ l ∈ ls, ∀ s ∈ l, s.size < 2 ^ 63) (K : Post) :
    ∀ m j : Nat, j + m = ls.length → (lnB ls j = false → AtK K (.exit 4) ⟨85, [(0, .agg [ch]), (1, .ptr 0 0 0), (2, .v (.bool false)), (12, .v (.bool false)), (3, intA i), (17, .v (.bool true)), (4, .ptr 1 0 0), (35, .v (.bool false)), (5, intA i), (6, intA (ls.length : Nat))], []⟩ ⟨[some (.cells 0 0 24 1 false [ch]), some (.cells 0 0 78 1 false [intA id, l])], 0⟩) → (lnB ls j = true → ∀ tl HH, assoc 2 tl = some (.v (.bool false)) → AtK K .ret ⟨85, tl, []⟩ HH) →
    Lp (Cx e) 42 none [0, 1, 2, 12, 3, 17, 4, 35, 5, 6] (body39 2) ⟨85, [(0, .agg [ch]), (1, .ptr 0 0 0), (2, .v (.bool false)), (12, .v (.bool false)), (3, intA i), (17, .v (.bool true)), (4, .ptr 1 0 0), (35, .v (.bool false)), (5, intA i), (6, intA j)], []⟩ ⟨[some (.cells 0 0 24 1 false [ch]), some (.cells 0 0 78 1 false [intA id, l])], 0⟩ K := by
  intro m
  induction m with
  | zero =>
    intro j hj h1 h2
    rw [Lp_step]
    generalize hK : loopK (Cx e) 42 none [0, 1, 2, 12, 3, 17, 4, 35, 5, 6] (body39 2) _ K = KK
    unfold body39
    obtain rfl : j = ls.length := by omega
    simp only [Try.f42, loops, Option.map_some, Option.getD_some, List.nil_append, List.append_nil, List.cons_append, List.getElem?_cons_zero, List.getElem?_cons_succ]
    simp -implicitDefEqProofs only [go_sem, ↓reduceIte, intA, Int.lt_irrefl, hl.len, hl.cells, ← hls.1]
    subst hK
    simp -implicitDefEqProofs only [go_sem, ↓reduceIte]
    exact h1 (by unfold lnB; rw [List.drop_of_length_le (by simp)]; rfl)
  | succ m ih =>
    intro j hj h1 h2
    rw [Lp_step]
    generalize hK : loopK (Cx e) 42 none [0, 1, 2, 12, 3, 17, 4, 35, 5, 6] (body39 2) _ K = KK
    unfold body39
    have hlt : (j : Int) < ((ls.length : Nat) : Int) := by omega
    have hw := wrap_succ j (by omega)
    have hj0 : (0 : Int) ≤ (j : Int) := by omega
    simp only [Try.f42, loops, Option.map_some, Option.getD_some, List.nil_append, List.append_nil, List.cons_append, List.getElem?_cons_zero, List.getElem?_cons_succ]
    obtain ⟨ws, hs⟩ := at_lt ls j (by omega)
    obtain ⟨lx, hk, hlx⟩ := hls.get hs
    have hlx : SlOf 1 (strs ws) lx := hlx
    have hd : lnB ls j = (!lineB ws || lnB ls (j + 1)) := by unfold lnB; rw [drop_all _ ls j ws hs, Bool.not_and]
    have hm := List.mem_of_getElem? hs
    have hc := call43 he (ws.length : Int) 1 10
    cases c1 : withinB 1 10 [(ws.length : Int)]
    · rw [c1] at hc
      simp -implicitDefEqProofs only [go_sem, ↓reduceIte, intA, hlt, hw, hl.len, hl.cells, hl.idx hk, hlx.len, hlx.cells, strs_len, ← hls.1, hc]
      subst hK
      simp -implicitDefEqProofs only [go_sem, ↓reduceIte]
      exact h2 (by rw [hd]; unfold lineB; rw [c1]; rfl) _ _ rfl
    · rw [c1] at hc
      simp -implicitDefEqProofs only [go_sem, ↓reduceIte, intA, hlt, hw, hl.len, hl.cells, hl.idx hk, hlx.len, hlx.cells, strs_len, ← hls.1, hc]
      refine loop39w he ch i j id lxs l lx hl hk ws hlx (hz ws hm) (hzz ws hm) _ ws.length 0 (by omega) ?_ ?_
      · intro hf
        simp -implicitDefEqProofs only [go_sem, ↓reduceIte, intA, hw]
        subst hK
        simp -implicitDefEqProofs only [go_sem, ↓reduceIte]
        have hf' : ws.all wordB = true := by unfold wsB at hf; simpa using hf
        have hd' : lnB ls j = lnB ls (j + 1) := by rw [hd]; unfold lineB; rw [c1, hf']; rfl
        rw [hd'] at h1 h2
        exact ih (j + 1) (by omega) h1 h2
      · intro hf l HH hl
        subst hK
        simp -implicitDefEqProofs only [go_sem, ↓reduceIte]
        have hf' : ws.all wordB = false := by unfold wsB at hf; simpa using hf
        exact h2 (by rw [hd]; unfold lineB; rw [hf', Bool.and_false]; rfl) l HH hl
def chB (t : Txt) (j : Nat) : Bool := !okFrom t j (t.drop j)
theorem chB_step (t : Txt) (j : Nat) (c : Chap) (h : t[j]? = some c) : chB t j = (!condC t j c || chB t (j + 1)) := by
  obtain ⟨hj, rfl⟩ := List.getElem?_eq_some_iff.1 h
  unfold chB
  rw [List.drop_eq_getElem_cons hj]
  simp only [okFrom, Bool.not_and]
set_option maxHeartbeats 4000000 in
theorem loop39c {e : Exts} (he : Quiet e) (t : Txt) (ht : Fits t) (xs : List AV) (ch : AV) (hch : SlOf 2 xs ch) (hn : t.length < 2 ^ 63) (hall : All2 ChapA t xs) (K : Post) :
    ∀ m j : Nat, j + m = t.length → (chB t j = false → AtK K (.exit 0) ⟨85, [(0, .agg [ch]), (1, .ptr 0 0 0), (2, .v (.bool false)), (12, .v (.bool false)), (3, intA (t.length : Nat))], []⟩ ⟨[some (.cells 0 0 24 1 false [ch])], 0⟩) → (chB t j = true → ∀ tl HH, assoc 2 tl = some (.v (.bool false)) → AtK K .ret ⟨85, tl, []⟩ HH) →
    Lp (Cx e) 42 none [0, 1, 2, 12, 3] (body39 0) ⟨85, [(0, .agg [ch]), (1, .ptr 0 0 0), (2, .v (.bool false)), (12, .v (.bool false)), (3, intA j)], []⟩ ⟨[some (.cells 0 0 24 1 false [ch])], 0⟩ K := by
  intro m
  induction m with
  | zero =>
    intro j hj h1 h2
    rw [Lp_step]
    generalize hK : loopK (Cx e) 42 none [0, 1, 2, 12, 3] (body39 0) _ K = KK
    unfold body39
    obtain rfl : j = t.length := by omega
    simp only [Try.f42, loops, Option.map_some, Option.getD_some, List.nil_append, List.append_nil, List.cons_append, List.getElem?_cons_zero, List.getElem?_cons_succ]
    simp -implicitDefEqProofs only [go_sem, ↓reduceIte, intA, Int.lt_irrefl, hch.len, ← hall.1]
    subst hK
    simp -implicitDefEqProofs only [go_sem, ↓reduceIte]
    exact h1 (by unfold chB; rw [List.drop_of_length_le (by simp)]; rfl)
  | succ m ih =>
    intro j hj h1 h2
    rw [Lp_step]
    generalize hK : loopK (Cx e) 42 none [0, 1, 2, 12, 3] (body39 0) _ K = KK
    unfold body39
    have hlt : (j : Int) < ((t.length : Nat) : Int) := by omega
    have hw := wrap_succ j (by omega)
    have hj0 : (0 : Int) ≤ (j : Int) := by omega
    simp only [Try.f42, loops, Option.map_some, Option.getD_some, List.nil_append, List.append_nil, List.cons_append, List.getElem?_cons_zero, List.getElem?_cons_succ]
    obtain ⟨c, hs⟩ := at_lt t j (by omega)
    obtain ⟨y, hy, l, rfl, lxs, hl, hls⟩ := hall.get hs
    have hd := chB_step t j c hs
    have hm := List.mem_of_getElem? hs
    have hca := call43 he c.1 0 9999
    have hcb := call43 he (c.2.length : Int) 1 10
    cases c1 : withinB 0 9999 [c.1]
    · rw [c1] at hca
      simp -implicitDefEqProofs only [go_sem, ↓reduceIte, intA, hlt, hw, hch.len, hch.idx hy, hl.len, hl.cells, hl.flat, hl.bound, ← hls.1, ← hall.1, hca]
      subst hK
      simp -implicitDefEqProofs only [go_sem, ↓reduceIte]
      exact h2 (by rw [hd]; unfold condC; rw [c1]; rfl) _ _ rfl
    · rw [c1] at hca
      cases c2 : withinB 1 10 [(c.2.length : Int)]
      · rw [c2] at hcb
        simp -implicitDefEqProofs only [go_sem, ↓reduceIte, intA, hlt, hw, hch.len, hch.idx hy, hl.len, hl.cells, hl.flat, hl.bound, ← hls.1, ← hall.1, hca, hcb]
        subst hK
        simp -implicitDefEqProofs only [go_sem, ↓reduceIte]
        exact h2 (by rw [hd]; unfold condC; rw [c1, c2]; rfl) _ _ rfl
      · rw [c2] at hcb
        simp -implicitDefEqProofs only [go_sem, ↓reduceIte, intA, hlt, hw, hch.len, hch.idx hy, hl.len, hl.cells, hl.flat, hl.bound, ← hls.1, ← hall.1, hca, hcb]
        refine loop39i t xs ch hch hall j (by omega) (by omega) c.1 l _ j 0 (by omega) ?_ ?_
        · intro hf
          simp -implicitDefEqProofs only [go_sem, ↓reduceIte, intA]
          refine loop39l he ch j c.1 lxs l hl c.2 hls (ht.lines c hm) (ht.words c hm) (ht.size c hm) _ c.2.length 0 (by omega) ?_ ?_
          · intro hg
            have hg' : c.2.all lineB = true := by unfold lnB at hg; simpa using hg
            simp -implicitDefEqProofs only [go_sem, ↓reduceIte, intA, hw]
            subst hK
            simp -implicitDefEqProofs only [go_sem, ↓reduceIte, trim_at, hch.flat, hch.bound, hch.cells]
            have hd' : chB t j = chB t (j + 1) := by rw [hd]; unfold condC; rw [c1, c2, hf, hg']; rfl
            rw [hd'] at h1 h2
            exact ih (j + 1) (by omega) h1 h2
          · intro hg tl HH htl
            have hg' : c.2.all lineB = false := by unfold lnB at hg; simpa using hg
            subst hK
            simp -implicitDefEqProofs only [go_sem, ↓reduceIte]
            exact h2 (by rw [hd]; unfold condC; rw [hg', Bool.and_false]; rfl) tl HH htl
        · intro hf tl HH htl
          subst hK
          simp -implicitDefEqProofs only [go_sem, ↓reduceIte]
          exact h2 (by rw [hd]; unfold condC; rw [c1, c2, hf]; rfl) tl HH htl
set_option maxHeartbeats 1000000 in
theorem ans39 {e : Exts} (he : Quiet e) (t : Txt) (ht : Fits t) (x : AV) (hx : TextA t x) : Ans (Cx e) 42 [x] (.v (.bool (textB t))) := by
  obtain ⟨ch, rfl, xs, hch, hall⟩ := hx
  unfold Ans
  rw [fn_step (fn_42 e) (show Try.f42.body = some _ from rfl)]
  have hc := call43 he (t.length : Int) 1 6
  cases h1 : withinB 1 6 [(t.length : Int)]
  · rw [h1] at hc
    simp -implicitDefEqProofs only [Try.f42, intA, go_sem, ↓reduceIte, hch.len, hch.cells, hch.flat, hch.bound, ← hall.1, hc]
    unfold textB; rw [h1]; rfl
  · rw [h1] at hc
    simp -implicitDefEqProofs only [Try.f42, intA, go_sem, ↓reduceIte, hch.len, hch.cells, hch.flat, hch.bound, ← hall.1, hc]
    refine loop39c he t ht xs ch hch ht.chs hall _ t.length 0 (by omega) ?_ ?_
    · intro hf
      have hf' : okFrom t 0 t = true := by unfold chB at hf; simpa using hf
      simp -implicitDefEqProofs only [go_sem, ↓reduceIte]
      unfold textB; rw [h1, hf']; rfl
    · intro hf tl HH htl
      have hf' : okFrom t 0 t = false := by unfold chB at hf; simpa using hf
      simp -implicitDefEqProofs only [go_sem, ↓reduceIte, htl]
      unfold textB; rw [h1, hf']; rfl
end Go.Ev
/- Iterators: what a function does that hands things to a loop's body. -/
namespace Go.Ev
/-- more objects behind those that are there -/
def Heap.plus (H : Heap) (E : List (Option AObj)) : Heap := { H with objs := H.objs ++ E }
theorem plus_size (H : Heap) (E : List (Option AObj)) : (H.plus E).size = H.size + E.length := by simp [Heap.plus, Heap.size]
theorem plus_lock (H : Heap) (E : List (Option AObj)) : (H.plus E).lock = H.lock := rfl
theorem plus_nil (H : Heap) : H.plus [] = H := by simp [Heap.plus]
theorem plus_plus (H : Heap) (E F : List (Option AObj)) : (H.plus E).plus F = H.plus (E ++ F) := by simp [Heap.plus]
theorem plus_get {H : Heap} {b : Nat} (E : List (Option AObj)) (h : b < H.size) : (H.plus E).get b = H.get b := by
  unfold Heap.get Heap.plus; simp only; rw [List.getElem?_append_left h]
theorem plus_get_hi {H : Heap} {b : Nat} (E : List (Option AObj)) (h : H.size ≤ b) : (H.plus E).get b = (E[b - H.size]?).join := by
  unfold Heap.get Heap.plus; simp only; rw [List.getElem?_append_right h]; rfl
theorem plus_row {H : Heap} {b v : Nat} (E : List (Option AObj)) (h : b < H.size) : (H.plus E).row b v = H.row b v := by
  unfold Heap.row; rw [plus_get E h]
theorem sop_left {α : Type} (x : α) : ∀ (b : Nat) (l E : List α), b < l.length → setOrPush x b (l ++ E) = setOrPush x b l ++ E
  | _, [], _, h => by simp at h
  | 0, y :: r, E, _ => rfl
  | n + 1, y :: r, E, h => by simp only [List.cons_append, setOrPush]; rw [sop_left x n r E (by simpa using h)]
theorem sop_right {α : Type} (x : α) : ∀ (b : Nat) (l E : List α), l.length ≤ b → setOrPush x b (l ++ E) = l ++ setOrPush x (b - l.length) E
  | b, [], E, _ => rfl
  | 0, y :: r, E, h => by simp at h
  | n + 1, y :: r, E, h => by
    simp only [List.cons_append, setOrPush]; rw [sop_right x n r E (by simpa using h)]; simp
theorem plus_put {H : Heap} {b : Nat} (E : List (Option AObj)) (o : AObj) (h : b < H.size) : (H.plus E).put b o = (H.put b o).plus E := by
  unfold Heap.put Heap.plus; simp only; rw [sop_left _ _ _ _ h]
theorem plus_put_hi {H : Heap} {b : Nat} (E : List (Option AObj)) (o : AObj) (h : H.size ≤ b) : (H.plus E).put b o = H.plus (setOrPush (some o) (b - H.size) E) := by
  unfold Heap.put Heap.plus; simp only; rw [sop_right _ _ _ _ h]; rfl
theorem put_push {H : Heap} (o : AObj) : H.put H.size o = H.plus [some o] := by
  have h := plus_put_hi (H := H) (b := H.size) [] o (Nat.le_refl _)
  rw [plus_nil] at h
  rw [h, Nat.sub_self]; rfl
theorem plus_push {H : Heap} (E : List (Option AObj)) (o : AObj) : (H.plus E).put (H.plus E).size o = H.plus (E ++ [some o]) := by rw [put_push, plus_plus]
theorem put_sizeI {H : Heap} {b : Nat} (o : AObj) (h : b < H.size) : (H.put b o).size = H.size := by
  unfold Heap.put Heap.size at *
  simp only
  have : ∀ (b : Nat) (l : List (Option AObj)), b < l.length → (setOrPush (some o) b l).length = l.length := by
    intro b l
    induction l generalizing b with
    | nil => intro h; simp at h
    | cons x r ih => intro h; cases b with
      | zero => rfl
      | succ n => simp only [setOrPush, List.length_cons]; rw [ih n (by simpa using h)]
  exact this b _ h
theorem trim_plus {H : Heap} (E F : List (Option AObj)) (vs : List AV) (ms : List Nat) {n : Nat} (hn : n = H.size + E.length) : ∃ G, (H.plus (E ++ F)).trim n vs ms = H.plus (E ++ G) := by
  subst hn
  unfold Heap.trim
  split
  · refine ⟨[], ?_⟩
    unfold Heap.plus Heap.size
    simp only [List.append_nil]
    congr 1
    rw [← List.append_assoc, List.take_append_of_le_length (by simp), List.take_of_length_le (by simp)]
  · exact ⟨F, rfl⟩
theorem settle_plus {H : Heap} (E F : List (Option AObj)) {n : Nat} (hn : n = H.size + E.length) : ∃ G, settleH n (H.plus (E ++ F)) = H.plus (E ++ G) := by
  subst hn
  unfold settleH
  split
  · refine ⟨[], ?_⟩
    unfold Heap.plus Heap.size
    simp only [List.append_nil]
    congr 1
    rw [← List.append_assoc, List.take_append_of_le_length (by simp), List.take_of_length_le (by simp)]
  · exact ⟨F, rfl⟩
/-! ### rounds -/
section
variable {C : Cfg} {me : FuncId}
def bodyK (l n : Nat) (K : Bool → Heap → Prop) : Post := fun e _ H3 =>
  ∃ r3 j, loopObj H3 l = some r3 ∧ jumpOf e = some j ∧ K j.isNone ((H3.put l (.loop { r3 with state := if j.isNone then .ready else .done, pending := j })).trim n [] [])
def asgK (C : Cfg) (l n : Nat) (r : ALoop) (K : Bool → Heap → Prop) : Post := fun e a1 H1 =>
  e = .normal ∧ ∃ r1, loopObj H1 l = some r1 ∧ r1.state = .ready ∧ Wp C r.fn (some l) r.body a1 (H1.put l (.loop { r1 with state := .busy })) (bodyK l n K)
theorem round_step {l : Nat} {args : List AV} {H : Heap} {r : ALoop} {K : Bool → Heap → Prop} (hr : loopObj H l = some r) (ha : args.length = r.params.size) (hl : H.lock ≤ l)
    (h : Wp C r.fn (some l) r.assign ⟨r.size, setTmps r.size r.tmps (r.params.toList.zip args), []⟩ H (asgK C l H.size r K)) :
    ∃ b H', lim C (.round l args H) = some (.ret (.v (.bool b)) H') ∧ K b H' := by
  unfold Wp at h
  rw [bindO_iff] at h
  obtain ⟨⟨e1, a1, H1⟩, h1, he, r1, hr1, hs1, h2⟩ := h
  simp only at he h2 hr1
  subst he
  unfold Wp at h2
  rw [bindO_iff] at h2
  obtain ⟨⟨e2, a2, H3⟩, h3, r3, j, hr3, hj, hK⟩ := h2
  simp only at hr3 hj hK
  refine ⟨j.isNone, _, ?_, hK⟩
  rw [lim_eq]
  simp only [taskA, hr]
  rw [if_pos ⟨ha, hl⟩, h1]
  simp only [hr1, hs1, if_true, h3, hr3, hj]
/-- what hands its things over: a loop in memory, what it does with each, as a step of a state -/
structure Src (C : Cfg) (l : Nat) (S : Type) (hp : S → Heap) (stp : S → List AV → Bool × S) (ok : List AV → Prop) (live : S → Prop) (n : Nat) : Prop where
  size : ∀ s, (hp s).size = n
  lt : l < n
  lock : ∀ s, (hp s).lock ≤ l
  step : ∀ s x, live s → ok x → (stp s x).1 = true → live (stp s x).2
  round : ∀ s x E, live s → ok x → ∃ G, lim C (.round l x ((hp s).plus E)) = some (.ret (.v (.bool (stp s x).1)) ((hp (stp s x).2).plus (E ++ G)))
def runIt {S : Type} (stp : S → List AV → Bool × S) : List (List AV) → S → Bool × S
  | [], s => (true, s)
  | x :: r, s => if (stp s x).1 then runIt stp r (stp s x).2 else (false, (stp s x).2)
/-- a function, with what it has captured, that hands over these things -/
def Yields (C : Cfg) (f : FuncId) (cap : List AV) (items : List (List AV)) : Prop :=
  ∀ (l : Nat) (S : Type) (hp : S → Heap) (stp : S → List AV → Bool × S) (ok : List AV → Prop) (live : S → Prop) (n : Nat), Src C l S hp stp ok live n → (∀ x ∈ items, ok x) →
    ∀ s E, live s → ∃ G, lim C (.call f ([.yld l] ++ cap) ((hp s).plus E)) = some (.ret (.tup []) ((hp (runIt stp items s).2).plus (E ++ G)))
theorem runIt_live {C : Cfg} {l : Nat} {S : Type} {hp : S → Heap} {stp : S → List AV → Bool × S} {ok : List AV → Prop} {live : S → Prop} {n : Nat} (h : Src C l S hp stp ok live n) : ∀ (items : List (List AV)) (s : S), (∀ x ∈ items, ok x) → live s → (runIt stp items s).1 = true → live (runIt stp items s).2
  | [], s, _, hl, _ => hl
  | x :: r, s, ho, hl, hr => by
    unfold runIt at hr ⊢
    by_cases hs : (stp s x).1 = true
    · simp only [hs, if_true] at hr ⊢
      exact runIt_live h r _ (fun y hy => ho y (List.mem_cons_of_mem _ hy)) (h.step s x hl (ho x List.mem_cons_self) hs) hr
    · simp only [hs] at hr
      cases hr
theorem callB_yld {f : FuncId} {d : Option Tmp} {args : List AV} {l : Nat} (hy : AV.yld l ∈ args) {H H' : Heap} {v : AV} (h : lim C (.call f args H) = some (.ret v H')) : callB C (lim C) me f d args H = some (v, H'.trim H.size [v] []) := by
  have hb : Nat.beq (boundL args) 0 = false := by
    have h1 : ¬ boundL args ≤ 0 := fun hle => by
      have := boundL_le.1 hle _ hy
      simp [bound] at this
    cases hq : Nat.beq (boundL args) 0
    · rfl
    · exact absurd (Nat.le_of_eq (Nat.eq_of_beq_eq_true hq)) h1
  have hany : args.any isYld = true := List.any_eq_true.2 ⟨_, hy, rfl⟩
  have hk : callKind C me f d args = 0 := by
    unfold callKind; rw [hb, hany]; split <;> rfl
  unfold callB; rw [hk]; simp only [h]
theorem wp_range0 {g : Operand} {ps : Array Tmp} {asg body : Code} {a : AAct} {H : Heap} {K : Post} {f : FuncId} {first cap : List AV} (hg : a.eval g = some (.fn (.func f) first cap))
    {v : AV} {H2 : Heap} (hc : callB C (lim C) me f none (first ++ [.yld (H.size + 1)] ++ cap) ((H.put H.size .dfr).put (H.size + 1) (.loop { fn := me, state := .ready, pending := none, size := a.size, tmps := a.tmps, params := ps, assign := asg, body := body, dfr := H.size })) = some (v, H2))
    {r : ALoop} (hr : loopObj H2 (H.size + 1) = some r) (hs : r.state ≠ .busy) (hd : r.dfr = H.size)
    (hK : match r.pending with
      | none => AtK K .normal { a with marks := H.size :: a.marks } (H2.put (H.size + 1) .dead)
      | some .ret => AtK K .ret { a with marks := H.size :: a.marks } (H2.put (H.size + 1) .dead)
      | some (.exit id) => AtK K (.exit id) { a with marks := H.size :: a.marks } (H2.put (H.size + 1) .dead)
      | _ => False) : Wp C me none (.rangeFunc g ps asg body) a H K := by
  unfold Wp
  simp only [codeA, hg, hc, hr]
  rw [if_neg (by rintro (h | h); exact hs h; exact h hd)]
  split at hK
  · rename_i hp; simp only [hp]; exact hK
  · rename_i hp; simp only [hp]; exact hK
  · rename_i hp; simp only [hp]; exact hK
  · exact hK.elim
end
end Go.Ev
namespace Go.Ev
/-! ### the end of memory -/
theorem plus_mid_put {X : Heap} {n : Nat} (hn : X.size = n) (A B : List (Option AObj)) (o : Option AObj) (o' : AObj) : (X.plus (A ++ o :: B)).put (n + A.length) o' = X.plus (A ++ some o' :: B) := by
  subst hn
  rw [plus_put_hi _ _ (by omega)]
  congr 1
  rw [sop_right _ _ _ _ (by omega)]
  congr 1
  rw [show X.size + A.length - X.size - A.length = 0 by omega]; rfl
theorem plus_mid_get {X : Heap} {n : Nat} (hn : X.size = n) (A B : List (Option AObj)) (o : Option AObj) : (X.plus (A ++ o :: B)).get (n + A.length) = o := by
  subst hn
  rw [plus_get_hi _ (by omega)]
  rw [show X.size + A.length - X.size = A.length by omega, List.getElem?_append_right (Nat.le_refl _), Nat.sub_self]; rfl
theorem plus_put_end {X : Heap} {n : Nat} (hn : X.size = n) (E : List (Option AObj)) (o : AObj) : (X.plus E).put (n + E.length) o = X.plus (E ++ [some o]) := by
  subst hn; rw [← plus_size]; exact plus_push E o
theorem plus_row_at {X : Heap} {n : Nat} (hn : X.size = n) (E G : List (Option AObj)) (v w m e sz g) (cs : List AV) : (X.plus (E ++ some (.cells w m e sz g cs) :: G)).row (n + E.length) v = if w = v then some (m, e, sz, g, cs) else none := by
  subst hn
  unfold Heap.row
  rw [plus_get_hi _ (by omega)]
  have : (E ++ some (AObj.cells w m e sz g cs) :: G)[X.size + E.length - X.size]? = some (some (.cells w m e sz g cs)) := by
    rw [show X.size + E.length - X.size = E.length by omega, List.getElem?_append_right (Nat.le_refl _), Nat.sub_self]; rfl
  rw [this]; rfl
theorem plus_store_end {X : Heap} {n : Nat} (hn : X.size = n) (hl : X.lock ≤ n) (E : List (Option AObj)) (v m e sz g) (cs : List AV) (off : Nat) (xs : List AV) :
    storeCells (X.plus (E ++ [some (.cells v m e sz g cs)])) (n + E.length) v off xs = if off + xs.length ≤ cs.length ∧ xs.all AV.flat = true then some (X.plus (E ++ [some (.cells v (Nat.max m (boundL xs)) e sz g (splice off xs cs))])) else none := by
  unfold storeCells
  rw [plus_row_at hn E [], if_pos rfl]
  simp only
  have hlk : (X.plus (E ++ [some (AObj.cells v m e sz g cs)])).lock ≤ n + E.length := by rw [plus_lock]; omega
  simp only [hlk, true_and]
  split
  · congr 1
    subst hn
    rw [plus_put_hi _ _ (by omega)]
    congr 1
    rw [sop_right _ _ _ _ (by omega)]
    congr 1
    rw [show X.size + E.length - X.size - E.length = 0 by omega]; rfl
  · rfl
theorem settle_end {X : Heap} {n : Nat} (hn : X.size = n) (E : List (Option AObj)) (o : AObj) : settleH (n + E.length) (X.plus (E ++ [some o])) = X.plus (E ++ [some o]) := by
  unfold settleH
  rw [if_neg]
  subst hn
  have : (X.plus (E ++ [some o])).objs.drop (X.size + E.length) = [some o] := by
    unfold Heap.plus Heap.size
    simp only
    rw [← List.append_assoc, List.drop_append_of_le_length (by simp), List.drop_of_length_le (by simp), List.nil_append]
  rw [this]; simp
theorem settle_none {X : Heap} {n : Nat} (hn : X.size = n) (E : List (Option AObj)) : settleH (n + E.length) (X.plus E) = X.plus E := by
  subst hn; rw [← plus_size]; exact settle_size _
theorem runIt_append {S : Type} (stp : S → List AV → Bool × S) : ∀ (a b : List (List AV)) (s : S), runIt stp (a ++ b) s = if (runIt stp a s).1 then runIt stp b (runIt stp a s).2 else runIt stp a s
  | [], b, s => rfl
  | x :: r, b, s => by
    simp only [List.cons_append, runIt]
    by_cases h : (stp s x).1 = true
    · simp only [h, if_true]; exact runIt_append stp r b _
    · simp only [h, Bool.false_eq_true, if_false]
end Go.Ev
namespace Go.Ev
theorem at_trim {H : Heap} {E F : List (Option AObj)} {vs : List AV} {ms : List Nat} {n : Nat} (Q : Heap → Prop) (hn : n = H.size + E.length) (h : ∀ G, Q (H.plus (E ++ G))) : Q ((H.plus (E ++ F)).trim n vs ms) := by
  obtain ⟨G, hG⟩ := trim_plus E F vs ms hn
  rw [hG]; exact h G
end Go.Ev
namespace Go.Ev
theorem plus_store_mid {X : Heap} {n : Nat} (hn : X.size = n) (hl : X.lock ≤ n) (A G : List (Option AObj)) (v m e sz g) (cs : List AV) (off : Nat) (xs : List AV) :
    storeCells (X.plus (A ++ some (.cells v m e sz g cs) :: G)) (n + A.length) v off xs = if off + xs.length ≤ cs.length ∧ xs.all AV.flat = true then some (X.plus (A ++ some (.cells v (Nat.max m (boundL xs)) e sz g (splice off xs cs)) :: G)) else none := by
  unfold storeCells
  rw [plus_row_at hn A G, if_pos rfl]
  simp only
  have hlk : (X.plus (A ++ some (AObj.cells v m e sz g cs) :: G)).lock ≤ n + A.length := by rw [plus_lock]; omega
  simp only [hlk, true_and]
  split
  · rw [plus_mid_put hn]
  · rfl
section
variable {C : Cfg}
theorem asgK_mk {l n : Nat} {r r1 : ALoop} {K : Bool → Heap → Prop} {a1 : AAct} {H1 : Heap} (h1 : loopObj H1 l = some r1) (hs : r1.state = .ready) (h : Wp C r.fn (some l) r.body a1 (H1.put l (.loop { r1 with state := .busy })) (bodyK l n K)) : AtK (asgK C l n r K) .normal a1 H1 :=
  ⟨rfl, r1, h1, hs, h⟩
theorem bodyK_mk {l n : Nat} {K : Bool → Heap → Prop} {e : AExit} {a : AAct} {H3 : Heap} {r3 : ALoop} {j : Option Code} (h1 : loopObj H3 l = some r3) (hj : jumpOf e = some j) (h : K j.isNone ((H3.put l (.loop { r3 with state := if j.isNone then .ready else .done, pending := j })).trim n [] [])) : AtK (bodyK l n K) e a H3 :=
  ⟨r3, j, h1, hj, h⟩
/-! ### an iterator over an iterator: what it lays before it begins -/
def wBox (l t : Nat) : AObj := .cells 0 (l + 1) t 1 false [.yld l]
def hq {S : Type} (hp : S → Heap) (E : List (Option AObj)) (l t : Nat) (q : S × ALoop) : Heap := (hp q.1).plus (E ++ [some (wBox l t), some .dfr, some (.loop q.2)])
variable {l t n : Nat} {S : Type} {hp : S → Heap} {stp : S → List AV → Bool × S} {ok : List AV → Prop} {live : S → Prop}
theorem hq_size (h : Src C l S hp stp ok live n) (E : List (Option AObj)) (q : S × ALoop) : (hq hp E l t q).size = n + E.length + 3 := by
  unfold hq; rw [plus_size, h.size]; simp; omega
theorem hq_lock (h : Src C l S hp stp ok live n) (E : List (Option AObj)) (q : S × ALoop) : (hq hp E l t q).lock ≤ n := by
  unfold hq; rw [plus_lock]; have := h.lock q.1; have := h.lt; omega
theorem hq_row (h : Src C l S hp stp ok live n) (E : List (Option AObj)) (q : S × ALoop) (B : List (Option AObj)) : ((hq hp E l t q).plus B).row (n + E.length) 0 = some (l + 1, t, 1, false, [.yld l]) := by
  unfold hq; rw [plus_plus, List.append_assoc]
  exact plus_row_at (h.size q.1) E _ 0 0 _ _ _ _ _
theorem hq_loop (h : Src C l S hp stp ok live n) (E : List (Option AObj)) (q : S × ALoop) (B : List (Option AObj)) : loopObj ((hq hp E l t q).plus B) (n + E.length + 2) = some q.2 := by
  unfold hq; rw [plus_plus]
  have := plus_mid_get (h.size q.1) (E ++ [some (wBox l t), some .dfr]) B (some (.loop q.2))
  have e : E ++ [some (wBox l t), some AObj.dfr, some (AObj.loop q.2)] ++ B = E ++ [some (wBox l t), some .dfr] ++ some (.loop q.2) :: B := by simp
  rw [e]
  unfold loopObj
  rw [show n + E.length + 2 = n + (E ++ [some (wBox l t), some AObj.dfr]).length by simp; omega, this]
theorem hq_put (h : Src C l S hp stp ok live n) (E : List (Option AObj)) (s : S) (L L' : ALoop) (B : List (Option AObj)) : ((hq hp E l t (s, L)).plus B).put (n + E.length + 2) (.loop L') = (hq hp E l t (s, L')).plus B := by
  unfold hq; rw [plus_plus, plus_plus]
  have := plus_mid_put (h.size s) (E ++ [some (wBox l t), some .dfr]) B (some (.loop L)) (.loop L')
  have e : ∀ L, E ++ [some (wBox l t), some AObj.dfr, some (AObj.loop L)] ++ B = E ++ [some (wBox l t), some .dfr] ++ some (.loop L) :: B := by intro L; simp
  rw [e, e, show n + E.length + 2 = n + (E ++ [some (wBox l t), some AObj.dfr]).length by simp; omega]
  exact this
theorem hq_round (h : Src C l S hp stp ok live n) (E : List (Option AObj)) (s : S) (L : ALoop) (B : List (Option AObj)) (x : List AV) (hl : live s) (hx : ok x) :
    ∃ G, lim C (.round l x ((hq hp E l t (s, L)).plus B)) = some (.ret (.v (.bool (stp s x).1)) ((hq hp E l t ((stp s x).2, L)).plus (B ++ G))) := by
  obtain ⟨G, hG⟩ := h.round s x (E ++ [some (wBox l t), some .dfr, some (.loop L)] ++ B) hl hx
  refine ⟨G, ?_⟩
  unfold hq
  rw [plus_plus, plus_plus, ← List.append_assoc]
  exact hG
end
end Go.Ev
namespace Go.Ev
open Go.Proofs
set_option maxRecDepth 100000
set_option linter.unusedSimpArgs false
def placeA (i k : Nat) (w : Int) : AV := .agg [intA i, intA k, intA w]
def slElems (x : AV) : List AV := match x with | .vs _ xs _ => xs | _ => []
theorem SlOf.elems {sz : Nat} {xs : List AV} {x : AV} (h : SlOf sz xs x) : slElems x = xs := by
  rcases h with ⟨rfl, rfl⟩ | ⟨cap, rfl⟩ <;> rfl
def linesOf (y : AV) : List AV := match y with | .agg [_, l] => slElems l | _ => []
def lineIts (i : Nat) : Nat → List AV → List (List AV)
  | _, [] => []
  | k, x :: r => [placeA i k 0, x] :: lineIts i (k + 1) r
def chapIts : Nat → List AV → List (List AV)
  | _, [] => []
  | i, y :: r => lineIts i 0 (linesOf y) ++ chapIts (i + 1) r
noncomputable def body88 (n : Nat) : Code := ((Try.f97.body.map loops).getD [])[n]?.getD .skip
theorem lineIts_drop (i : Nat) (xs : List AV) (j : Nat) (x : AV) (h : xs[j]? = some x) : lineIts i j (xs.drop j) = [placeA i j 0, x] :: lineIts i (j + 1) (xs.drop (j + 1)) := by
  obtain ⟨hj, rfl⟩ := List.getElem?_eq_some_iff.1 h
  rw [List.drop_eq_getElem_cons hj]; rfl
set_option maxHeartbeats 4000000 in
theorem loop88b {e : Exts} (ch : AV) (xs lxs : List AV) (id : Int) (l0 : AV) (hl0 : SlOf 1 lxs l0) (hlc : ∀ x ∈ lxs, x.cells = [x]) (hlen : lxs.length < 2 ^ 63)
    (l : Nat) (S : Type) (hp : S → Heap) (stp : S → List AV → Bool × S) (ok : List AV → Prop) (live : S → Prop) (n : Nat) (hsrc : Src (Cx e) l S hp stp ok live n) (i b mm : Nat) (F : List (Option AObj))
    (hb : ∀ s G, ((hp s).plus (F ++ G)).row b 0 = some (mm, 78, 1, false, [intA id, l0])) (hok : ∀ j x, lxs[j]? = some x → ok [placeA i j 0, x]) (K : Post) :
    ∀ m j s F', j + m = lxs.length → (∃ G, F' = F ++ G) → live s →
    ((runIt stp (lineIts i j (lxs.drop j)) s).1 = true → ∀ G, AtK K (.exit 2) ⟨34, [(0, .yld l), (1, .ro (.agg [ch]) 0), (8, ch), (9, intA xs.length), (10, intA i), (11, .v (.bool true)), (4, .ptr b 0 0), (3, intA i), (17, intA lxs.length), (18, intA lxs.length)], []⟩ ((hp (runIt stp (lineIts i j (lxs.drop j)) s).2).plus (F ++ G))) →
    ((runIt stp (lineIts i j (lxs.drop j)) s).1 = false → ∀ G tl, AtK K .ret ⟨34, tl, []⟩ ((hp (runIt stp (lineIts i j (lxs.drop j)) s).2).plus (F ++ G))) →
    Lp (Cx e) 97 none [0, 1, 8, 9, 10, 11, 4, 3, 17, 18] (body88 1) ⟨34, [(0, .yld l), (1, .ro (.agg [ch]) 0), (8, ch), (9, intA xs.length), (10, intA i), (11, .v (.bool true)), (4, .ptr b 0 0), (3, intA i), (17, intA lxs.length), (18, intA j)], []⟩ ((hp s).plus F') K := by
  have hn := hsrc.size
  intro m
  induction m with
  | zero =>
    intro j s F' hj hF hli h1 h2
    obtain ⟨G0, rfl⟩ := hF
    rw [Lp_step]
    generalize hK : loopK (Cx e) 97 none [0, 1, 8, 9, 10, 11, 4, 3, 17, 18] (body88 1) _ K = KK
    unfold body88
    obtain rfl : j = lxs.length := by omega
    simp only [Try.f97, loops, Option.map_some, Option.getD_some, List.nil_append, List.append_nil, List.cons_append, List.getElem?_cons_zero, List.getElem?_cons_succ]
    simp -implicitDefEqProofs only [go_sem, ↓reduceIte, intA, Int.lt_irrefl, plus_size, hn, settle_none (hn _)]
    subst hK
    simp -implicitDefEqProofs only [go_sem, ↓reduceIte, plus_size, hn]
    rw [List.drop_of_length_le (Nat.le_refl _)] at h1 h2
    have : ((hp s).plus (F ++ G0)).trim (n + (F ++ G0).length) = fun vs ms => (hp s).plus (F ++ G0) := by
      funext vs ms
      rw [show n + (F ++ G0).length = ((hp s).plus (F ++ G0)).size by rw [plus_size, hn]]; exact trim_size _ _ _
    rw [this]
    exact h1 rfl G0
  | succ m ih =>
    intro j s F' hj hF hli h1 h2
    obtain ⟨G0, hG0⟩ := hF
    have hrow : ∀ s, ((hp s).plus F').row b 0 = some (mm, 78, 1, false, [.v (.int .i64 id), l0]) := fun s => by rw [hG0]; exact hb s G0
    obtain ⟨x, hx⟩ := at_lt lxs j (by omega)
    have hxc := hlc x (List.mem_of_getElem? hx)
    have hdr := lineIts_drop i lxs j x hx
    obtain ⟨G1, hR⟩ := hsrc.round s [placeA i j 0, x] F' hli (hok j x hx)
    unfold placeA intA at hR
    have hlt : (j : Int) < ((lxs.length : Nat) : Int) := by omega
    have hw := wrap_succ j (by omega)
    rw [Lp_step]
    generalize hK : loopK (Cx e) 97 none [0, 1, 8, 9, 10, 11, 4, 3, 17, 18] (body88 1) _ K = KK
    unfold body88
    simp only [Try.f97, loops, Option.map_some, Option.getD_some, List.nil_append, List.append_nil, List.cons_append, List.getElem?_cons_zero, List.getElem?_cons_succ]
    obtain ⟨G2, hS⟩ := settle_plus (H := hp (stp s [placeA i j 0, x]).2) F' G1 (n := n + F'.length) (by rw [hn])
    unfold placeA intA at hS
    rw [hdr] at h1 h2
    unfold runIt at h1 h2
    by_cases hst : (stp s [placeA i j 0, x]).1 = true
    · have hlv := hsrc.step s _ hli (hok j x hx) hst
      rw [hst] at h1 h2
      simp only [if_true] at h1 h2
      unfold placeA intA at hst
      rw [hst] at hR
      simp -implicitDefEqProofs only [go_sem, ↓reduceIte, intA, hlt, hw, plus_size, hn, settle_none (hn _), hrow, hl0.idx hx, hxc, hR, hS]
      subst hK
      simp -implicitDefEqProofs only [go_sem, ↓reduceIte, plus_size, hn]
      refine at_trim (fun X => Lp _ _ _ _ _ _ X _) (by simp only [hn]) fun G3 => ?_
      exact ih (j + 1) _ (F' ++ G3) (by omega) ⟨G0 ++ G3, by rw [hG0, List.append_assoc]⟩ hlv h1 h2
    · have hst' : (stp s [placeA i j 0, x]).1 = false := by simpa using hst
      rw [hst'] at h1 h2
      simp only [Bool.false_eq_true, if_false] at h1 h2
      unfold placeA intA at hst'
      rw [hst'] at hR
      simp -implicitDefEqProofs only [go_sem, ↓reduceIte, intA, hlt, hw, plus_size, hn, settle_none (hn _), hrow, hl0.idx hx, hxc, hR, hS]
      subst hK
      simp -implicitDefEqProofs only [go_sem, ↓reduceIte]
      rw [hG0, List.append_assoc]
      exact h2 trivial _ _
theorem lineIts_of (i : Nat) : ∀ (l : List AV) (k : Nat) (x : List AV), x ∈ lineIts i k l → ∃ j z, l[j]? = some z ∧ x = [placeA i (k + j) 0, z]
  | [], _, _, h => by simp [lineIts] at h
  | y :: r, k, x, h => by
    rcases List.mem_cons.1 h with rfl | h
    · exact ⟨0, y, rfl, rfl⟩
    · obtain ⟨j, z, h1, h2⟩ := lineIts_of i r (k + 1) x h
      exact ⟨j + 1, z, by simpa using h1, by rw [h2, show k + 1 + j = k + (j + 1) by omega]⟩
/-- a chapter in memory that nothing turns -/
def OkCh (y : AV) : Prop := ∃ id l0 lxs, y = .agg [intA id, l0] ∧ SlOf 1 lxs l0 ∧ (∀ x ∈ lxs, x.cells = [x]) ∧ lxs.length < 2 ^ 63
theorem chapIts_drop (xs : List AV) (i : Nat) (y : AV) (h : xs[i]? = some y) : chapIts i (xs.drop i) = lineIts i 0 (linesOf y) ++ chapIts (i + 1) (xs.drop (i + 1)) := by
  obtain ⟨hj, rfl⟩ := List.getElem?_eq_some_iff.1 h
  rw [List.drop_eq_getElem_cons hj]; rfl
set_option maxHeartbeats 4000000 in
theorem loop88a {e : Exts} (ch : AV) (xs : List AV) (hch : SlOf 2 xs ch) (hall : ∀ y ∈ xs, OkCh y) (hlen : xs.length < 2 ^ 63)
    (l : Nat) (S : Type) (hp : S → Heap) (stp : S → List AV → Bool × S) (ok : List AV → Prop) (live : S → Prop) (n : Nat) (hsrc : Src (Cx e) l S hp stp ok live n) (E : List (Option AObj))
    (hok : ∀ i y j x, xs[i]? = some y → (linesOf y)[j]? = some x → ok [placeA i j 0, x]) (K : Post) :
    ∀ m i s F, i + m = xs.length → (∃ G, F = E ++ G) → live s →
    ((runIt stp (chapIts i (xs.drop i)) s).1 = true → ∀ G, AtK K (.exit 0) ⟨34, [(0, .yld l), (1, .ro (.agg [ch]) 0), (8, ch), (9, intA xs.length), (10, intA xs.length)], []⟩ ((hp (runIt stp (chapIts i (xs.drop i)) s).2).plus (E ++ G))) →
    ((runIt stp (chapIts i (xs.drop i)) s).1 = false → ∀ G tl, AtK K .ret ⟨34, tl, []⟩ ((hp (runIt stp (chapIts i (xs.drop i)) s).2).plus (E ++ G))) →
    Lp (Cx e) 97 none [0, 1, 8, 9, 10] (body88 0) ⟨34, [(0, .yld l), (1, .ro (.agg [ch]) 0), (8, ch), (9, intA xs.length), (10, intA i)], []⟩ ((hp s).plus F) K := by
  have hn := hsrc.size
  have hlk : ∀ s, (hp s).lock ≤ n := fun s => by have := hsrc.lock s; have := hsrc.lt; omega
  intro m
  induction m with
  | zero =>
    intro j s F' hj hF hli h1 h2
    obtain ⟨G0, rfl⟩ := hF
    rw [Lp_step]
    generalize hK : loopK (Cx e) 97 none [0, 1, 8, 9, 10] (body88 0) _ K = KK
    unfold body88
    obtain rfl : j = xs.length := by omega
    simp only [Try.f97, loops, Option.map_some, Option.getD_some, List.nil_append, List.append_nil, List.cons_append, List.getElem?_cons_zero, List.getElem?_cons_succ]
    simp -implicitDefEqProofs only [go_sem, ↓reduceIte, intA, Int.lt_irrefl, plus_size, hn, settle_none (hn _)]
    subst hK
    simp -implicitDefEqProofs only [go_sem, ↓reduceIte, plus_size, hn]
    rw [List.drop_of_length_le (Nat.le_refl _)] at h1 h2
    have : ((hp s).plus (E ++ G0)).trim (n + (E ++ G0).length) = fun vs ms => (hp s).plus (E ++ G0) := by
      funext vs ms
      rw [show n + (E ++ G0).length = ((hp s).plus (E ++ G0)).size by rw [plus_size, hn]]; exact trim_size _ _ _
    rw [this]
    exact h1 rfl G0
  | succ m ih =>
    intro i s F hj hF hlv h1 h2
    obtain ⟨G0, hG0⟩ := hF
    obtain ⟨y, hy⟩ := at_lt xs i (by omega)
    have hdr := chapIts_drop xs i y hy
    obtain ⟨id, l0, lxs, rfl, hl0, hlc, hll⟩ := hall y (List.mem_of_getElem? hy)
    have hli : linesOf (.agg [intA id, l0]) = lxs := hl0.elems
    have hlt : (i : Int) < ((xs.length : Nat) : Int) := by omega
    have hw := wrap_succ i (by omega)
    rw [hdr, hli] at h1 h2
    rw [runIt_append] at h1 h2
    rw [Lp_step]
    generalize hK : loopK (Cx e) 97 none [0, 1, 8, 9, 10] (body88 0) _ K = KK
    unfold body88
    simp only [Try.f97, loops, Option.map_some, Option.getD_some, List.nil_append, List.append_nil, List.cons_append, List.getElem?_cons_zero, List.getElem?_cons_succ]
    simp -implicitDefEqProofs only [go_sem, ↓reduceIte, intA, hlt, hw, hch.len, hch.idx hy, hl0.len, hl0.cells, hl0.flat, hl0.bound, plus_size, hn, settle_none (hn _), plus_put_end (hn _), plus_store_end (hn _) (hlk _), settle_end (hn _), plus_row_at (hn _)]
    refine loop88b ch xs lxs id l0 hl0 hlc hll l S hp stp ok live n hsrc i (n + F.length) 0 (F ++ [some (.cells 0 0 78 1 false [intA id, l0])]) ?_ ?_ _ lxs.length 0 s _ (by omega) ⟨[], by rw [List.append_nil]; rfl⟩ hlv ?_ ?_
    · intro s G
      rw [List.append_assoc]
      exact plus_row_at (hn s) F G 0 0 0 78 1 false [intA id, l0]
    · intro j x hx
      exact hok i _ j x hy (by rw [hli]; exact hx)
    · intro hf G
      rw [List.drop_zero] at hf ⊢
      rw [hf] at h1 h2
      simp only [if_true] at h1 h2
      simp -implicitDefEqProofs only [go_sem, ↓reduceIte, intA, hw, plus_size, hn, settle_none (hn _)]
      subst hK
      simp -implicitDefEqProofs only [go_sem, ↓reduceIte, plus_size, hn]
      rw [List.append_assoc]
      have hlv2 : live (runIt stp (lineIts i 0 lxs) s).2 := runIt_live hsrc _ s (fun x hx => by
        obtain ⟨j, z, hz, rfl⟩ := lineIts_of i lxs 0 x hx
        rw [Nat.zero_add]
        exact hok i _ j z hy (by rw [hli]; exact hz)) hlv hf
      refine at_trim (fun X => Lp _ _ _ _ _ _ X _) (by simp only [hn]) fun G3 => ?_
      exact ih (i + 1) _ (F ++ G3) (by omega) ⟨G0 ++ G3, by rw [hG0, List.append_assoc]⟩ hlv2 h1 h2
    · intro hf G tl
      rw [List.drop_zero] at hf ⊢
      rw [hf] at h1 h2
      simp only [Bool.false_eq_true, if_false] at h1 h2
      subst hK
      simp -implicitDefEqProofs only [go_sem, ↓reduceIte]
      rw [hG0, List.append_assoc, List.append_assoc]
      exact h2 hf _ _
theorem fn_ex {C : Cfg} {f : FuncId} {args : List AV} {H : Heap} {K : PostO} (h : Fn' C f args H K) : ∃ v H', lim C (.call f args H) = some (.ret v H') ∧ K v H' := by
  unfold Fn' at h
  rw [bindO_iff] at h
  obtain ⟨o, h1, h2⟩ := h
  cases o with
  | ret v H' => exact ⟨v, H', h1, h2⟩
  | go => exact h2.elim
theorem lineIts_mem (i : Nat) : ∀ (l : List AV) (k j : Nat) (x : AV), l[j]? = some x → [placeA i (k + j) 0, x] ∈ lineIts i k l
  | [], _, j, _, h => by simp at h
  | y :: r, k, 0, x, h => by simp at h; subst h; simp [lineIts]
  | y :: r, k, j + 1, x, h => by
    have := lineIts_mem i r (k + 1) j x (by simpa using h)
    rw [show k + 1 + j = k + (j + 1) by omega] at this
    exact List.mem_cons_of_mem _ this
theorem chapIts_mem0 : ∀ (xs : List AV) (k i : Nat) (y : AV) (j : Nat) (x : AV), xs[i]? = some y → (linesOf y)[j]? = some x → [placeA (k + i) j 0, x] ∈ chapIts k xs
  | [], _, i, _, _, _, h, _ => by simp at h
  | z :: r, k, 0, y, j, x, h, hx => by
    simp at h; subst h
    have := lineIts_mem k (linesOf z) 0 j x hx
    rw [Nat.zero_add] at this
    exact List.mem_append_left _ this
  | z :: r, k, i + 1, y, j, x, h, hx => by
    have := chapIts_mem0 r (k + 1) i y j x (by simpa using h) hx
    rw [show k + 1 + i = k + (i + 1) by omega] at this
    exact List.mem_append_right _ this
theorem chapIts_mem (xs : List AV) (i : Nat) (y : AV) (j : Nat) (x : AV) (h : xs[i]? = some y) (hx : (linesOf y)[j]? = some x) : [placeA i j 0, x] ∈ chapIts 0 xs := by
  have := chapIts_mem0 xs 0 i y j x h hx
  rwa [Nat.zero_add] at this
set_option maxHeartbeats 4000000 in
theorem yields88 {e : Exts} (ch : AV) (xs : List AV) (hch : SlOf 2 xs ch) (hall : ∀ y ∈ xs, OkCh y) (hlen : xs.length < 2 ^ 63) : Yields (Cx e) 97 [.ro (.agg [ch]) 0] (chapIts 0 xs) := by
  intro l S hp stp ok live n hsrc hok s E hlv
  have hn := hsrc.size
  have key : Fn' (Cx e) 97 [.yld l, .ro (.agg [ch]) 0] ((hp s).plus E) fun v H' => v = .tup [] ∧ ∃ G, H' = (hp (runIt stp (chapIts 0 xs) s).2).plus (E ++ G) := by
    rw [fn_step (fn_97 e) (show Try.f97.body = some _ from rfl)]
    simp -implicitDefEqProofs only [Try.f97, intA, go_sem, ↓reduceIte, hch.len, hch.cells, plus_size, hn, settle_none (hn _)]
    refine loop88a ch xs hch hall hlen l S hp stp ok live n hsrc E ?_ _ xs.length 0 s E (by omega) ⟨[], (List.append_nil E).symm⟩ hlv ?_ ?_
    · intro i y j x hy hx
      exact hok _ (chapIts_mem xs i y j x hy hx)
    · intro hf G
      simp -implicitDefEqProofs only [go_sem, ↓reduceIte]
      exact ⟨rfl, G, rfl⟩
    · intro hf G tl
      simp -implicitDefEqProofs only [go_sem, ↓reduceIte]
      exact ⟨rfl, G, rfl⟩
  obtain ⟨v, H', h1, rfl, G, rfl⟩ := fn_ex key
  exact ⟨G, h1⟩
end Go.Ev
namespace Go.Ev
open Go.Proofs
set_option maxRecDepth 100000
set_option linter.unusedSimpArgs false
theorem freeze_cl {sz : Nat} {xs : List AV} {ch : AV} (h : SlOf sz xs ch) (f : FuncId) (t : TypeId) : freezeV ⟨[some (.cells 0 0 t 1 false [ch])], 0⟩ 1000000 (.fn (.func f) [] [.ptr 0 0 0]) = some (.fn (.func f) [] [.ro (.agg [ch]) 0]) := by
  rcases h with ⟨rfl, rfl⟩ | ⟨cap, rfl⟩
  · kernel_rfl
  · kernel_rfl
set_option maxHeartbeats 1000000 in
theorem ans64 {e : Exts} (ch : AV) (xs : List AV) (hch : SlOf 2 xs ch) : Ans (Cx e) 70 [.agg [ch]] (.fn (.func 97) [] [.ro (.agg [ch]) 0]) := by
  unfold Ans
  rw [fn_step (fn_70 e) (show Try.f70.body = some _ from rfl)]
  simp -implicitDefEqProofs only [Try.f70, intA, go_sem, ↓reduceIte, hch.cells, hch.flat, hch.bound, freeze_cl hch]
set_option maxHeartbeats 1000000 in
theorem ans41 {e : Exts} (ch : AV) (xs : List AV) (hch : SlOf 2 xs ch) : Ans (Cx e) 41 [.agg [ch]] (.fn (.func 69) [] [.ro (.agg [ch]) 0]) := by
  unfold Ans
  rw [fn_step (fn_41 e) (show Try.f41.body = some _ from rfl)]
  simp -implicitDefEqProofs only [Try.f41, intA, go_sem, ↓reduceIte, hch.cells, hch.flat, hch.bound, freeze_cl hch]
theorem call64 {e : Exts} (he : Quiet e) (ch : AV) (xs : List AV) (hch : SlOf 2 xs ch) (me : FuncId) (d : Option Tmp) (H : Heap) : callA (Cx e) (lim (Cx e)) me 70 d [.agg [ch]] H = some (.fn (.func 97) [] [.ro (.agg [ch]) 0], H) :=
  (ans64 ch xs hch).call (ext_70 he) (pure_70 _ _ _) (by simp only [boundL_cons, bound_agg, hch.bound, boundL_nil]; rfl) H
theorem call41 {e : Exts} (he : Quiet e) (ch : AV) (xs : List AV) (hch : SlOf 2 xs ch) (me : FuncId) (d : Option Tmp) (H : Heap) : callA (Cx e) (lim (Cx e)) me 41 d [.agg [ch]] H = some (.fn (.func 69) [] [.ro (.agg [ch]) 0], H) :=
  (ans41 ch xs hch).call (ext_41 he) (pure_41 _ _ _) (by simp only [boundL_cons, bound_agg, hch.bound, boundL_nil]; rfl) H
noncomputable def body63 (n : Nat) : Code := ((Try.f69.body.map loops).getD [])[n]?.getD .skip
def rangeOf : Code → Option (Code × Code)
  | .rangeFunc _ _ a b => some (a, b)
  | .seq a b => (rangeOf a).orElse fun _ => rangeOf b
  | .block _ a => rangeOf a
  | .scope a => rangeOf a
  | _ => none
noncomputable def asg63 : Code := ((Try.f69.body.bind rangeOf).getD (.skip, .skip)).1
noncomputable def bdy63 : Code := ((Try.f69.body.bind rangeOf).getD (.skip, .skip)).2
def placeB (a b : AV) (w : Int) : AV := .agg [a, b, intA w]
def wIts (a b : AV) : Nat → List AV → List (List AV)
  | _, [] => []
  | w, x :: r => [placeB a b w, x] :: wIts a b (w + 1) r
theorem wIts_drop (a b : AV) (xs : List AV) (j : Nat) (x : AV) (h : xs[j]? = some x) : wIts a b j (xs.drop j) = [placeB a b j, x] :: wIts a b (j + 1) (xs.drop (j + 1)) := by
  obtain ⟨hj, rfl⟩ := List.getElem?_eq_some_iff.1 h
  rw [List.drop_eq_getElem_cons hj]; rfl
theorem at_trim0 {H : Heap} {E : List (Option AObj)} {vs : List AV} {ms : List Nat} {n : Nat} (Q : Heap → Prop) (hn : n = H.size + E.length) (h : Q (H.plus E)) : Q ((H.plus E).trim n vs ms) := by
  subst hn; rw [← plus_size, trim_size]; exact h
theorem settle_eq {X : Heap} {n m : Nat} (hn : X.size = n) {E : List (Option AObj)} (h : m = n + E.length) : settleH m (X.plus E) = X.plus E := by
  subst hn; rw [h, ← plus_size]; exact settle_size _
set_option maxHeartbeats 400000 in
theorem loop63 {e : Exts} (ch lx : AV) (els : List AV) (hlx : SlOf 1 els lx) (hec : ∀ x ∈ els, x.cells = [x]) (hlen : els.length < 2 ^ 63) (rd : Option Nat)
    (l : Nat) (S : Type) (hp : S → Heap) (stp : S → List AV → Bool × S) (ok : List AV → Prop) (live : S → Prop) (n : Nat) (hsrc : Src (Cx e) l S hp stp ok live n) (E B : List (Option AObj)) (L : ALoop) (i k : Int) (p9 : AV)
    (hok : ∀ (j : Nat) x, els[j]? = some x → ok [placeB (intA i) (intA k) j, x]) (K : Post) :
    ∀ m j s G (w0 : Int), j + m = els.length → live s →
    ((runIt stp (wIts (intA i) (intA k) j (els.drop j)) s).1 = true → ∀ G w tl, AtK K (.exit 2) ⟨26, tl, []⟩ ((hq hp E l 128 ((runIt stp (wIts (intA i) (intA k) j (els.drop j)) s).2, L)).plus (B ++ some (.cells 0 0 26 1 false [intA i, intA k, intA w]) :: G))) →
    ((runIt stp (wIts (intA i) (intA k) j (els.drop j)) s).1 = false → ∀ G w tl, AtK K .ret ⟨26, tl, []⟩ ((hq hp E l 128 ((runIt stp (wIts (intA i) (intA k) j (els.drop j)) s).2, L)).plus (B ++ some (.cells 0 0 26 1 false [intA i, intA k, intA w]) :: G))) →
    Lp (Cx e) 69 rd [0, 1, 2, 8, 9, 10, 3, 4, 11, 12, 13] (body63 0) ⟨26, [(0, .yld l), (1, .ro (.agg [ch]) 0), (2, .ptr (n + E.length) 0 0), (8, .fn (.func 97) [] [.ro (.agg [ch]) 0]), (9, p9), (10, lx), (3, .ptr (n + E.length + 3 + B.length) 0 0), (4, lx), (11, lx), (12, intA els.length), (13, intA j)], []⟩
      ((hq hp E l 128 (s, L)).plus (B ++ some (.cells 0 0 26 1 false [intA i, intA k, intA w0]) :: G)) K := by
  have hn : ∀ q, (hq hp E l 128 q).size = n + E.length + 3 := hq_size hsrc E
  have hlk : ∀ q, (hq hp E l 128 q).lock ≤ n + E.length + 3 := fun q => by have := hq_lock (t := 128) hsrc E q; omega
  have hrow := fun q B => hq_row (t := 128) hsrc E q B
  intro m
  induction m with
  | zero =>
    intro j s G w0 hj hli h1 h2
    rw [Lp_step]
    generalize hK : loopK (Cx e) 69 rd _ (body63 0) _ K = KK
    unfold body63
    obtain rfl : j = els.length := by omega
    simp only [Try.f69, loops, Option.map_some, Option.getD_some, List.nil_append, List.append_nil, List.cons_append, List.getElem?_cons_zero, List.getElem?_cons_succ]
    simp -implicitDefEqProofs only [go_sem, ↓reduceIte, intA, Int.lt_irrefl, plus_size, hn, settle_none (hn _)]
    subst hK
    simp -implicitDefEqProofs only [go_sem, ↓reduceIte, plus_size, hn]
    rw [List.drop_of_length_le (Nat.le_refl _)] at h1 h2
    refine at_trim0 (fun X => AtK _ _ _ X) (by simp only [hn, intA]) ?_
    exact h1 rfl G w0 _
  | succ m ih =>
    intro j s G w0 hj hli h1 h2
    obtain ⟨x, hx⟩ := at_lt els j (by omega)
    have hxc := hec x (List.mem_of_getElem? hx)
    have hdr := wIts_drop (intA i) (intA k) els j x hx
    obtain ⟨G1, hR⟩ := hq_round (t := 128) hsrc E s L (B ++ some (.cells 0 0 26 1 false [intA i, intA k, intA j]) :: G) [placeB (intA i) (intA k) j, x] hli (hok j x hx)
    have hlt : (j : Int) < ((els.length : Nat) : Int) := by omega
    have hw := wrap_succ j (by omega)
    rw [Lp_step]
    generalize hK : loopK (Cx e) 69 rd _ (body63 0) _ K = KK
    unfold body63
    simp only [Try.f69, loops, Option.map_some, Option.getD_some, List.nil_append, List.append_nil, List.cons_append, List.getElem?_cons_zero, List.getElem?_cons_succ]
    rw [hdr] at h1 h2
    unfold runIt at h1 h2
    obtain ⟨G2, hS⟩ := settle_plus (H := hq hp E l 128 ((stp s [placeB (intA i) (intA k) j, x]).2, L)) (B ++ some (.cells 0 0 26 1 false [intA i, intA k, intA j]) :: G) G1 (n := n + E.length + 3 + (B ++ some (.cells 0 0 26 1 false [intA i, intA k, intA j]) :: G).length) (by rw [hn])
    have hst0 := fun (w : Int) (xs : List AV) (off : Nat) => plus_store_mid (hn (s, L)) (hlk (s, L)) B G 0 0 26 1 false [.v (.int .i64 i), .v (.int .i64 k), .v (.int .i64 w)] off xs
    have hset : ∀ w w' : Int, settleH (n + E.length + 3 + (B ++ some (.cells 0 0 26 1 false [.v (.int .i64 i), .v (.int .i64 k), .v (.int .i64 w)]) :: G).length) ((hq hp E l 128 (s, L)).plus (B ++ some (.cells 0 0 26 1 false [.v (.int .i64 i), .v (.int .i64 k), .v (.int .i64 w')]) :: G)) = (hq hp E l 128 (s, L)).plus (B ++ some (.cells 0 0 26 1 false [.v (.int .i64 i), .v (.int .i64 k), .v (.int .i64 w')]) :: G) :=
      fun w w' => settle_eq (hn _) (by simp)
    have hrw := fun (w : Int) => plus_row_at (hn (s, L)) B G 0 0 0 26 1 false [.v (.int .i64 i), .v (.int .i64 k), .v (.int .i64 w)]
    by_cases hst : (stp s [placeB (intA i) (intA k) j, x]).1 = true
    · rw [hst] at hR
      unfold placeB intA at hR hS
      simp -implicitDefEqProofs only [go_sem, ↓reduceIte, intA, hlt, hw, plus_size, hn, hset, settle_none (hn _), hrow, hlx.idx hx, hxc, hst0, hrw, hR, hS, nmax]
      subst hK
      simp -implicitDefEqProofs only [go_sem, ↓reduceIte, plus_size, hn]
      refine at_trim (fun X => Lp _ _ _ _ _ _ X _) (by simp only [hn]; simp) fun G3 => ?_
      have hlv := hsrc.step s _ hli (hok j x hx) hst
      rw [hst] at h1 h2
      simp only [if_true] at h1 h2
      rw [List.append_assoc, List.cons_append]
      exact ih (j + 1) _ (G ++ G3) j (by omega) hlv h1 h2
    · have hst' : (stp s [placeB (intA i) (intA k) j, x]).1 = false := by simpa using hst
      rw [hst'] at h1 h2 hR
      simp only [Bool.false_eq_true, if_false] at h1 h2
      unfold placeB intA at hR hS
      simp -implicitDefEqProofs only [go_sem, ↓reduceIte, intA, hlt, hw, plus_size, hn, hset, settle_none (hn _), hrow, hlx.idx hx, hxc, hst0, hrw, hR, hS, nmax]
      subst hK
      simp -implicitDefEqProofs only [go_sem, ↓reduceIte]
      rw [List.append_assoc, List.cons_append]
      exact h2 trivial _ _ _
end Go.Ev
namespace Go.Ev
open Go.Proofs
set_option maxRecDepth 100000
set_option linter.unusedSimpArgs false
theorem setT_nil (n : Nat) (t : List (Tmp × AV)) : setTmps n t [] = t := rfl
theorem setT_cons (n : Nat) (t : List (Tmp × AV)) (d : Tmp) (v : AV) (r : List (Tmp × AV)) : setTmps n t ((d, v) :: r) = setTmps n (if d < n then setAssoc d v t else t) r := rfl
def lr63 (ch : AV) (l n d : Nat) (st : LoopState) (pd : Option Code) (a b : Code) : ALoop := { fn := 69, state := st, pending := pd, size := 26, tmps := [(0, .yld l), (1, .ro (.agg [ch]) 0), (2, .ptr n 0 0), (8, .fn (.func 97) [] [.ro (.agg [ch]) 0])], params := #[9, 10], assign := a, body := b, dfr := d }
noncomputable def lp63 (ch : AV) (l n : Nat) (done : Bool) : ALoop := lr63 ch l n (n + 1) (if done then .done else .ready) (if done then some .ret else none) asg63 bdy63
noncomputable def hp63 {S : Type} (hp : S → Heap) (E : List (Option AObj)) (ch : AV) (l n : Nat) (q : S × Bool) : Heap := hq hp E l 128 (q.1, lp63 ch l (n + E.length) q.2)
def stp63 {S : Type} (stp : S → List AV → Bool × S) (q : S × Bool) (x : List AV) : Bool × (S × Bool) :=
  match x with
  | [.agg [a, b, _], lx] => ((runIt stp (wIts a b 0 (slElems lx)) q.1).1, ((runIt stp (wIts a b 0 (slElems lx)) q.1).2, !(runIt stp (wIts a b 0 (slElems lx)) q.1).1))
  | _ => (true, q)
def ok63 (ok : List AV → Prop) (x : List AV) : Prop := ∃ (i k : Nat) (lx : AV) (els : List AV), x = [placeA i k 0, lx] ∧ SlOf 1 els lx ∧ (∀ z ∈ els, z.cells = [z]) ∧ els.length < 2 ^ 63 ∧ ∀ (j : Nat) z, els[j]? = some z → ok [placeB (intA i) (intA k) j, z]
theorem wIts_of (a b : AV) : ∀ (l : List AV) (k : Nat) (x : List AV), x ∈ wIts a b k l → ∃ j z, l[j]? = some z ∧ x = [placeB a b ((k + j : Nat) : Int), z]
  | [], _, _, h => by simp [wIts] at h
  | y :: r, k, x, h => by
    rcases List.mem_cons.1 h with rfl | h
    · exact ⟨0, y, rfl, rfl⟩
    · obtain ⟨j, z, h1, h2⟩ := wIts_of a b r (k + 1) x h
      exact ⟨j + 1, z, by simpa using h1, by rw [h2, show k + 1 + j = k + (j + 1) by omega]⟩
set_option maxHeartbeats 1000000 in
theorem src63 {e : Exts} (ch : AV) (l : Nat) (S : Type) (hp : S → Heap) (stp : S → List AV → Bool × S) (ok : List AV → Prop) (live : S → Prop) (n : Nat) (hsrc : Src (Cx e) l S hp stp ok live n) (E : List (Option AObj)) :
    Src (Cx e) (n + E.length + 2) (S × Bool) (hp63 hp E ch l n) (stp63 stp) (ok63 ok) (fun q => live q.1 ∧ q.2 = false) (n + E.length + 3) := by
  refine ⟨fun q => hq_size hsrc E _, by omega, fun q => by have := hq_lock (t := 128) hsrc E (q.1, lp63 ch l (n + E.length) q.2); unfold hp63; omega, ?_, ?_⟩
  · rintro ⟨s, d⟩ x ⟨hl, -⟩ ⟨i, k, lx, els, rfl, hlx, hec, hlen, hok⟩ h
    simp only [stp63, placeA, hlx.elems] at h ⊢
    refine ⟨runIt_live hsrc _ s (fun y hy => ?_) hl h, by rw [h]; rfl⟩
    obtain ⟨j, z, hz, rfl⟩ := wIts_of _ _ els 0 y hy
    rw [Nat.zero_add]; exact hok j z hz
  · rintro ⟨s, d⟩ x B ⟨hl, hd⟩ ⟨i, k, lx, els, rfl, hlx, hec, hlen, hok⟩
    simp only at hd hl
    subst hd
    have hn : ∀ q, (hq hp E l 128 q).size = n + E.length + 3 := hq_size hsrc E
    have hlk : ∀ q, (hq hp E l 128 q).lock ≤ n + E.length + 3 := fun q => by have := hq_lock (t := 128) hsrc E q; omega
    have key := round_step (C := Cx e) (l := n + E.length + 2) (args := [placeA i k 0, lx]) (H := (hp63 hp E ch l n (s, false)).plus B) (r := lp63 ch l (n + E.length) false)
      (K := fun b H' => b = (stp63 stp (s, false) [placeA i k 0, lx]).1 ∧ ∃ G, H' = (hp63 hp E ch l n (stp63 stp (s, false) [placeA i k 0, lx]).2).plus (B ++ G))
      (hq_loop hsrc E _ B) rfl (by unfold hp63; rw [plus_lock]; have := hq_lock (t := 128) hsrc E (s, lp63 ch l (n + E.length) false); simp only; omega) ?_
    · obtain ⟨b, H', h1, rfl, G, rfl⟩ := key
      exact ⟨G, h1⟩
    · have hps := plus_put_end (hn (s, lp63 ch l (n + E.length) false)) B
      have hst := plus_store_end (hn (s, lp63 ch l (n + E.length) false)) (hlk _) B
      have hse := settle_end (hn (s, lp63 ch l (n + E.length) false)) B
      unfold hp63
      rw [plus_size, hn]
      show Wp (Cx e) 69 (some (n + E.length + 2)) asg63 ⟨26, setTmps 26 [(0, .yld l), (1, .ro (.agg [ch]) 0), (2, .ptr (n + E.length) 0 0), (8, .fn (.func 97) [] [.ro (.agg [ch]) 0])] ([9, 10].zip [placeA i k 0, lx]), []⟩ ((hq hp E l 128 (s, lp63 ch l (n + E.length) false)).plus B) _
      generalize hKK : asgK _ _ _ _ _ = KK
      unfold asg63
      simp only [Try.f69, rangeOf, Option.bind_some, Option.orElse_some, Option.orElse_none, Option.getD_some]
      simp -implicitDefEqProofs only [go_sem, ↓reduceIte, intA, placeA, List.zip_cons_cons, List.zip_nil_right, List.zip_nil_left, setT_nil, setT_cons, plus_size, hn, hps, hst, hse, settle_none (hn _), nmax]
      subst hKK
      refine asgK_mk (hq_loop hsrc E _ _) rfl ?_
      rw [hq_put hsrc]
      show Wp (Cx e) 69 (some (n + E.length + 2)) bdy63 _ _ _
      generalize hKK : bodyK _ _ _ = KK
      unfold bdy63
      simp only [Try.f69, rangeOf, Option.bind_some, Option.orElse_some, Option.orElse_none, Option.getD_some]
      simp -implicitDefEqProofs only [go_sem, ↓reduceIte, intA, hlx.len, plus_size, hn, settle_none (hn _)]
      refine loop63 ch lx els hlx hec hlen _ l S hp stp ok live n hsrc E B _ i k _ hok _ els.length 0 s [] 0 (by omega) hl ?_ ?_
      · intro hf G w tl
        subst hKK
        simp -implicitDefEqProofs only [go_sem, ↓reduceIte]
        rw [List.drop_zero] at hf
        refine bodyK_mk (hq_loop hsrc E _ _) rfl ?_
        rw [hq_put hsrc]
        have e1 : stp63 stp (s, false) [placeA i k 0, lx] = (true, ((runIt stp (wIts (intA i) (intA k) 0 els) s).2, false)) := by
          simp only [stp63, placeA, hlx.elems, hf]; rfl
        rw [e1]
        refine ⟨rfl, ?_⟩
        exact trim_plus (H := hq hp E l 128 _) B _ [] [] (by rw [hn])
      · intro hf G w tl
        subst hKK
        simp -implicitDefEqProofs only [go_sem, ↓reduceIte]
        rw [List.drop_zero] at hf
        refine bodyK_mk (hq_loop hsrc E _ _) rfl ?_
        rw [hq_put hsrc]
        have e1 : stp63 stp (s, false) [placeA i k 0, lx] = (false, ((runIt stp (wIts (intA i) (intA k) 0 els) s).2, true)) := by
          simp only [stp63, placeA, hlx.elems, hf]; rfl
        rw [e1]
        refine ⟨rfl, ?_⟩
        exact trim_plus (H := hq hp E l 128 _) B _ [] [] (by rw [hn])
end Go.Ev
namespace Go.Ev
open Go.Proofs
set_option maxRecDepth 100000
set_option linter.unusedSimpArgs false
def expandL (x : List AV) : List (List AV) := match x with | [.agg [a, b, _], lx] => wIts a b 0 (slElems lx) | _ => []
def allIts (xs : List AV) : List (List AV) := (chapIts 0 xs).flatMap expandL
theorem runIt_cons {S : Type} (stp : S → List AV → Bool × S) (x : List AV) (r : List (List AV)) (s : S) : runIt stp (x :: r) s = if (stp s x).1 then runIt stp r (stp s x).2 else (false, (stp s x).2) := rfl
theorem run63 {S : Type} (stp : S → List AV → Bool × S) : ∀ (items : List (List AV)) (s : S), (∀ x ∈ items, ∃ (i k : Nat) (lx : AV), x = [placeA i k 0, lx]) →
    runIt (stp63 stp) items (s, false) = ((runIt stp (items.flatMap expandL) s).1, ((runIt stp (items.flatMap expandL) s).2, !(runIt stp (items.flatMap expandL) s).1))
  | [], s, _ => rfl
  | x :: r, s, h => by
    obtain ⟨i, k, lx, rfl⟩ := h x List.mem_cons_self
    have ih := run63 stp r
    rw [List.flatMap_cons, runIt_append]
    have e1 : expandL [placeA i k 0, lx] = wIts (intA i) (intA k) 0 (slElems lx) := rfl
    have e2 : stp63 stp (s, false) [placeA i k 0, lx] = ((runIt stp (wIts (intA i) (intA k) 0 (slElems lx)) s).1, ((runIt stp (wIts (intA i) (intA k) 0 (slElems lx)) s).2, !(runIt stp (wIts (intA i) (intA k) 0 (slElems lx)) s).1)) := rfl
    rw [e1, runIt_cons, e2]
    by_cases hq : (runIt stp (wIts (intA i) (intA k) 0 (slElems lx)) s).1 = true
    · simp only [hq, if_true, Bool.not_true]
      exact ih _ fun y hy => h y (List.mem_cons_of_mem _ hy)
    · have hq' : (runIt stp (wIts (intA i) (intA k) 0 (slElems lx)) s).1 = false := by simpa using hq
      simp only [hq', Bool.false_eq_true, if_false, Bool.not_false]
/-- a chapter of lines of texts in memory that nothing turns -/
def OkCh2 (y : AV) : Prop := ∃ id l0 lxs, y = .agg [intA id, l0] ∧ SlOf 1 lxs l0 ∧ lxs.length < 2 ^ 63 ∧ ∀ x ∈ lxs, ∃ els, SlOf 1 els x ∧ (∀ z ∈ els, z.cells = [z]) ∧ els.length < 2 ^ 63
theorem OkCh2.ok {y : AV} (h : OkCh2 y) : OkCh y := by
  obtain ⟨id, l0, lxs, h1, h2, h3, h4⟩ := h
  exact ⟨id, l0, lxs, h1, h2, fun x hx => by obtain ⟨els, h5, -⟩ := h4 x hx; exact h5.cells, h3⟩
theorem chapIts_of : ∀ (xs : List AV) (k : Nat) (x : List AV), x ∈ chapIts k xs → ∃ i y j z, xs[i]? = some y ∧ (linesOf y)[j]? = some z ∧ x = [placeA (k + i) j 0, z]
  | [], _, _, h => by simp [chapIts] at h
  | y :: r, k, x, h => by
    rcases List.mem_append.1 h with h | h
    · obtain ⟨j, z, h1, rfl⟩ := lineIts_of k _ 0 x h
      exact ⟨0, y, j, z, rfl, h1, by rw [Nat.zero_add]; rfl⟩
    · obtain ⟨i, y', j, z, h1, h2, rfl⟩ := chapIts_of r (k + 1) x h
      exact ⟨i + 1, y', j, z, by simpa using h1, h2, by rw [show k + 1 + i = k + (i + 1) by omega]⟩
theorem expand_mem {items : List (List AV)} {x y : List AV} (hx : x ∈ items) (hy : y ∈ expandL x) : y ∈ items.flatMap expandL := List.mem_flatMap.2 ⟨x, hx, hy⟩
theorem wIts_mem (a b : AV) : ∀ (l : List AV) (k j : Nat) (x : AV), l[j]? = some x → [placeB a b ((k + j : Nat) : Int), x] ∈ wIts a b k l
  | [], _, j, _, h => by simp at h
  | y :: r, k, 0, x, h => by simp at h; subst h; simp [wIts]
  | y :: r, k, j + 1, x, h => by
    have := wIts_mem a b r (k + 1) j x (by simpa using h)
    rw [show k + 1 + j = k + (j + 1) by omega] at this
    exact List.mem_cons_of_mem _ this
theorem begin_loop {X : Heap} {n : Nat} (hn : X.size = n) (E : List (Option AObj)) (l t : Nat) (L : ALoop) : (((X.plus (E ++ [some (wBox l t)])).put (n + E.length + 1) .dfr).put (n + E.length + 2) (.loop L)) = X.plus (E ++ [some (wBox l t), some .dfr, some (.loop L)]) := by
  have h1 := plus_put_end hn (E ++ [some (wBox l t)]) .dfr
  rw [show n + (E ++ [some (wBox l t)]).length = n + E.length + 1 by simp; omega] at h1
  rw [h1]
  have h2 := plus_put_end hn (E ++ [some (wBox l t)] ++ [some .dfr]) (.loop L)
  rw [show n + (E ++ [some (wBox l t)] ++ [some AObj.dfr]).length = n + E.length + 2 by simp; omega] at h2
  rw [h2]; simp
set_option maxHeartbeats 1000000 in
theorem yields63 {e : Exts} (he : Quiet e) (ch : AV) (xs : List AV) (hch : SlOf 2 xs ch) (hall : ∀ y ∈ xs, OkCh2 y) (hlen : xs.length < 2 ^ 63) : Yields (Cx e) 69 [.ro (.agg [ch]) 0] (allIts xs) := by
  intro l S hp stp ok live n hsrc hok s E hlv
  have hn := hsrc.size
  have hlk : ∀ s, (hp s).lock ≤ n := fun s => by have := hsrc.lock s; have := hsrc.lt; omega
  have hok63 : ∀ x ∈ chapIts 0 xs, ok63 ok x := by
    intro x hx
    obtain ⟨i, y, j, z, hy, hz, rfl⟩ := chapIts_of xs 0 x hx
    obtain ⟨id, l0, lxs, rfl, hl0, -, hlx⟩ := hall y (List.mem_of_getElem? hy)
    have hz' : lxs[j]? = some z := by rw [← hl0.elems]; exact hz
    obtain ⟨els, h1, h2, h3⟩ := hlx z (List.mem_of_getElem? hz')
    rw [Nat.zero_add] at hx ⊢
    refine ⟨i, j, z, els, rfl, h1, h2, h3, fun w u hu => hok _ (expand_mem hx ?_)⟩
    show _ ∈ wIts (intA i) (intA j) 0 (slElems z)
    rw [h1.elems]
    have := wIts_mem (intA i) (intA j) els 0 w u hu
    rwa [Nat.zero_add] at this
  obtain ⟨G, hG⟩ := yields88 (e := e) ch xs hch (fun y hy => (hall y hy).ok) hlen (n + E.length + 2) (S × Bool) _ _ _ _ _ (src63 ch l S hp stp ok live n hsrc E) hok63 (s, false) [] ⟨hlv, rfl⟩
  rw [run63 stp _ s (fun x hx => by obtain ⟨i, k, lx, els, h1, -⟩ := hok63 x hx; exact ⟨i, k, lx, h1⟩)] at hG
  generalize hq0 : runIt stp ((chapIts 0 xs).flatMap expandL) s = q at hG
  have hcb := callB_yld (C := Cx e) (me := 69) (d := none) (l := n + E.length + 2) (by simp) hG
  obtain ⟨G', hG'⟩ := trim_plus (H := hp63 hp E ch l n (q.2, !q.1)) [] G [.tup []] [] (n := ((hp63 hp E ch l n (s, false)).plus []).size) (by rw [plus_size]; unfold hp63; rw [hq_size hsrc, hq_size hsrc])
  rw [hG', List.nil_append] at hcb
  have key : Fn' (Cx e) 69 [.yld l, .ro (.agg [ch]) 0] ((hp s).plus E) fun v H' => v = .tup [] ∧ ∃ G, H' = (hp (runIt stp (allIts xs) s).2).plus (E ++ G) := by
    rw [fn_step (fn_69 e) (show Try.f69.body = some _ from rfl)]
    simp -implicitDefEqProofs only [Try.f69, intA, go_sem, ↓reduceIte, hch.cells, hch.flat, hch.bound, plus_size, hn, settle_none (hn _), plus_put_end (hn _), settle_end (hn _), plus_row_at (hn _), call64 he ch xs hch]
    have hsz : ((hp s).plus (E ++ [some (AObj.cells 0 (bound (.yld l)) 128 1 false [.yld l])])).size = n + E.length + 1 := by rw [plus_size, hn]; simp; omega
    have hbeg := begin_loop (hn s) E l 128
    have hq1 : (hp63 hp E ch l n (q.2, !q.1)).plus G' = (hq hp E l 128 (q.2, lp63 ch l (n + E.length) (!q.1))).plus G' := rfl
    have hend : ∃ G2, ((((hp63 hp E ch l n (q.2, !q.1)).plus G').put (n + E.length + 2) .dead).put (n + E.length + 1) .dead) = (hp q.2).plus (E ++ G2) ∧ (((hp63 hp E ch l n (q.2, !q.1)).plus G').put (n + E.length + 2) .dead).get (n + E.length + 1) = some .dfr ∧ (((hp63 hp E ch l n (q.2, !q.1)).plus G').put (n + E.length + 2) .dead).lock ≤ n + E.length + 1 := by
      have hA : (hp63 hp E ch l n (q.2, !q.1)).plus G' = (hp q.2).plus ((E ++ [some (wBox l 128), some .dfr]) ++ some (.loop (lp63 ch l (n + E.length) (!q.1))) :: G') := by
        unfold hp63 hq; rw [plus_plus]; simp
      have h1 := plus_mid_put (hn q.2) (E ++ [some (wBox l 128), some .dfr]) G' (some (.loop (lp63 ch l (n + E.length) (!q.1)))) .dead
      rw [show n + (E ++ [some (wBox l 128), some AObj.dfr]).length = n + E.length + 2 by simp; omega] at h1
      rw [hA, h1]
      have hB : (E ++ [some (wBox l 128), some AObj.dfr]) ++ some .dead :: G' = (E ++ [some (wBox l 128)]) ++ some .dfr :: some .dead :: G' := by simp
      have hl1 : n + (E ++ [some (wBox l 128)]).length = n + E.length + 1 := by simp; omega
      have h2 := plus_mid_put (hn q.2) (E ++ [some (wBox l 128)]) (some .dead :: G') (some .dfr) .dead
      have h3 := plus_mid_get (hn q.2) (E ++ [some (wBox l 128)]) (some .dead :: G') (some .dfr)
      rw [hl1] at h2 h3
      rw [hB, h2, h3]
      refine ⟨some (wBox l 128) :: some .dead :: some .dead :: G', by simp, rfl, ?_⟩
      rw [plus_lock]; have := hlk q.2; omega
    obtain ⟨G2, he1, he2, he3⟩ := hend
    have hkill : killAll [n + E.length + 1] (((hp63 hp E ch l n (q.2, !q.1)).plus G').put (n + E.length + 2) .dead) = some ((hp q.2).plus (E ++ G2)) := by
      unfold killAll; rw [he2]; simp only; rw [if_pos he3, he1]; rfl
    refine wp_range0 (f := 97) (first := []) (cap := [.ro (.agg [ch]) 0]) rfl (v := .tup []) (H2 := (hp63 hp E ch l n (q.2, !q.1)).plus G') ?_ (r := lp63 ch l (n + E.length) (!q.1)) ?_ ?_ ?_ ?_
    · rw [hsz]
      have hh : hp63 hp E ch l n (s, false) = (hp s).plus (E ++ [some (wBox l 128), some .dfr, some (.loop (lp63 ch l (n + E.length) false))]) := rfl
      rw [plus_nil, hh, ← hbeg] at hcb
      exact hcb
    · rw [hsz, hq1]; exact hq_loop hsrc E _ G'
    · unfold lp63 lr63; cases q.1 <;> simp
    · rw [hsz]; rfl
    · rw [hsz]
      have hfin : ∀ (ex : AExit), ex = .normal ∨ ex = .ret → AtK (blkK 0 (finK (Cx e) [] fun v H' => v = .tup [] ∧ ∃ G, H' = (hp (runIt stp (allIts xs) s).2).plus (E ++ G))) ex ⟨26, [(0, .yld l), (1, .ro (.agg [ch]) 0), (2, .ptr (n + E.length) 0 0), (8, .fn (.func 97) [] [.ro (.agg [ch]) 0])], [n + E.length + 1]⟩ (((hp63 hp E ch l n (q.2, !q.1)).plus G').put (n + E.length + 2) .dead) := by
        rintro ex (rfl | rfl)
        · simp -implicitDefEqProofs only [go_sem, ↓reduceIte, hkill]
          exact ⟨rfl, G2, by unfold allIts; rw [hq0]⟩
        · simp -implicitDefEqProofs only [go_sem, ↓reduceIte, hkill]
          exact ⟨rfl, G2, by unfold allIts; rw [hq0]⟩
      cases hb : q.1
      · rw [hb] at hfin; exact hfin .ret (Or.inr rfl)
      · rw [hb] at hfin; exact hfin .normal (Or.inl rfl)
  obtain ⟨v, H', h1, rfl, G, rfl⟩ := fn_ex key
  exact ⟨G, h1⟩
end Go.Ev
namespace Go.Ev
open Go.Proofs
set_option maxRecDepth 100000
set_option linter.unusedSimpArgs false
/-! ### calls on memory that is there -/
theorem call_k2 {C : Cfg} {me f : FuncId} {d : Option Tmp} {args : List AV} {H : Heap} {x : Value} (hx : C.ext f = none) (hp : C.pure me f d = true) (hb : Nat.beq (boundL args) 0 = false) (hy : args.any isYld = false)
    (h : Fn' C f args { H with lock := H.size } fun v _ => v = .v x) : callA C (lim C) me f d args H = some (.v x, H) := by
  obtain ⟨v, H', h1, rfl⟩ := fn_ex h
  have hk : callKind C me f d args = 2 := by unfold callKind; rw [hp, hb, hy]; rfl
  unfold callA; rw [hx]; simp only
  unfold callB; rw [hk]; simp only [h1]
  rfl
theorem call_k0 {C : Cfg} {me f : FuncId} {d : Option Tmp} {args : List AV} {H : Heap} {x : Value} (hx : C.ext f = none) (hp : C.pure me f d = false)
    (h : Fn' C f args H fun v H' => v = .v x ∧ H' = H) : callA C (lim C) me f d args H = some (.v x, H) := by
  obtain ⟨v, H', h1, rfl, rfl⟩ := fn_ex h
  have hk : callKind C me f d args = 0 := by unfold callKind; rw [hp]; rfl
  unfold callA; rw [hx]; simp only
  unfold callB; rw [hk]; simp only [h1, trim_size]
set_option maxHeartbeats 1000000 in
theorem ans51 {e : Exts} (he : Quiet e) (n : Int) : Ans (Cx e) 63 [intA n] (.v (.bool (withinB 0 9999 [n]))) := by
  unfold Ans
  rw [fn_step (fn_63 e) (show Try.f63.body = some _ from rfl)]
  have hc := call69 he 0 9999 [n] (by simp) (.vs 1 [.v (.int .i64 n)] (some 1)) (Or.inr ⟨_, rfl⟩)
  unfold intA at hc
  simp -implicitDefEqProofs only [Try.f63, intA, go_sem, ↓reduceIte, hc]
theorem callI51 {e : Exts} (he : Quiet e) (n : Int) (me : FuncId) (d : Option Tmp) : callI (Cx e) me 63 d [.v (.int .i64 n)] = some (.v (.bool (withinB 0 9999 [n]))) :=
  (ans51 he n).callI (ext_63 he) (pure_63 _ _ _) rfl
set_option maxHeartbeats 1000000 in
theorem ans82 {e : Exts} (he : Quiet e) (n : Int) : Ans (Cx e) 81 [.vs 1 [intA n] (some 1)] (.v (.bool (withinB 1 10 [n]))) := by
  unfold Ans
  rw [fn_step (fn_81 e) (show Try.f81.body = some _ from rfl)]
  have hc := call69 he 1 10 [n] (by simp) (.vs 1 [.v (.int .i64 n)] (some 1)) (Or.inr ⟨_, rfl⟩)
  unfold intA at hc
  simp -implicitDefEqProofs only [Try.f81, intA, go_sem, ↓reduceIte, hc]
theorem call82 {e : Exts} (he : Quiet e) (n : Int) (me : FuncId) (d : Option Tmp) (H : Heap) : callA (Cx e) (lim (Cx e)) me 81 d [.vs 1 [.v (.int .i64 n)] (some 1)] H = some (.v (.bool (withinB 1 10 [n])), H) :=
  (ans82 he n).call (ext_81 he) (pure_81 _ _ _) rfl H
/-! ### hasId -/
def hId (id : Int) : Heap := ⟨[some (.cells 0 0 3 1 false [intA id])], 0⟩
set_option maxHeartbeats 1000000 in
theorem call101 {e : Exts} (he : Quiet e) (id n : Int) (l : AV) (ls : List AV) (hl : SlOf 1 ls l) (me : FuncId) (d : Option Tmp) : callA (Cx e) (lim (Cx e)) me 111 d [.agg [.v (.int .i64 n), l], .ptr 0 0 0] (hId id) = some (.v (.bool (decide (n = id))), hId id) := by
  refine call_k2 (ext_111 he) (pure_111 _ _ _) (by simp only [boundL_cons, bound_agg, bound_ptr, bound_v, hl.bound, boundL_nil]; rfl) rfl ?_
  rw [fn_step (fn_111 e) (show Try.f111.body = some _ from rfl)]
  simp -implicitDefEqProofs only [Try.f111, hId, intA, go_sem, ↓reduceIte, hl.cells, hl.flat, hl.bound]
  rfl
noncomputable def body120 : Code := ((Try.f130.body.map loops).getD [])[0]?.getD .skip
set_option maxHeartbeats 1000000 in
theorem loop120 {e : Exts} (he : Quiet e) (id : Int) (t : Txt) (x : AV) (xs : List AV) (hx : SlOf 2 xs x) (hall : All2 ChapA t xs) (hn : t.length < 2 ^ 63) (K : Post) :
    ∀ m j : Nat, j + m = t.length → ((t.drop j).any (fun c => decide (c.1 = id)) = false → ∀ tl, AtK K (.exit 0) ⟨19, tl, []⟩ (hId id)) → ((t.drop j).any (fun c => decide (c.1 = id)) = true → ∀ (n : Nat) tl, assoc 4 tl = some (intA n) → AtK K .ret ⟨19, tl, []⟩ (hId id)) →
    Lp (Cx e) 130 none [0, 1, 4, 7, 8] body120 ⟨19, [(0, x), (1, .fn (.func 111) [] [.ptr 0 0 0]), (4, intA 0), (7, intA t.length), (8, intA j)], []⟩ (hId id) K := by
  intro m
  induction m with
  | zero =>
    intro j hj h1 h2
    rw [Lp_step]
    generalize hK : loopK (Cx e) 130 none _ body120 _ K = KK
    unfold body120
    obtain rfl : j = t.length := by omega
    simp only [Try.f130, loops, Option.map_some, Option.getD_some, List.nil_append, List.append_nil, List.cons_append, List.getElem?_cons_zero, List.getElem?_cons_succ]
    simp -implicitDefEqProofs only [go_sem, ↓reduceIte, intA, hId, Int.lt_irrefl]
    subst hK
    simp -implicitDefEqProofs only [go_sem, ↓reduceIte, hId]
    exact h1 (by simp) _
  | succ m ih =>
    intro j hj h1 h2
    obtain ⟨c, hs⟩ := at_lt t j (by omega)
    obtain ⟨y, hy, l, rfl, ls, hl, -⟩ := hall.get hs
    have hd := drop_any (fun c : Chap => decide (c.1 = id)) t j c hs
    have hlt : (j : Int) < ((t.length : Nat) : Int) := by omega
    have hw := wrap_succ j (by omega)
    have hc := call101 he id c.1 l ls hl
    unfold hId intA at hc
    rw [Lp_step]
    generalize hK : loopK (Cx e) 130 none _ body120 _ K = KK
    unfold body120
    simp only [Try.f130, loops, Option.map_some, Option.getD_some, List.nil_append, List.append_nil, List.cons_append, List.getElem?_cons_zero, List.getElem?_cons_succ]
    by_cases c1 : c.1 = id
    · simp only [c1, decide_true] at hc
      simp -implicitDefEqProofs only [go_sem, ↓reduceIte, intA, hId, hlt, hw, hx.idx hy, hc, c1]
      subst hK
      simp -implicitDefEqProofs only [go_sem, ↓reduceIte]
      exact h2 (by rw [hd]; simp [c1]) j _ rfl
    · simp only [c1, decide_false] at hc
      simp -implicitDefEqProofs only [go_sem, ↓reduceIte, intA, hId, hlt, hw, hx.idx hy, hc]
      subst hK
      simp -implicitDefEqProofs only [go_sem, ↓reduceIte, hId]
      rw [hd] at h1 h2
      simp only [c1, decide_false, Bool.false_or] at h1 h2
      exact ih (j + 1) (by omega) h1 h2
def hasIdB (t : Txt) (id : Int) : Bool := t.any fun c => decide (c.1 = id)
theorem pure120 (e : Exts) (h : FuncId) (d : Option Tmp) : (Cx e).pure h 130 d = false := by simp [Cx, pureF, impF, impC]
theorem pure100 (e : Exts) (h : FuncId) (d : Option Tmp) : (Cx e).pure h 110 d = false := by simp [Cx, pureF, impF, impC]
set_option maxHeartbeats 1000000 in
theorem fn120 {e : Exts} (he : Quiet e) (id : Int) (t : Txt) (x : AV) (xs : List AV) (hx : SlOf 2 xs x) (hall : All2 ChapA t xs) (hn : t.length < 2 ^ 63) :
    ∃ n : Int, decide (0 ≤ n) = hasIdB t id ∧ Fn' (Cx e) 130 [x, .fn (.func 111) [] [.ptr 0 0 0]] (hId id) fun v H' => v = intA n ∧ H' = hId id := by
  have key : Fn' (Cx e) 130 [x, .fn (.func 111) [] [.ptr 0 0 0]] (hId id) fun v H' => (∃ n : Int, decide (0 ≤ n) = hasIdB t id ∧ v = intA n) ∧ H' = hId id := by
    rw [fn_step (fn_130 e) (show Try.f130.body = some _ from rfl)]
    simp -implicitDefEqProofs only [Try.f130, hId, intA, go_sem, ↓reduceIte, hx.len, ← hall.1]
    refine loop120 he id t x xs hx hall hn _ t.length 0 (by omega) ?_ ?_
    · intro hf tl
      simp -implicitDefEqProofs only [go_sem, ↓reduceIte, hId]
      exact ⟨⟨-1, by unfold hasIdB; rw [List.drop_zero] at hf; rw [hf]; rfl, rfl⟩, rfl⟩
    · intro hf n tl htl
      simp -implicitDefEqProofs only [go_sem, ↓reduceIte, htl]
      exact ⟨⟨n, by unfold hasIdB; rw [List.drop_zero] at hf; rw [hf]; simp, rfl⟩, rfl⟩
  obtain ⟨v, H', h1, ⟨n, hnn, rfl⟩, rfl⟩ := fn_ex key
  refine ⟨n, hnn, ?_⟩
  unfold Fn'; rw [h1]; exact ⟨rfl, rfl⟩
set_option maxHeartbeats 1000000 in
theorem call100 {e : Exts} (he : Quiet e) (id : Int) (t : Txt) (x : AV) (xs : List AV) (hx : SlOf 2 xs x) (hall : All2 ChapA t xs) (hn : t.length < 2 ^ 63) (me : FuncId) (d : Option Tmp) :
    callA (Cx e) (lim (Cx e)) me 110 d [x, .fn (.func 111) [] [.ptr 0 0 0]] (hId id) = some (.v (.bool (hasIdB t id)), hId id) := by
  refine call_k0 (ext_110 he) (pure100 _ _ _) ?_
  obtain ⟨n, hnn, hf⟩ := fn120 he id t x xs hx hall hn
  have hc := call_k0 (me := 110) (d := some 7) (ext_130 he) (pure120 e _ _) hf
  unfold hId intA at hc
  rw [fn_step (fn_110 e) (show Try.f110.body = some _ from rfl)]
  simp -implicitDefEqProofs only [Try.f110, hId, intA, go_sem, ↓reduceIte, hc]
  exact ⟨by rw [hnn], rfl⟩
set_option maxHeartbeats 1000000 in
theorem ans86 {e : Exts} (he : Quiet e) (id : Int) (t : Txt) (x : AV) (xs : List AV) (hx : SlOf 2 xs x) (hall : All2 ChapA t xs) (hn : t.length < 2 ^ 63) : Ans (Cx e) 95 [x, intA id] (.v (.bool (hasIdB t id))) := by
  unfold Ans
  have hc := call100 he id t x xs hx hall hn 95 (some 7)
  unfold hId intA at hc
  rw [fn_step (fn_95 e) (show Try.f95.body = some _ from rfl)]
  simp -implicitDefEqProofs only [Try.f95, intA, go_sem, ↓reduceIte, hc]
theorem callI86 {e : Exts} (he : Quiet e) (id : Int) (t : Txt) (x : AV) (xs : List AV) (hx : SlOf 2 xs x) (hall : All2 ChapA t xs) (hn : t.length < 2 ^ 63) (me : FuncId) (d : Option Tmp) : callI (Cx e) me 95 d [x, .v (.int .i64 id)] = some (.v (.bool (hasIdB t id))) :=
  (ans86 he id t x xs hx hall hn).callI (ext_95 he) (pure_95 _ _ _) (by simp only [boundL_cons, hx.bound, intA, bound_v, boundL_nil]; rfl)
/-! ### isLines -/
noncomputable def body87 (n : Nat) : Code := ((Try.f96.body.map loops).getD [])[n]?.getD .skip
def okUpto (ls : List Line) (j : Nat) : Nat := ((ls.take j).filter lineB).length
theorem okUpto_succ (ls : List Line) (j : Nat) (l : Line) (h : ls[j]? = some l) : okUpto ls (j + 1) = okUpto ls j + if lineB l then 1 else 0 := by
  obtain ⟨hj, rfl⟩ := List.getElem?_eq_some_iff.1 h
  unfold okUpto
  rw [List.take_succ_eq_append_getElem hj, List.filter_append, List.length_append]
  congr 1
  cases h : lineB ls[j] <;> simp [h]
theorem okUpto_le (ls : List Line) (j : Nat) : okUpto ls j ≤ j := by
  unfold okUpto
  exact Nat.le_trans (List.length_filter_le _ _) (by simp; omega)
theorem okUpto_all (ls : List Line) : (okUpto ls ls.length = ls.length) ↔ ls.all lineB = true := by
  unfold okUpto
  rw [List.take_of_length_le (Nat.le_refl _), List.length_filter_eq_length_iff, List.all_eq_true]
def allW (ws : Line) (j : Nat) : Bool := (ws.drop j).all wordB
set_option maxHeartbeats 1000000 in
theorem loop87w {e : Exts} (he : Quiet e) (x lx : AV) (r nl i : Nat) (ws : Line) (hlx : SlOf 1 (strs ws) lx) (hn : ws.length < 2 ^ 63) (hz : ∀ s ∈ ws, s.size < 2 ^ 63) (K : Post) :
    ∀ m j : Nat, j + m = ws.length → (allW ws j = true → ∀ k : Nat, AtK K (.exit 2) ⟨46, [(0, x), (2, .v (.bool false)), (12, .v (.bool false)), (3, intA r), (14, intA nl), (15, intA i), (16, .v (.bool true)), (4, intA i), (25, .v (.bool false)), (29, lx), (30, intA ws.length), (31, intA k)], []⟩ ⟨[], 0⟩) →
      (allW ws j = false → ∀ k : Nat, AtK K (.exit 1) ⟨46, [(0, x), (2, .v (.bool false)), (12, .v (.bool false)), (3, intA r), (14, intA nl), (15, intA i), (16, .v (.bool true)), (4, intA i), (25, .v (.bool false)), (29, lx), (30, intA ws.length), (31, intA k)], []⟩ ⟨[], 0⟩) →
    Lp (Cx e) 96 none [0, 2, 12, 3, 14, 15, 16, 4, 25, 29, 30, 31] (body87 1) ⟨46, [(0, x), (2, .v (.bool false)), (12, .v (.bool false)), (3, intA r), (14, intA nl), (15, intA i), (16, .v (.bool true)), (4, intA i), (25, .v (.bool false)), (29, lx), (30, intA ws.length), (31, intA j)], []⟩ ⟨[], 0⟩ K := by
  intro m
  induction m with
  | zero =>
    intro j hj h1 h2
    rw [Lp_step]
    generalize hK : loopK (Cx e) 96 none _ (body87 1) _ K = KK
    unfold body87
    obtain rfl : j = ws.length := by omega
    simp only [Try.f96, loops, Option.map_some, Option.getD_some, List.nil_append, List.append_nil, List.cons_append, List.getElem?_cons_zero, List.getElem?_cons_succ]
    simp -implicitDefEqProofs only [go_sem, ↓reduceIte, intA, Int.lt_irrefl]
    subst hK
    simp -implicitDefEqProofs only [go_sem, ↓reduceIte]
    exact h1 (by unfold allW; rw [List.drop_of_length_le (Nat.le_refl _)]; rfl) _
  | succ m ih =>
    intro j hj h1 h2
    obtain ⟨s, hs⟩ := at_lt ws j (by omega)
    have hd : allW ws j = (wordB s && allW ws (j + 1)) := drop_all _ ws j s hs
    have hlt : (j : Int) < ((ws.length : Nat) : Int) := by omega
    have hw := wrap_succ j (by omega)
    have hc := call49 he s (hz s (List.mem_of_getElem? hs))
    rw [Lp_step]
    generalize hK : loopK (Cx e) 96 none _ (body87 1) _ K = KK
    unfold body87
    simp only [Try.f96, loops, Option.map_some, Option.getD_some, List.nil_append, List.append_nil, List.cons_append, List.getElem?_cons_zero, List.getElem?_cons_succ]
    cases c1 : wordB s
    · rw [c1] at hc
      simp -implicitDefEqProofs only [go_sem, ↓reduceIte, intA, hlt, hw, hlx.idx (strs_get hs), hc]
      subst hK
      simp -implicitDefEqProofs only [go_sem, ↓reduceIte]
      exact h2 (by rw [hd, c1]; rfl) j
    · rw [c1] at hc
      simp -implicitDefEqProofs only [go_sem, ↓reduceIte, intA, hlt, hw, hlx.idx (strs_get hs), hc]
      subst hK
      simp -implicitDefEqProofs only [go_sem, ↓reduceIte]
      rw [hd, c1, Bool.true_and] at h1 h2
      exact ih (j + 1) (by omega) h1 h2
set_option maxHeartbeats 1000000 in
theorem loop87l {e : Exts} (he : Quiet e) (x : AV) (lxs : List AV) (hx : SlOf 1 lxs x) (ls : List Line) (hls : All2 LineA ls lxs) (hn : ls.length < 2 ^ 63) (hnn : ∀ l ∈ ls, l.length < 2 ^ 63) (hz : ∀ l ∈ ls, ∀ s ∈ l, s.size < 2 ^ 63) (K : Post)
    (hK0 : AtK K (.exit 0) ⟨46, [(0, x), (2, .v (.bool false)), (12, .v (.bool false)), (3, intA (okUpto ls ls.length)), (14, intA ls.length), (15, intA ls.length)], []⟩ ⟨[], 0⟩) :
    ∀ m j : Nat, j + m = ls.length →
    Lp (Cx e) 96 none [0, 2, 12, 3, 14, 15] (body87 0) ⟨46, [(0, x), (2, .v (.bool false)), (12, .v (.bool false)), (3, intA (okUpto ls j)), (14, intA ls.length), (15, intA j)], []⟩ ⟨[], 0⟩ K := by
  intro m
  induction m with
  | zero =>
    intro j hj
    rw [Lp_step]
    generalize hK : loopK (Cx e) 96 none _ (body87 0) _ K = KK
    unfold body87
    obtain rfl : j = ls.length := by omega
    simp only [Try.f96, loops, Option.map_some, Option.getD_some, List.nil_append, List.append_nil, List.cons_append, List.getElem?_cons_zero, List.getElem?_cons_succ]
    simp -implicitDefEqProofs only [go_sem, ↓reduceIte, intA, Int.lt_irrefl]
    subst hK
    simp -implicitDefEqProofs only [go_sem, ↓reduceIte]
    exact hK0
  | succ m ih =>
    intro j hj
    obtain ⟨ws, hs⟩ := at_lt ls j (by omega)
    obtain ⟨lx, hy, hlx⟩ := hls.get hs
    have hlx : SlOf 1 (strs ws) lx := hlx
    have hm := List.mem_of_getElem? hs
    have hsu := okUpto_succ ls j ws hs
    have hle := okUpto_le ls j
    have hlt : (j : Int) < ((ls.length : Nat) : Int) := by omega
    have hw := wrap_succ j (by omega)
    have hw2 := wrap_succ (okUpto ls j) (by omega)
    have hc := call82 he (ws.length : Int)
    have hih := ih (j + 1) (by omega)
    rw [Lp_step]
    generalize hK : loopK (Cx e) 96 none _ (body87 0) _ K = KK
    unfold body87
    simp only [Try.f96, loops, Option.map_some, Option.getD_some, List.nil_append, List.append_nil, List.cons_append, List.getElem?_cons_zero, List.getElem?_cons_succ]
    cases c1 : withinB 1 10 [(ws.length : Int)]
    · rw [c1] at hc
      have hb : lineB ws = false := by unfold lineB; rw [c1]; rfl
      simp -implicitDefEqProofs only [go_sem, ↓reduceIte, intA, hlt, hw, hx.idx hy, hlx.cells, hlx.len, strs_len, hc]
      subst hK
      simp -implicitDefEqProofs only [go_sem, ↓reduceIte]
      rw [hsu, hb] at hih
      exact hih
    · rw [c1] at hc
      simp -implicitDefEqProofs only [go_sem, ↓reduceIte, intA, hlt, hw, hx.idx hy, hlx.cells, hlx.len, strs_len, hc]
      refine loop87w he x lx (okUpto ls j) ls.length j ws hlx (hnn ws hm) (hz ws hm) _ ws.length 0 (by omega) ?_ ?_
      · intro hf k
        have hb : lineB ws = true := by unfold lineB; rw [c1]; unfold allW at hf; rw [List.drop_zero] at hf; rw [hf]; rfl
        simp -implicitDefEqProofs only [go_sem, ↓reduceIte, intA, hw, hw2]
        subst hK
        simp -implicitDefEqProofs only [go_sem, ↓reduceIte]
        rw [hsu, hb] at hih
        exact hih
      · intro hf k
        have hb : lineB ws = false := by unfold lineB; unfold allW at hf; rw [List.drop_zero] at hf; rw [hf, Bool.and_false]
        simp -implicitDefEqProofs only [go_sem, ↓reduceIte, intA, hw]
        subst hK
        simp -implicitDefEqProofs only [go_sem, ↓reduceIte]
        rw [hsu, hb] at hih
        exact hih
def linesB (ls : List Line) : Bool := withinB 1 10 [(ls.length : Int)] && ls.all lineB
set_option maxHeartbeats 1000000 in
theorem ans87 {e : Exts} (he : Quiet e) (x : AV) (ls : List Line) (hx : LinesA ls x) (hn : ls.length < 2 ^ 63) (hnn : ∀ l ∈ ls, l.length < 2 ^ 63) (hz : ∀ l ∈ ls, ∀ s ∈ l, s.size < 2 ^ 63) : Ans (Cx e) 96 [x] (.v (.bool (linesB ls))) := by
  obtain ⟨lxs, hx, hls⟩ := hx
  unfold Ans
  have hc := call69 he 1 10 [(ls.length : Int)] (by simp) (.vs 1 [.v (.int .i64 ls.length)] (some 1)) (Or.inr ⟨_, rfl⟩)
  unfold intA at hc
  rw [fn_step (fn_96 e) (show Try.f96.body = some _ from rfl)]
  cases c1 : withinB 1 10 [(ls.length : Int)]
  · rw [c1] at hc
    simp -implicitDefEqProofs only [Try.f96, intA, go_sem, ↓reduceIte, hx.len, ← hls.1, hc]
    unfold linesB; rw [c1]; rfl
  · rw [c1] at hc
    simp -implicitDefEqProofs only [Try.f96, intA, go_sem, ↓reduceIte, hx.len, ← hls.1, hc]
    refine loop87l he x lxs hx ls hls hn hnn hz _ ?_ ls.length 0 (by omega)
    by_cases hall : ls.all lineB = true
    · have h1 := (okUpto_all ls).2 hall
      simp -implicitDefEqProofs only [go_sem, ↓reduceIte, intA, hx.len, ← hls.1, h1]
      unfold linesB; rw [c1, hall]; rfl
    · have h1 : ¬ okUpto ls ls.length = ls.length := fun h => hall ((okUpto_all ls).1 h)
      have h2 : ¬ ((okUpto ls ls.length : Nat) : Int) = (ls.length : Int) := by omega
      simp -implicitDefEqProofs only [go_sem, ↓reduceIte, intA, hx.len, ← hls.1, h2]
      have h3 : ls.all lineB = false := by simpa using hall
      unfold linesB; rw [c1, h3]; rfl
theorem callI87 {e : Exts} (he : Quiet e) (x : AV) (ls : List Line) (hx : LinesA ls x) (hn : ls.length < 2 ^ 63) (hnn : ∀ l ∈ ls, l.length < 2 ^ 63) (hz : ∀ l ∈ ls, ∀ s ∈ l, s.size < 2 ^ 63) (me : FuncId) (d : Option Tmp) : callI (Cx e) me 96 d [x] = some (.v (.bool (linesB ls))) :=
  (ans87 he x ls hx hn hnn hz).callI (ext_96 he) (pure_96 _ _ _) (by obtain ⟨lxs, hx, -⟩ := hx; simp only [boundL_cons, hx.bound, boundL_nil]; rfl)
end Go.Ev
namespace Go.Ev
open Go.Proofs
set_option maxRecDepth 100000
set_option linter.unusedSimpArgs false
def condD (t : Txt) (i : Nat) (c : Chap) : Bool := withinB 0 9999 [c.1] && !hasIdB (t.take i) c.1 && linesB c.2
theorem condD_eq (t : Txt) (i : Nat) (c : Chap) : condD t i c = condC t i c := by
  unfold condD condC linesB hasIdB idB
  rw [List.drop_zero]
  cases withinB 0 9999 [c.1] <;> cases withinB 1 10 [(c.2.length : Int)] <;> cases (t.take i).any (fun c_1 => decide (c_1.1 = c.1)) <;> simp
noncomputable def body62 : Code := ((Try.f68.body.map loops).getD [])[0]?.getD .skip
theorem All2.take {α β : Type} {R : α → β → Prop} {l : List α} {m : List β} (h : All2 R l m) (n : Nat) : All2 R (l.take n) (m.take n) := by
  refine ⟨by simp [h.1], fun i a b ha hb => ?_⟩
  rw [List.getElem?_take] at ha hb
  split at ha
  · rename_i hi; rw [if_pos hi] at hb; exact h.2 i a b ha hb
  · cases ha
set_option maxHeartbeats 4000000 in
theorem loop62 {e : Exts} (he : Quiet e) (t : Txt) (ht : Fits t) (xs : List AV) (ch : AV) (hch : SlOf 2 xs ch) (hn : t.length < 2 ^ 63) (hall : All2 ChapA t xs) (K : Post) :
    ∀ m j : Nat, j + m = t.length → (chB t j = false → AtK K (.exit 0) ⟨40, [(0, .agg [ch]), (1, .ptr 0 0 0), (2, .v (.bool false)), (11, .v (.bool false)), (13, ch), (14, intA t.length), (15, intA (t.length : Nat))], []⟩ ⟨[some (.cells 0 0 24 1 false [ch])], 0⟩) → (chB t j = true → ∀ tl HH, assoc 2 tl = some (.v (.bool false)) → AtK K .ret ⟨40, tl, []⟩ HH) →
    Lp (Cx e) 68 none [0, 1, 2, 11, 13, 14, 15] (body62) ⟨40, [(0, .agg [ch]), (1, .ptr 0 0 0), (2, .v (.bool false)), (11, .v (.bool false)), (13, ch), (14, intA t.length), (15, intA j)], []⟩ ⟨[some (.cells 0 0 24 1 false [ch])], 0⟩ K := by
  intro m
  induction m with
  | zero =>
    intro j hj h1 h2
    rw [Lp_step]
    generalize hK : loopK (Cx e) 68 none [0, 1, 2, 11, 13, 14, 15] (body62) _ K = KK
    unfold body62
    obtain rfl : j = t.length := by omega
    simp only [Try.f68, loops, Option.map_some, Option.getD_some, List.nil_append, List.append_nil, List.cons_append, List.getElem?_cons_zero, List.getElem?_cons_succ]
    simp -implicitDefEqProofs only [go_sem, ↓reduceIte, intA, Int.lt_irrefl, hch.len, ← hall.1]
    subst hK
    simp -implicitDefEqProofs only [go_sem, ↓reduceIte]
    exact h1 (by unfold chB; rw [List.drop_of_length_le (by simp)]; rfl)
  | succ m ih =>
    intro j hj h1 h2
    rw [Lp_step]
    generalize hK : loopK (Cx e) 68 none [0, 1, 2, 11, 13, 14, 15] (body62) _ K = KK
    unfold body62
    have hlt : (j : Int) < ((t.length : Nat) : Int) := by omega
    have hw := wrap_succ j (by omega)
    have hj0 : (0 : Int) ≤ (j : Int) := by omega
    simp only [Try.f68, loops, Option.map_some, Option.getD_some, List.nil_append, List.append_nil, List.cons_append, List.getElem?_cons_zero, List.getElem?_cons_succ]
    obtain ⟨c, hs⟩ := at_lt t j (by omega)
    obtain ⟨y, hy, l, rfl, hl'⟩ := hall.get hs
    obtain ⟨lxs, hl, hls⟩ := hl'
    have hd := chB_step t j c hs
    have hm := List.mem_of_getElem? hs
    have hca := callI51 he c.1
    obtain ⟨z, hz1, hz2⟩ := hch.slice und_22 size_78 j (by rw [← hall.1]; omega)
    have hcb := callI86 he c.1 (t.take j) z _ hz2 (hall.take j) (by simp; omega)
    have hcc := callI87 he l c.2 ⟨lxs, hl, hls⟩ (ht.lines c hm) (ht.words c hm) (ht.size c hm)
    simp -implicitDefEqProofs only [go_sem, ↓reduceIte, intA, hlt, hw, hch.len, hch.cells, hch.idx hy, hl.len, hl.cells, hl.flat, hl.bound]
    refine wp_draw (by kernel_rfl) ?_
    rw [← condD_eq] at hd
    cases c1 : withinB 0 9999 [c.1]
    · rw [c1] at hca
      simp -implicitDefEqProofs only [go_sem, ↓reduceIte, intA, hlt, hw, hca]
      subst hK
      simp -implicitDefEqProofs only [go_sem, ↓reduceIte]
      exact h2 (by rw [hd]; unfold condD; rw [c1]; rfl) _ _ rfl
    · rw [c1] at hca
      cases c2 : hasIdB (t.take j) c.1
      · rw [c2] at hcb
        cases c3 : linesB c.2
        · rw [c3] at hcc
          simp -implicitDefEqProofs only [go_sem, ↓reduceIte, intA, hlt, hw, hca, hcb, hcc, hz1]
          subst hK
          simp -implicitDefEqProofs only [go_sem, ↓reduceIte]
          exact h2 (by rw [hd]; unfold condD; rw [c1, c2, c3]; rfl) _ _ rfl
        · rw [c3] at hcc
          simp -implicitDefEqProofs only [go_sem, ↓reduceIte, intA, hlt, hw, hca, hcb, hcc, hz1]
          subst hK
          simp -implicitDefEqProofs only [go_sem, ↓reduceIte, trim_at, hch.flat, hch.bound, hch.cells]
          have hd' : chB t j = chB t (j + 1) := by rw [hd]; unfold condD; rw [c1, c2, c3]; rfl
          rw [hd'] at h1 h2
          exact ih (j + 1) (by omega) h1 h2
      · rw [c2] at hcb
        simp -implicitDefEqProofs only [go_sem, ↓reduceIte, intA, hlt, hw, hca, hcb, hz1]
        subst hK
        simp -implicitDefEqProofs only [go_sem, ↓reduceIte]
        exact h2 (by rw [hd]; unfold condD; rw [c1, c2]; rfl) _ _ rfl
set_option maxHeartbeats 1000000 in
theorem ans62 {e : Exts} (he : Quiet e) (t : Txt) (ht : Fits t) (x : AV) (hx : TextA t x) : Ans (Cx e) 68 [x] (.v (.bool (textB t))) := by
  obtain ⟨ch, rfl, xs, hch, hall⟩ := hx
  unfold Ans
  have hc := call69 he 1 6 [(t.length : Int)] (by simp) (.vs 1 [.v (.int .i64 t.length)] (some 1)) (Or.inr ⟨_, rfl⟩)
  unfold intA at hc
  rw [fn_step (fn_68 e) (show Try.f68.body = some _ from rfl)]
  cases h1 : withinB 1 6 [(t.length : Int)]
  · rw [h1] at hc
    simp -implicitDefEqProofs only [Try.f68, intA, go_sem, ↓reduceIte, hch.len, hch.cells, hch.flat, hch.bound, ← hall.1, hc]
    unfold textB; rw [h1]; rfl
  · rw [h1] at hc
    simp -implicitDefEqProofs only [Try.f68, intA, go_sem, ↓reduceIte, hch.len, hch.cells, hch.flat, hch.bound, ← hall.1, hc]
    refine loop62 he t ht xs ch hch ht.chs hall _ t.length 0 (by omega) ?_ ?_
    · intro hf
      have hf' : okFrom t 0 t = true := by unfold chB at hf; simpa using hf
      simp -implicitDefEqProofs only [go_sem, ↓reduceIte]
      unfold textB; rw [h1, hf']; rfl
    · intro hf tl HH htl
      have hf' : okFrom t 0 t = false := by unfold chB at hf; simpa using hf
      simp -implicitDefEqProofs only [go_sem, ↓reduceIte, htl]
      unfold textB; rw [h1, hf']; rfl
theorem call62 {e : Exts} (he : Quiet e) (t : Txt) (ht : Fits t) (x : AV) (hx : TextA t x) (me : FuncId) (d : Option Tmp) (H : Heap) : callA (Cx e) (lim (Cx e)) me 68 d [x] H = some (.v (.bool (textB t)), H) :=
  (ans62 he t ht x hx).call (ext_68 he) (pure_68 _ _ _) (by obtain ⟨ch, rfl, xs, hch, -⟩ := hx; simp only [boundL_cons, bound_agg, hch.bound, boundL_nil]; rfl) H
set_option maxHeartbeats 1000000 in
theorem ans40 {e : Exts} (he : Quiet e) (t : Txt) (ht : Fits t) (ch : AV) (hx : ChsA t ch) : Ans (Cx e) 40 [.agg [ch]] (if textB t then .tup [.agg [ch], intA 0] else .tup [.agg [.v (.slice none 0 0)], intA 10]) := by
  have hc := call62 he t ht _ ⟨ch, rfl, hx⟩ 40 (some 5)
  obtain ⟨xs, hch, hall⟩ := hx
  unfold Ans
  rw [fn_step (fn_40 e) (show Try.f40.body = some _ from rfl)]
  cases h1 : textB t
  · rw [h1] at hc
    simp -implicitDefEqProofs only [Try.f40, intA, go_sem, ↓reduceIte, hch.cells, hch.flat, hch.bound, hc]
    rcases hch with ⟨rfl, rfl⟩ | ⟨cap, rfl⟩
    · kernel_rfl
    · kernel_rfl
  · rw [h1] at hc
    simp -implicitDefEqProofs only [Try.f40, intA, go_sem, ↓reduceIte, hch.cells, hch.flat, hch.bound, hc]
    rcases hch with ⟨rfl, rfl⟩ | ⟨cap, rfl⟩
    · kernel_rfl
    · kernel_rfl
theorem call40 {e : Exts} (he : Quiet e) (t : Txt) (ht : Fits t) (ch : AV) (hx : ChsA t ch) (me : FuncId) (d : Option Tmp) (H : Heap) : callA (Cx e) (lim (Cx e)) me 40 d [.agg [ch]] H = some (if textB t then .tup [.agg [ch], intA 0] else .tup [.agg [.v (.slice none 0 0)], intA 10], H) :=
  (ans40 he t ht ch hx).call (ext_40 he) (pure_40 _ _ _) (by obtain ⟨xs, hch, -⟩ := hx; simp only [boundL_cons, bound_agg, hch.bound, boundL_nil]; rfl) H
end Go.Ev
namespace Go.Ev
open Go.Proofs
set_option maxRecDepth 100000
set_option linter.unusedSimpArgs false
theorem plus_store_lo {H : Heap} {b v k : Nat} {xs : List AV} (E : List (Option AObj)) (h : b < H.size) : storeCells (H.plus E) b v k xs = (storeCells H b v k xs).map (·.plus E) := by
  unfold storeCells
  rw [plus_row E h, plus_lock]
  cases H.row b v with
  | none => rfl
  | some r =>
    obtain ⟨m, e, sz, g, cs⟩ := r
    simp only
    split
    · simp only [Option.map_some]; rw [plus_put E _ h]
    · rfl
theorem wrap_wrap (n : Int) : IntKind.i64.wrap (IntKind.i64.wrap n + 1) = IntKind.i64.wrap (n + 1) := by
  simp only [IntKind.wrap_i64]; omega
noncomputable def bdy14 : Code := ((Try.f8.body.bind rangeOf).getD (.skip, .skip)).2
def lp14 (ch : AV) (st : LoopState) (b : Code) : ALoop := { fn := 8, state := st, pending := none, size := 22, tmps := [(0, .agg [ch]), (1, .ptr 0 0 0), (2, intA 0), (3, intA 0), (4, .ptr 1 0 0), (5, intA 0), (13, .v (.bool false)), (6, .ptr 2 0 0), (16, .fn (.func 69) [] [.ro (.agg [ch]) 0])], params := #[17, 18], assign := .skip, body := b, dfr := 3 }
noncomputable def hv14 (ch : AV) (st : LoopState) (v : Int) : Heap := ⟨[some (.cells 0 0 24 1 false [ch]), some (.cells 0 0 89 1 false [ch]), some (.cells 0 0 3 1 false [intA v]), some .dfr, some (.loop (lp14 ch st bdy14))], 0⟩
noncomputable def hp14 (ch : AV) (st : LoopState) (c : Nat) : Heap := hv14 ch st (IntKind.i64.wrap c)
theorem hp14_succ (ch : AV) (st : LoopState) (c : Nat) : hv14 ch st (IntKind.i64.wrap ((c : Int) + 1)) = hp14 ch st (c + 1) := by
  unfold hp14
  have : ((c + 1 : Nat) : Int) = (c : Int) + 1 := by omega
  rw [this]
theorem hv14_row (ch : AV) (st : LoopState) (v : Int) (E : List (Option AObj)) : ((hv14 ch st v).plus E).row 2 0 = some (0, 3, 1, false, [.v (.int .i64 v)]) := plus_row E (show 2 < 5 by omega)
theorem hv14_store (ch : AV) (st : LoopState) (v u : Int) (E : List (Option AObj)) : storeCells ((hv14 ch st v).plus E) 2 0 0 [.v (.int .i64 u)] = some ((hv14 ch st u).plus E) := by
  rw [plus_store_lo E (show 2 < 5 by omega)]; rfl
theorem hv14_put (ch : AV) (st st' : LoopState) (v : Int) (E : List (Option AObj)) : ((hv14 ch st v).plus E).put 4 (.loop (lp14 ch st' bdy14)) = (hv14 ch st' v).plus E := rfl
theorem hp14_size (ch : AV) (st : LoopState) (c : Nat) : (hp14 ch st c).size = 5 := rfl
set_option maxHeartbeats 1000000 in
theorem src14 {e : Exts} (ch : AV) : Src (Cx e) 4 Nat (hp14 ch .ready) (fun c _ => (true, c + 1)) (fun x => x.length = 2) (fun _ => True) 5 := by
  refine ⟨fun _ => rfl, by omega, fun _ => Nat.zero_le _, fun _ _ _ _ _ => trivial, fun c x E _ hx => ?_⟩
  have key := round_step (C := Cx e) (l := 4) (args := x) (H := (hp14 ch .ready c).plus E) (r := lp14 ch .ready bdy14) (K := fun b H' => b = true ∧ ∃ G, H' = (hp14 ch .ready (c + 1)).plus (E ++ G)) rfl hx (Nat.zero_le _) ?_
  · obtain ⟨b, H', h1, rfl, G, rfl⟩ := key
    exact ⟨G, h1⟩
  · show Wp (Cx e) 8 (some 4) .skip _ _ _
    rw [wp_skip]
    refine asgK_mk (r1 := lp14 ch .ready bdy14) rfl rfl ?_
    have hp : ((hp14 ch .ready c).plus E).put 4 (.loop { lp14 ch .ready bdy14 with state := .busy }) = (hp14 ch .busy c).plus E := hv14_put ch .ready .busy _ E
    rw [hp]
    show Wp (Cx e) 8 (some 4) bdy14 ⟨22, setTmps 22 [(0, .agg [ch]), (1, .ptr 0 0 0), (2, intA 0), (3, intA 0), (4, .ptr 1 0 0), (5, intA 0), (13, .v (.bool false)), (6, .ptr 2 0 0), (16, .fn (.func 69) [] [.ro (.agg [ch]) 0])] ([17, 18].zip x), []⟩ _ _
    obtain ⟨x1, x2, rfl⟩ : ∃ a b, x = [a, b] := by
      match x, hx with
      | [a, b], _ => exact ⟨a, b, rfl⟩
    generalize hKK : bodyK _ _ _ = KK
    have hrow : ∀ E, ((hp14 ch .busy c).plus E).row 2 0 = some (0, 3, 1, false, [.v (.int .i64 (IntKind.i64.wrap c))]) := fun E => hv14_row ch .busy _ E
    have hsto : ∀ (E : List (Option AObj)), storeCells ((hp14 ch .busy c).plus E) 2 0 0 [.v (.int .i64 (IntKind.i64.wrap ((c : Int) + 1)))] = some ((hp14 ch .busy (c + 1)).plus E) := fun E => by
      rw [← hp14_succ]; exact hv14_store ch .busy _ _ E
    have hww := wrap_wrap (c : Int)
    unfold bdy14
    simp only [Try.f8, rangeOf, Option.bind_some, Option.orElse_some, Option.orElse_none, Option.getD_some]
    simp -implicitDefEqProofs only [go_sem, ↓reduceIte, intA, List.zip_cons_cons, List.zip_nil_right, List.zip_nil_left, setT_nil, setT_cons, plus_size, hp14_size, settle_none (hp14_size _ _ _), hrow, hsto, hww]
    subst hKK
    refine bodyK_mk (r3 := lp14 ch .busy bdy14) (j := none) rfl rfl ⟨rfl, ?_⟩
    have hp2 : ((hp14 ch .busy (c + 1)).plus E).put 4 (.loop { lp14 ch .busy bdy14 with state := if (none : Option Code).isNone then .ready else .done, pending := none }) = (hp14 ch .ready (c + 1)).plus (E ++ []) := by rw [List.append_nil]; exact hv14_put ch .busy .ready _ E
    rw [hp2]
    exact trim_plus (H := hp14 ch .ready (c + 1)) E [] [] [] (by rw [plus_size, hp14_size, hp14_size])
theorem run14 : ∀ (items : List (List AV)) (c : Nat), runIt (fun c _ => (true, c + 1)) items c = (true, c + items.length)
  | [], c => rfl
  | x :: r, c => by
    rw [runIt_cons]; simp only [if_true]; rw [run14 r]; simp; omega
theorem allIts_two (xs : List AV) : ∀ x ∈ allIts xs, x.length = 2 := by
  intro x hx
  obtain ⟨y, hy, hx⟩ := List.mem_flatMap.1 hx
  obtain ⟨i, y', j, z, -, -, rfl⟩ := chapIts_of xs 0 y hy
  obtain ⟨w, u, -, rfl⟩ := wIts_of _ _ _ 0 x hx
  rfl
theorem okCh2_of {t : Txt} (ht : Fits t) {xs : List AV} (hall : All2 ChapA t xs) : ∀ y ∈ xs, OkCh2 y := by
  intro y hy
  obtain ⟨i, hi⟩ := List.getElem?_of_mem hy
  have hlt := (List.getElem?_eq_some_iff.1 hi).1
  obtain ⟨c, hc⟩ := at_lt t i (by rw [hall.1]; exact hlt)
  obtain ⟨l, rfl, lxs, hl, hls⟩ := hall.2 i c y hc hi
  have hm := List.mem_of_getElem? hc
  refine ⟨c.1, l, lxs, rfl, hl, by rw [← hls.1]; exact ht.lines c hm, fun x hx => ?_⟩
  obtain ⟨j, hj⟩ := List.getElem?_of_mem hx
  have hjl := (List.getElem?_eq_some_iff.1 hj).1
  obtain ⟨ws, hws⟩ := at_lt c.2 j (by rw [hls.1]; exact hjl)
  have hlx : SlOf 1 (strs ws) x := hls.2 j ws x hws hj
  exact ⟨strs ws, hlx, fun z hz => by obtain ⟨s, -, rfl⟩ := List.mem_map.1 hz; rfl, by rw [strs_len]; exact ht.words c hm ws (List.mem_of_getElem? hws)⟩
def hd14 (ch : AV) (v : Int) : Heap := ⟨[some (.cells 0 0 24 1 false [ch]), some (.cells 0 0 89 1 false [ch]), some (.cells 0 0 3 1 false [intA v]), some .dfr, some .dead], 0⟩
theorem hd14_of (ch : AV) (v : Int) (G : List (Option AObj)) : ((hv14 ch .ready v).plus G).put 4 .dead = (hd14 ch v).plus G := rfl
theorem hd14_size (ch : AV) (v : Int) : (hd14 ch v).size = 5 := rfl
theorem hd14_row (ch : AV) (v : Int) (E : List (Option AObj)) : ((hd14 ch v).plus E).row 2 0 = some (0, 3, 1, false, [.v (.int .i64 v)]) := plus_row E (show 2 < 5 by omega)
def he14 (ch : AV) (v : Int) : Heap := ⟨[some (.cells 0 0 24 1 false [ch]), some (.cells 0 0 89 1 false [ch]), some (.cells 0 0 3 1 false [intA v]), some .dead, some .dead], 0⟩
theorem hd14_kill (ch : AV) (v : Int) (E : List (Option AObj)) : killAll [3] ((hd14 ch v).plus E) = some ((he14 ch v).plus E) := rfl
theorem ansK_tup2 (v : AV) (a b : Value) (H : Heap) : AtO (ansK v) (.tup [.v a, .v b]) H = (some (AV.tup [.v a, .v b]) = some v) := rfl
set_option maxHeartbeats 1000000 in
theorem ans14 {e : Exts} (he : Quiet e) (t : Txt) (ht : Fits t) (ch : AV) (xs : List AV) (hch : SlOf 2 xs ch) (hall : All2 ChapA t xs) : Ans (Cx e) 8 [.agg [ch]] (if textB t then .tup [intA (IntKind.i64.wrap (allIts xs).length), intA 0] else .tup [intA 0, intA 10]) := by
  have hc := call40 he t ht ch ⟨xs, hch, hall⟩
  unfold Ans
  rw [fn_step (fn_8 e) (show Try.f8.body = some _ from rfl)]
  cases h1 : textB t
  · rw [h1] at hc
    simp only [Bool.false_eq_true, if_false, intA] at hc
    simp -implicitDefEqProofs only [Try.f8, intA, go_sem, ↓reduceIte, hch.cells, hch.flat, hch.bound, hc, call41 he ch xs hch]
    rfl
  · rw [h1] at hc
    simp only [if_true, intA] at hc
    simp -implicitDefEqProofs only [Try.f8, intA, go_sem, ↓reduceIte, hch.cells, hch.flat, hch.bound, hc, call41 he ch xs hch]
    obtain ⟨G, hG⟩ := yields63 he ch xs hch (okCh2_of ht hall) (by rw [← hall.1]; exact ht.chs) 4 Nat _ _ _ _ _ (src14 (e := e) ch) (allIts_two xs) 0 [] trivial
    rw [run14, plus_nil, Nat.zero_add, List.nil_append] at hG
    have hcb := callB_yld (C := Cx e) (me := 8) (d := none) (l := 4) (by simp) hG
    obtain ⟨G', hG'⟩ := trim_plus (H := hp14 ch .ready (allIts xs).length) [] G [.tup []] [] (n := (hp14 ch .ready 0).size) (by rw [hp14_size, hp14_size]; rfl)
    rw [List.nil_append] at hG'
    rw [hG', List.nil_append] at hcb
    refine wp_range0 (f := 69) (first := []) (cap := [.ro (.agg [ch]) 0]) rfl (v := .tup []) (H2 := (hp14 ch .ready (allIts xs).length).plus G') ?_ (r := lp14 ch .ready bdy14) rfl (by intro h; cases h) rfl ?_
    · exact hcb
    · have hd := hd14_of ch (IntKind.i64.wrap (allIts xs).length) G'
      show AtK _ .normal ⟨22, _, [3]⟩ (((hv14 ch .ready (IntKind.i64.wrap (allIts xs).length)).plus G').put 4 .dead)
      rw [hd]
      simp -implicitDefEqProofs only [go_sem, ↓reduceIte, intA, plus_size, hd14_size, settle_none (hd14_size _ _), hd14_row, hd14_kill, ansK_tup2]
end Go.Ev
namespace Go.Ev
open Go.Proofs
set_option maxRecDepth 100000
set_option linter.unusedSimpArgs false
theorem call38 {e : Exts} (he : Quiet e) (t : Txt) (ht : Fits t) (x : AV) (hx : TextA t x) (me : FuncId) (d : Option Tmp) (H : Heap) : callA (Cx e) (lim (Cx e)) me 6 d [x] H = some (.v (.bool (greatT t)), H) :=
  (ans38 t ht x hx).call (ext_6 he) (pure_6 _ _ _) (by obtain ⟨ch, rfl, xs, hch, -⟩ := hx; simp only [boundL_cons, bound_agg, hch.bound, boundL_nil]; rfl) H
theorem call39 {e : Exts} (he : Quiet e) (t : Txt) (ht : Fits t) (x : AV) (hx : TextA t x) (me : FuncId) (d : Option Tmp) (H : Heap) : callA (Cx e) (lim (Cx e)) me 42 d [x] H = some (.v (.bool (textB t)), H) :=
  (ans39 he t ht x hx).call (ext_42 he) (pure_42 _ _ _) (by obtain ⟨ch, rfl, xs, hch, -⟩ := hx; simp only [boundL_cons, bound_agg, hch.bound, boundL_nil]; rfl) H
/-- a place is before another one -/
def beforeB (a b : Int × Int × Int) : Bool := if a.1 ≠ b.1 then decide (a.1 < b.1) else if a.2.1 ≠ b.2.1 then decide (a.2.1 < b.2.1) else decide (a.2.2 < b.2.2)
end Go.Ev
/- Ranges over functions, in a function's own code: a loop's body as a step of a state. -/
namespace Go.Ev
def pend : AExit → Option Code
  | .normal => none
  | .ret => some .ret
  | .exit i => some (.exit i)
theorem jumpOf_pend (e : AExit) : jumpOf e = some (pend e) := by cases e <;> rfl
def isGo : AExit → Bool
  | .normal => true
  | _ => false
theorem pend_none (e : AExit) : (pend e).isNone = isGo e := by cases e <;> rfl
def foldE {S : Type} (stp : S → List AV → AExit × S) : List (List AV) → S → AExit × S
  | [], s => (.normal, s)
  | x :: r, s => match (stp s x).1 with | .normal => foldE stp r (stp s x).2 | e => (e, (stp s x).2)
theorem foldE_go {S : Type} {stp : S → List AV → AExit × S} {x : List AV} {r : List (List AV)} {s : S} (h : (stp s x).1 = .normal) : foldE stp (x :: r) s = foldE stp r (stp s x).2 := by
  simp only [foldE, h]
theorem foldE_out {S : Type} {stp : S → List AV → AExit × S} {x : List AV} {r : List (List AV)} {s : S} (h : (stp s x).1 ≠ .normal) : foldE stp (x :: r) s = stp s x := by
  simp only [foldE]
def busyL (me : FuncId) (n : Nat) (ts : List (Tmp × AV)) (ps : Array Tmp) (asg body : Code) (d : Nat) (st : LoopState) (p : Option Code) : ALoop := { fn := me, state := st, pending := p, size := n, tmps := ts, params := ps, assign := asg, body := body, dfr := d }
def stateOf (e : AExit) : LoopState := if (pend e).isNone then .ready else .done
def hpR {S : Type} (hb : S → Heap) (L : LoopState → Option Code → ALoop) (q : S × AExit) : Heap := (hb q.1).plus [some .dfr, some (.loop (L (stateOf q.2) (pend q.2)))]
/-- what a body does -/
def rngK {S : Type} (hb : S → Heap) (L : ALoop) (E : List (Option AObj)) (p : AExit × S) : Post := fun e _ H => e = p.1 ∧ ∃ G, H = (hb p.2).plus (some .dfr :: some (.loop L) :: (E ++ G))
theorem rngK_at {S : Type} (hb : S → Heap) (L : ALoop) (E : List (Option AObj)) (p : AExit × S) (e : AExit) (a : AAct) (H : Heap) : AtK (rngK hb L E p) e a H = (e = p.1 ∧ ∃ G, H = (hb p.2).plus (some .dfr :: some (.loop L) :: (E ++ G))) := rfl
/-- between what takes a thing over and the body -/
def asK {S : Type} (C : Cfg) (me : FuncId) (l : Nat) (body : Code) (hb : S → Heap) (L L' : ALoop) (E : List (Option AObj)) (s : S) (p : AExit × S) : Post := fun e a H => e = .normal ∧ ∃ G, H = (hb s).plus (some .dfr :: some (.loop L) :: (E ++ G)) ∧ Wp C me (some l) body a ((hb s).plus (some .dfr :: some (.loop L') :: (E ++ G))) (rngK hb L' E p)
theorem asK_mk {S : Type} {C : Cfg} {me : FuncId} {l : Nat} {body : Code} {hb : S → Heap} {L L' : ALoop} {E : List (Option AObj)} {s : S} {p : AExit × S} {a : AAct} {H : Heap} (G : List (Option AObj)) (hH : H = (hb s).plus (some .dfr :: some (.loop L) :: (E ++ G))) (h : Wp C me (some l) body a ((hb s).plus (some .dfr :: some (.loop L') :: (E ++ G))) (rngK hb L' E p)) : AtK (asK C me l body hb L L' E s p) .normal a H := ⟨rfl, G, hH, h⟩
section
variable {C : Cfg} {me : FuncId} {S : Type} {hb : S → Heap} {stp : S → List AV → AExit × S} {lv : S → Prop} {ok : List AV → Prop} {n0 : Nat}
theorem hget_at {H : Heap} (hn : H.size = n0) (L : ALoop) (E : List (Option AObj)) : loopObj (H.plus (some .dfr :: some (.loop L) :: E)) (n0 + 1) = some L := by
  have := plus_mid_get hn [some .dfr] E (some (.loop L))
  unfold loopObj
  rw [show n0 + 1 = n0 + [some AObj.dfr].length from rfl, show some AObj.dfr :: some (.loop L) :: E = [some .dfr] ++ some (.loop L) :: E from rfl, this]
theorem hput_at {H : Heap} (hn : H.size = n0) (L : ALoop) (o : AObj) (E : List (Option AObj)) : (H.plus (some .dfr :: some (.loop L) :: E)).put (n0 + 1) o = H.plus (some .dfr :: some o :: E) :=
  plus_mid_put hn [some .dfr] E (some (.loop L)) o
theorem src_range {sz : Nat} {ts : List (Tmp × AV)} {ps : Array Tmp} {asg body : Code} (hsz : ∀ s, (hb s).size = n0) (hk : ∀ s, (hb s).lock ≤ n0)
    (hlv : ∀ s x, lv s → ok x → (stp s x).1 = .normal → lv (stp s x).2)
    (hbody : ∀ (L L' : ALoop) s x E, L'.dfr = n0 → lv s → ok x → x.length = ps.size → Wp C me (some (n0 + 1)) asg ⟨sz, setTmps sz ts (ps.toList.zip x), []⟩ ((hb s).plus (some .dfr :: some (.loop L) :: E)) (asK C me (n0 + 1) body hb L L' E s (stp s x))) :
    Src C (n0 + 1) (S × AExit) (hpR hb (busyL me sz ts ps asg body n0)) (fun q x => (isGo (stp q.1 x).1, ((stp q.1 x).2, (stp q.1 x).1))) (fun x => ok x ∧ x.length = ps.size) (fun q => lv q.1 ∧ q.2 = .normal) (n0 + 2) := by
  refine ⟨fun q => ?_, by omega, fun q => ?_, fun q x hl ho hs => ?_, fun q x E hl ho => ?_⟩
  · unfold hpR; rw [plus_size, hsz]; rfl
  · have := hk q.1; show (hb q.1).lock ≤ n0 + 1; omega
  · obtain ⟨s, e⟩ := q
    simp only at hl hs ⊢
    have he : (stp s x).1 = .normal := by
      cases h : (stp s x).1 <;> rw [h] at hs <;> first | rfl | cases hs
    exact ⟨hlv s x hl.1 ho.1 he, he⟩
  · obtain ⟨s, e⟩ := q
    obtain ⟨hl1, rfl⟩ := hl
    simp only
    have hbeg : ∀ (s : S) (e : AExit) (E : List (Option AObj)), (hpR hb (busyL me sz ts ps asg body n0) (s, e)).plus E = (hb s).plus (some .dfr :: some (.loop (busyL me sz ts ps asg body n0 (stateOf e) (pend e))) :: E) := by
      intro s e E; unfold hpR; rw [plus_plus]; rfl
    rw [hbeg]
    have key := round_step (C := C) (l := n0 + 1) (args := x) (H := (hb s).plus (some .dfr :: some (.loop (busyL me sz ts ps asg body n0 (stateOf .normal) (pend .normal))) :: E)) (r := busyL me sz ts ps asg body n0 .ready none) (K := fun b H' => b = isGo (stp s x).1 ∧ ∃ G, H' = (hpR hb (busyL me sz ts ps asg body n0) ((stp s x).2, (stp s x).1)).plus (E ++ G)) (hget_at (hsz s) _ _) ho.2 (by have := hk s; show (hb s).lock ≤ n0 + 1; omega) ?_
    · obtain ⟨b, H', h1, rfl, G, rfl⟩ := key
      exact ⟨G, h1⟩
    · refine Wp_mono (hbody (busyL me sz ts ps asg body n0 .ready none) (busyL me sz ts ps asg body n0 .busy none) s x E rfl hl1 ho.1 ho.2) ?_
      rintro e0 a0 H0 ⟨rfl, G0, rfl, hb0⟩
      refine asgK_mk (r1 := busyL me sz ts ps asg body n0 .ready none) (hget_at (hsz s) _ _) rfl ?_
      rw [hput_at (hsz s)]
      refine Wp_mono hb0 ?_
      rintro e1 a1 H1 ⟨rfl, G, rfl⟩
      refine bodyK_mk (r3 := busyL me sz ts ps asg body n0 .busy none) (j := pend (stp s x).1) (hget_at (hsz _) _ _) (jumpOf_pend _) ⟨pend_none _, ?_⟩
      have e1 : ({ busyL me sz ts ps asg body n0 .busy none with state := if (pend (stp s x).1).isNone then .ready else .done, pending := pend (stp s x).1 } : ALoop) = busyL me sz ts ps asg body n0 (stateOf (stp s x).1) (pend (stp s x).1) := rfl
      rw [e1, hput_at (hsz _), ← hbeg]
      exact trim_plus E G [] [] (by unfold hpR; rw [plus_size, plus_size, hsz, hsz]; simp; omega)
theorem run_range (stp : S → List AV → AExit × S) : ∀ (items : List (List AV)) (s : S), runIt (fun (q : S × AExit) x => (isGo (stp q.1 x).1, ((stp q.1 x).2, (stp q.1 x).1))) items (s, .normal) = (isGo (foldE stp items s).1, ((foldE stp items s).2, (foldE stp items s).1))
  | [], s => rfl
  | x :: r, s => by
    have ih := run_range stp r (stp s x).2
    unfold runIt
    simp only
    cases h : (stp s x).1 with
    | normal =>
      rw [if_pos (show isGo .normal = true from rfl), ih, foldE_go h]
    | exit i => rw [if_neg (show ¬ isGo (.exit i) = true from fun h => nomatch h), foldE_out (by rw [h]; intro h; cases h), h]; rfl
    | ret => rw [if_neg (show ¬ isGo .ret = true from fun h => nomatch h), foldE_out (by rw [h]; intro h; cases h), h]; rfl
theorem wp_rangeH {f : FuncId} {cap : List AV} {items : List (List AV)} (hy : Yields C f cap items) {g : Operand} {ps : Array Tmp} {asg body : Code} {a : AAct} {H : Heap} {K : Post} (hg : a.eval g = some (.fn (.func f) [] cap))
    (hb : S → Heap) (stp : S → List AV → AExit × S) (lv : S → Prop) (ok : List AV → Prop) {n0 : Nat} (hsz : ∀ s, (hb s).size = n0) (hk : ∀ s, (hb s).lock ≤ n0) (hok : ∀ x ∈ items, ok x ∧ x.length = ps.size)
    (hlv : ∀ s x, lv s → ok x → (stp s x).1 = .normal → lv (stp s x).2)
    (hbody : ∀ (L L' : ALoop) s x E, L'.dfr = n0 → lv s → ok x → x.length = ps.size → Wp C me (some (n0 + 1)) asg ⟨a.size, setTmps a.size a.tmps (ps.toList.zip x), []⟩ ((hb s).plus (some .dfr :: some (.loop L) :: E)) (asK C me (n0 + 1) body hb L L' E s (stp s x)))
    (s0 : S) (h0 : lv s0) (hH : H = hb s0)
    (hK : ∀ G, AtK K (foldE stp items s0).1 ⟨a.size, a.tmps, n0 :: a.marks⟩ ((hb (foldE stp items s0).2).plus (some .dfr :: some .dead :: G))) :
    Wp C me none (.rangeFunc g ps asg body) a H K := by
  subst hH
  obtain ⟨G, hG⟩ := hy (n0 + 1) (S × AExit) _ _ _ _ _ (src_range (ps := ps) hsz hk hlv hbody) hok (s0, .normal) [] ⟨h0, rfl⟩
  rw [run_range, plus_nil, List.nil_append] at hG
  have hcb := callB_yld (C := C) (me := me) (d := none) (l := n0 + 1) (by simp) hG
  generalize hp : foldE stp items s0 = p at hcb hK
  obtain ⟨G', hG'⟩ := trim_plus (H := hpR hb (busyL me a.size a.tmps ps asg body n0) (p.2, p.1)) [] G [.tup []] [] (n := (hpR hb (busyL me a.size a.tmps ps asg body n0) (s0, .normal)).size) (by unfold hpR; rw [plus_size, plus_size, hsz, hsz]; simp)
  rw [List.nil_append] at hG'
  rw [hG', List.nil_append] at hcb
  have hsize := hsz s0
  have hH2 : (hpR hb (busyL me a.size a.tmps ps asg body n0) (p.2, p.1)).plus G' = (hb p.2).plus (some .dfr :: some (.loop (busyL me a.size a.tmps ps asg body n0 (stateOf p.1) (pend p.1))) :: G') := by
    unfold hpR; rw [plus_plus]; rfl
  have hfin : ((hpR hb (busyL me a.size a.tmps ps asg body n0) (p.2, p.1)).plus G').put (n0 + 1) .dead = (hb p.2).plus (some .dfr :: some .dead :: G') := by
    rw [hH2, hput_at (hsz p.2)]
  refine wp_range0 (f := f) (first := []) (cap := cap) hg (v := .tup []) (H2 := (hpR hb (busyL me a.size a.tmps ps asg body n0) (p.2, p.1)).plus G') ?_ (r := busyL me a.size a.tmps ps asg body n0 (stateOf p.1) (pend p.1)) ?_ ?_ ?_ ?_
  · rw [hsize]
    have hh : hpR hb (busyL me a.size a.tmps ps asg body n0) (s0, .normal) = ((hb s0).put n0 .dfr).put (n0 + 1) (.loop { fn := me, state := .ready, pending := none, size := a.size, tmps := a.tmps, params := ps, assign := asg, body := body, dfr := n0 }) := by
      have h1 : (hb s0).put n0 .dfr = (hb s0).plus [some .dfr] := by rw [← hsz s0]; exact put_push _
      have h2 := plus_put_end (hsz s0) [some .dfr] (.loop (busyL me a.size a.tmps ps asg body n0 .ready none))
      rw [h1]
      exact h2.symm
    rw [← hh]; exact hcb
  · rw [hsize, hH2]; exact hget_at (hsz _) _ _
  · unfold busyL stateOf; cases p.1 <;> simp [pend]
  · rw [hsize]; rfl
  · rw [hsize]
    have := hK G'
    rw [← hfin] at this
    obtain ⟨e, s⟩ := p
    cases e with
    | normal => exact this
    | ret => exact this
    | exit i => exact this
def lh {S : Type} (hb : S → List (Option AObj)) (k : Nat) (s : S) : Heap := ⟨hb s, k⟩
/-- the same, of memory that is known whole -/
theorem wp_rangeS {f : FuncId} {cap : List AV} {items : List (List AV)} (hy : Yields C f cap items) {g : Operand} {ps : Array Tmp} {asg body : Code} {a : AAct} {H : Heap} {K : Post} (hg : a.eval g = some (.fn (.func f) [] cap))
    (hb : S → List (Option AObj)) (stp : S → List AV → AExit × S) (lv : S → Prop) (ok : List AV → Prop) {n0 k : Nat} (hsz : ∀ s, (hb s).length = n0) (hk : k ≤ n0) (hok : ∀ x ∈ items, ok x ∧ x.length = ps.size)
    (hlv : ∀ s x, lv s → ok x → (stp s x).1 = .normal → lv (stp s x).2)
    (hbody : ∀ (L L' : ALoop) s x E, L'.dfr = n0 → lv s → ok x → x.length = ps.size → Wp C me (some (n0 + 1)) asg ⟨a.size, setTmps a.size a.tmps (ps.toList.zip x), []⟩ ⟨hb s ++ some .dfr :: some (.loop L) :: E, k⟩ (asK C me (n0 + 1) body (lh hb k) L L' E s (stp s x)))
    (s0 : S) (h0 : lv s0) (hH : H = ⟨hb s0, k⟩)
    (hK : ∀ G, AtK K (foldE stp items s0).1 ⟨a.size, a.tmps, n0 :: a.marks⟩ ⟨hb (foldE stp items s0).2 ++ some .dfr :: some .dead :: G, k⟩) :
    Wp C me none (.rangeFunc g ps asg body) a H K :=
  wp_rangeH hy hg (lh hb k) stp lv ok (n0 := n0) hsz (fun _ => hk) hok hlv hbody s0 h0 hH hK
end
/-! ### memory with a tail that is not known -/
@[go_sem] theorem sop_end {α : Type} (x : α) (E : List α) : setOrPush x E.length E = E ++ [x] := by
  have := sop_right x E.length E [] (Nat.le_refl _)
  rw [List.append_nil, Nat.sub_self] at this
  exact this
@[go_sem] theorem sop_end0 {α : Type} (x : α) (E l : List α) : setOrPush x E.length (E ++ l) = E ++ setOrPush x 0 l := by
  rw [sop_right x E.length E l (Nat.le_refl _), Nat.sub_self]
@[go_sem] theorem get_end0 {α : Type} (E l : List α) : (E ++ l)[E.length]? = l[0]? := by
  rw [List.getElem?_append_right (Nat.le_refl _), Nat.sub_self]
@[go_sem] theorem drop_end0 {α : Type} (E l : List α) : (E ++ l).drop E.length = l := by simp
end Go.Ev
/- Loops by a rule: what holds of each round, with a number that goes down. -/
namespace Go.Ev
section
variable {C : Cfg} {me : FuncId} {rd : Option Nat}
abbrev Inv := Nat → AAct → Heap → Prop
def Again (P : Inv) (m : Nat) (a : AAct) (H : Heap) : Prop := ∃ m', m' < m ∧ P m' a H
@[congr] theorem Again_congr {P : Inv} {m : Nat} {a a' : AAct} {H H' : Heap} (ha : a = a') (hH : H = H') : Again P m a H = Again P m a' H' := by rw [ha, hH]
def itK (P : Inv) (m : Nat) (ks : List Tmp) (n : Nat) (K : Post) : Post := fun e a H =>
  match e with
  | .normal => Again P m (a.only ks) (H.trim n ((a.only ks).tmps.map (·.2)) (a.only ks).marks)
  | .exit i => AtK K (.exit i) (a.only ks) (H.trim n ((a.only ks).tmps.map (·.2)) (a.only ks).marks)
  | .ret => AtK K .ret a H
@[go_sem ↓] theorem itK_normal (P : Inv) (m : Nat) (ks : List Tmp) (n : Nat) (K : Post) (s : Nat) (l : List (Tmp × AV)) (ms : List Nat) (H : Heap) : AtK (itK P m ks n K) .normal ⟨s, l, ms⟩ H = bindO (nf (ks.filterMap fun k => (assoc k l).map fun v => (k, v))) fun l' => bindO (nf (H.trim n (l'.map (·.2)) ms)) fun H' => Again P m ⟨s, l', ms⟩ H' := rfl
@[go_sem ↓] theorem itK_exit (P : Inv) (m : Nat) (ks : List Tmp) (n i : Nat) (K : Post) (s : Nat) (l : List (Tmp × AV)) (ms : List Nat) (H : Heap) : AtK (itK P m ks n K) (.exit i) ⟨s, l, ms⟩ H = bindO (nf (ks.filterMap fun k => (assoc k l).map fun v => (k, v))) fun l' => bindO (nf (H.trim n (l'.map (·.2)) ms)) fun H' => AtK K (.exit i) ⟨s, l', ms⟩ H' := rfl
@[go_sem ↓] theorem itK_ret (P : Inv) (m : Nat) (ks : List Tmp) (n : Nat) (K : Post) (a : AAct) (H : Heap) : AtK (itK P m ks n K) .ret a H = AtK K .ret a H := rfl
theorem Lp_rule {ks : List Tmp} {c : Code} {K : Post} (P : Inv) (hstep : ∀ m a H, P m a H → Wp C me rd c a H (itK P m ks H.size K)) : ∀ m a H, P m a H → Lp C me rd ks c a H K := by
  intro m
  induction m using Nat.strongRecOn with
  | _ m ih =>
    intro a H hp
    rw [Lp_step]
    refine Wp_mono (hstep m a H hp) ?_
    intro e a' H' h
    cases e with
    | normal =>
      obtain ⟨m', hm, hp'⟩ := h
      exact ih m' hm _ _ hp'
    | exit i => exact h
    | ret => exact h
/-- the same, the rounds' property and what is behind the loop kept out of sight -/
theorem Lp_ruleQ {ks : List Tmp} {c : Code} {K : Post} (P : Inv) (hstep : ∀ (Q : Inv) (KK : Post), (∀ m a H, P m a H → Q m a H) → (∀ e a H, AtK K e a H → AtK KK e a H) → ∀ m a H, P m a H → Wp C me rd c a H (itK Q m ks H.size KK)) : ∀ m a H, P m a H → Lp C me rd ks c a H K :=
  Lp_rule P (hstep P K (fun _ _ _ h => h) (fun _ _ _ h => h))
theorem Again.mk' {P : Inv} {m : Nat} {a : AAct} {H : Heap} (m' : Nat) (h : m' < m) (hp : P m' a H) : Again P m a H := ⟨m', h, hp⟩
end
/-! ### memory whose end is not known -/
theorem take_len {α : Type} (l : List α) : l.take l.length = l := List.take_length
theorem drop_len {α : Type} (l : List α) : l.drop l.length = [] := List.drop_length
attribute [go_sem] take_len drop_len
/-! ### what a function with ranges leaves -/
def killO (o : Option AObj) (r : List Nat) (b : Nat) (l : List (Option AObj)) (k : Nat) : Option Heap := match o with | some .dfr => if k ≤ b then killAll r ⟨setOrPush (some .dead) b l, k⟩ else none | _ => none
@[go_sem] theorem kill_cons (b : Nat) (r : List Nat) (l : List (Option AObj)) (k : Nat) : killAll (b :: r) ⟨l, k⟩ = killO (l[b]?).join r b l k := by
  unfold killO
  rw [killAll]
  unfold Heap.get
  rcases (l[b]?).join with _ | o
  · rfl
  · cases o <;> rfl
@[go_sem] theorem killO_dfr (r : List Nat) (b : Nat) (l : List (Option AObj)) (k : Nat) : killO (some .dfr) r b l k = if k ≤ b then killAll r ⟨setOrPush (some .dead) b l, k⟩ else none := rfl
end Go.Ev
namespace Go.Ev
open Go.Proofs
set_option maxRecDepth 100000
set_option linter.unusedSimpArgs false
/-! ### words of a text with their places, as plain lists -/
abbrev Plc := Nat × Nat × Nat
def plN (p : Plc) : AV := .agg [intA p.1, intA p.2.1, intA p.2.2]
def wordsL (i j : Nat) : Nat → Line → List (Plc × ByteArray)
  | _, [] => []
  | k, s :: r => ((i, j, k), s) :: wordsL i j (k + 1) r
def wordsC (i : Nat) : Nat → List Line → List (Plc × ByteArray)
  | _, [] => []
  | j, l :: r => wordsL i j 0 l ++ wordsC i (j + 1) r
def wordsT : Nat → Txt → List (Plc × ByteArray)
  | _, [] => []
  | i, c :: r => wordsC i 0 c.2 ++ wordsT (i + 1) r
def itW (x : Plc × ByteArray) : List AV := [plN x.1, .v (.string x.2)]
theorem its_line (i j : Nat) : ∀ (ws : Line) (k : Nat), wIts (intA i) (intA j) k (strs ws) = (wordsL i j k ws).map itW
  | [], _ => rfl
  | s :: r, k => by
    have ih := its_line i j r (k + 1)
    simp only [strs, List.map_cons] at ih ⊢
    simp only [wIts, wordsL, List.map_cons, ih]
    rfl
theorem All2.cons {α β : Type} {R : α → β → Prop} {a : α} {l : List α} {m : List β} (h : All2 R (a :: l) m) : ∃ b m', m = b :: m' ∧ R a b ∧ All2 R l m' := by
  cases m with
  | nil => have := h.1; simp at this
  | cons b m' => exact ⟨b, m', rfl, h.2 0 a b rfl rfl, by simpa using h.1, fun i x y hx hy => h.2 (i + 1) x y (by simpa using hx) (by simpa using hy)⟩
theorem All2.nilI {α β : Type} {R : α → β → Prop} {m : List β} (h : All2 R [] m) : m = [] := by
  cases m with
  | nil => rfl
  | cons b m' => have := h.1; simp at this
theorem expand_line (i j : Nat) (ws : Line) (x : AV) (hx : SlOf 1 (strs ws) x) : expandL [placeA i j 0, x] = (wordsL i j 0 ws).map itW := by
  show wIts (intA i) (intA j) 0 (slElems x) = _
  rw [hx.elems, its_line]
theorem expand_lines (i : Nat) : ∀ (ls : List Line) (xs : List AV) (j : Nat), All2 LineA ls xs → (lineIts i j xs).flatMap expandL = (wordsC i j ls).map itW
  | [], xs, j, h => by rw [h.nilI]; rfl
  | l :: r, xs, j, h => by
    obtain ⟨x, xs', rfl, hx, hr⟩ := h.cons
    simp only [lineIts, List.flatMap_cons, wordsC, List.map_append]
    rw [expand_line i j l x hx, expand_lines i r xs' (j + 1) hr]
theorem expand_chaps : ∀ (t : Txt) (xs : List AV) (i : Nat), All2 ChapA t xs → (chapIts i xs).flatMap expandL = (wordsT i t).map itW
  | [], xs, i, h => by rw [h.nilI]; rfl
  | c :: r, xs, i, h => by
    obtain ⟨x, xs', rfl, ⟨l, rfl, lxs, hl, hls⟩, hr⟩ := h.cons
    simp only [chapIts, linesOf, List.flatMap_append, wordsT, List.map_append]
    rw [hl.elems, expand_lines i c.2 lxs 0 hls, expand_chaps r xs' (i + 1) hr]
theorem allIts_eq {t : Txt} {xs : List AV} (h : All2 ChapA t xs) : allIts xs = (wordsT 0 t).map itW := expand_chaps t xs 0 h
/-! ### their order -/
def plLt (a b : Plc) : Prop := a.1 < b.1 ∨ (a.1 = b.1 ∧ (a.2.1 < b.2.1 ∨ (a.2.1 = b.2.1 ∧ a.2.2 < b.2.2)))
theorem wordsL_mem (i j : Nat) : ∀ (ws : Line) (k : Nat) (x : Plc × ByteArray), x ∈ wordsL i j k ws ↔ ∃ w, x.1 = (i, j, k + w) ∧ ws[w]? = some x.2
  | [], k, x => by simp [wordsL]
  | s :: r, k, x => by
    simp only [wordsL, List.mem_cons, wordsL_mem i j r (k + 1)]
    constructor
    · rintro (rfl | ⟨w, h1, h2⟩)
      · exact ⟨0, rfl, rfl⟩
      · exact ⟨w + 1, by rw [h1, show k + 1 + w = k + (w + 1) by omega], by simpa using h2⟩
    · rintro ⟨w, h1, h2⟩
      cases w with
      | zero => left; obtain ⟨a, b⟩ := x; simp at h1 h2; rw [h1, h2]
      | succ w => right; exact ⟨w, by rw [h1, show k + 1 + w = k + (w + 1) by omega], by simpa using h2⟩
theorem wordsC_mem (i : Nat) : ∀ (ls : List Line) (j : Nat) (x : Plc × ByteArray), x ∈ wordsC i j ls ↔ ∃ n w l, x.1 = (i, j + n, w) ∧ ls[n]? = some l ∧ l[w]? = some x.2
  | [], j, x => by simp [wordsC]
  | l :: r, j, x => by
    simp only [wordsC, List.mem_append, wordsL_mem, wordsC_mem i r (j + 1)]
    constructor
    · rintro (⟨w, h1, h2⟩ | ⟨n, w, l', h1, h2, h3⟩)
      · exact ⟨0, w, l, by rw [h1]; simp, rfl, h2⟩
      · exact ⟨n + 1, w, l', by rw [h1, show j + 1 + n = j + (n + 1) by omega], by simpa using h2, h3⟩
    · rintro ⟨n, w, l', h1, h2, h3⟩
      cases n with
      | zero => left; simp at h2; subst h2; exact ⟨w, by rw [h1]; simp, h3⟩
      | succ n => right; exact ⟨n, w, l', by rw [h1, show j + 1 + n = j + (n + 1) by omega], by simpa using h2, h3⟩
theorem wordsT_mem : ∀ (t : Txt) (i : Nat) (x : Plc × ByteArray), x ∈ wordsT i t ↔ ∃ m n w c l, x.1 = (i + m, n, w) ∧ t[m]? = some c ∧ c.2[n]? = some l ∧ l[w]? = some x.2
  | [], i, x => by simp [wordsT]
  | c :: r, i, x => by
    simp only [wordsT, List.mem_append, wordsC_mem, wordsT_mem r (i + 1)]
    constructor
    · rintro (⟨n, w, l, h1, h2, h3⟩ | ⟨m, n, w, c', l, h1, h2, h3, h4⟩)
      · exact ⟨0, n, w, c, l, by rw [h1]; simp, rfl, h2, h3⟩
      · exact ⟨m + 1, n, w, c', l, by rw [h1, show i + 1 + m = i + (m + 1) by omega], by simpa using h2, h3, h4⟩
    · rintro ⟨m, n, w, c', l, h1, h2, h3, h4⟩
      cases m with
      | zero => left; simp at h2; subst h2; exact ⟨n, w, l, by rw [h1]; simp, h3, h4⟩
      | succ m => right; exact ⟨m, n, w, c', l, by rw [h1, show i + 1 + m = i + (m + 1) by omega], by simpa using h2, h3, h4⟩
abbrev upW (l : List (Plc × ByteArray)) : Prop := l.Pairwise fun a b => plLt a.1 b.1
theorem wordsL_up (i j : Nat) : ∀ (ws : Line) (k : Nat), upW (wordsL i j k ws)
  | [], k => List.Pairwise.nil
  | s :: r, k => by
    refine List.Pairwise.cons ?_ (wordsL_up i j r (k + 1))
    intro x hx
    obtain ⟨w, h1, -⟩ := (wordsL_mem i j r (k + 1) x).1 hx
    rw [h1]; exact Or.inr ⟨rfl, Or.inr ⟨rfl, show k < k + 1 + w by omega⟩⟩
theorem wordsC_up (i : Nat) : ∀ (ls : List Line) (j : Nat), upW (wordsC i j ls)
  | [], j => List.Pairwise.nil
  | l :: r, j => by
    refine List.pairwise_append.2 ⟨wordsL_up i j l 0, wordsC_up i r (j + 1), ?_⟩
    intro x hx y hy
    obtain ⟨w, h1, -⟩ := (wordsL_mem i j l 0 x).1 hx
    obtain ⟨n, w', l', h2, -⟩ := (wordsC_mem i r (j + 1) y).1 hy
    rw [h1, h2]; exact Or.inr ⟨rfl, Or.inl (show j < j + 1 + n by omega)⟩
theorem wordsT_up : ∀ (t : Txt) (i : Nat), upW (wordsT i t)
  | [], i => List.Pairwise.nil
  | c :: r, i => by
    refine List.pairwise_append.2 ⟨wordsC_up i c.2 0, wordsT_up r (i + 1), ?_⟩
    intro x hx y hy
    obtain ⟨n, w, l, h1, -⟩ := (wordsC_mem i c.2 0 x).1 hx
    obtain ⟨m, n', w', c', l', h2, -⟩ := (wordsT_mem r (i + 1) y).1 hy
    rw [h1, h2]; exact Or.inl (show i + 0 < i + 1 + m by omega)
theorem up_lt {l : List (Plc × ByteArray)} (h : upW l) {i k : Nat} {x y : Plc × ByteArray} (hx : l[i]? = some x) (hy : l[k]? = some y) (hik : i < k) : plLt x.1 y.1 := by
  obtain ⟨h1, rfl⟩ := List.getElem?_eq_some_iff.1 hx
  obtain ⟨h2, rfl⟩ := List.getElem?_eq_some_iff.1 hy
  exact List.pairwise_iff_getElem.1 h i k h1 h2 hik
end Go.Ev
namespace Go.Ev
open Go.Proofs
set_option maxRecDepth 100000
set_option linter.unusedSimpArgs false
/-! ### a text that is valid is small -/
theorem okFrom_mem : ∀ (t t' : Txt) (j : Nat), okFrom t j t' = true → ∀ c ∈ t', withinB 1 10 [(c.2.length : Int)] = true ∧ c.2.all lineB = true
  | t, [], j, _, c, hc => by cases hc
  | t, c' :: r, j, h, c, hc => by
    simp only [okFrom, Bool.and_eq_true, condC] at h
    rcases List.mem_cons.1 hc with rfl | hc
    · exact ⟨h.1.1.1.2, h.1.2⟩
    · exact okFrom_mem t r (j + 1) h.2 c hc
structure Small (t : Txt) : Prop where
  chs : 1 ≤ t.length ∧ t.length ≤ 6
  lines : ∀ c ∈ t, 1 ≤ c.2.length ∧ c.2.length ≤ 10
  words : ∀ c ∈ t, ∀ l ∈ c.2, 1 ≤ l.length ∧ l.length ≤ 10
  word : ∀ c ∈ t, ∀ l ∈ c.2, ∀ s ∈ l, wordB s = true
theorem small_of {t : Txt} (h : textB t = true) : Small t := by
  unfold textB at h
  simp only [Bool.and_eq_true] at h
  obtain ⟨h1, h2⟩ := h
  have hl : ∀ c ∈ t, ∀ l ∈ c.2, lineB l = true := fun c hc l hl => List.all_eq_true.1 (okFrom_mem t t 0 h2 c hc).2 l hl
  refine ⟨?_, fun c hc => ?_, fun c hc l hlm => ?_, fun c hc l hlm s hs => ?_⟩
  · rw [range1] at h1; simp at h1; omega
  · have := (okFrom_mem t t 0 h2 c hc).1
    rw [range1] at this; simp at this; omega
  · have := hl c hc l hlm
    unfold lineB at this
    rw [range1] at this; simp at this; omega
  · have := hl c hc l hlm
    unfold lineB at this
    simp only [Bool.and_eq_true] at this
    exact List.all_eq_true.1 this.2 s hs
theorem wordsL_len (i j : Nat) : ∀ (ws : Line) (k : Nat), (wordsL i j k ws).length = ws.length
  | [], _ => rfl
  | _ :: r, k => by simp [wordsL, wordsL_len i j r]
theorem wordsC_len (i : Nat) : ∀ (ls : List Line) (j : Nat), (∀ l ∈ ls, l.length ≤ 10) → (wordsC i j ls).length ≤ 10 * ls.length
  | [], _, _ => Nat.le_refl _
  | l :: r, j, h => by
    have := wordsC_len i r (j + 1) fun l hl => h l (List.mem_cons_of_mem _ hl)
    have := h l List.mem_cons_self
    simp [wordsC, wordsL_len]; omega
theorem wordsT_len : ∀ (t : Txt) (i : Nat), (∀ c ∈ t, c.2.length ≤ 10 ∧ ∀ l ∈ c.2, l.length ≤ 10) → (wordsT i t).length ≤ 100 * t.length
  | [], _, _ => Nat.le_refl _
  | c :: r, i, h => by
    have h1 := wordsT_len r (i + 1) fun c hc => h c (List.mem_cons_of_mem _ hc)
    have h2 := h c List.mem_cons_self
    have h3 := wordsC_len i c.2 0 h2.2
    simp [wordsT]; omega
theorem wordsT_small {t : Txt} (h : Small t) : 1 ≤ (wordsT 0 t).length ∧ (wordsT 0 t).length ≤ 600 := by
  have h1 := wordsT_len t 0 fun c hc => ⟨(h.lines c hc).2, fun l hl => (h.words c hc l hl).2⟩
  have := h.chs
  refine ⟨?_, by omega⟩
  obtain ⟨c, hc⟩ := at_lt t 0 (by omega)
  have hcm := List.mem_of_getElem? hc
  obtain ⟨l, hl⟩ := at_lt c.2 0 (h.lines c hcm).1
  obtain ⟨s, hs⟩ := at_lt l 0 (h.words c hcm l (List.mem_of_getElem? hl)).1
  have := (wordsT_mem t 0 ((0, 0, 0), s)).2 ⟨0, 0, 0, c, l, rfl, hc, hl, hs⟩
  exact List.length_pos_of_mem this
def zeroP : Plc := (0, 0, 0)
def plOf (x : List AV) : Plc := match x with | [.agg [.v (.int _ a), .v (.int _ b), .v (.int _ c)], _] => (a.toNat, b.toNat, c.toNat) | _ => zeroP
theorem plOf_it (x : Plc × ByteArray) : plOf (itW x) = x.1 := by simp [plOf, itW, plN, intA]
def okW (x : List AV) : Prop := ∃ p s, x = itW (p, s)
theorem okW_all (t : Txt) (i : Nat) : ∀ x ∈ (wordsT i t).map itW, okW x ∧ x.length = 2 := by
  intro x hx
  obtain ⟨y, -, rfl⟩ := List.mem_map.1 hx
  exact ⟨⟨y.1, y.2, rfl⟩, rfl⟩
theorem wrap_wrap' (n : Nat) : IntKind.i64.wrap (IntKind.i64.wrap n + 1) = IntKind.i64.wrap ((n + 1 : Nat) : Int) := by
  rw [wrap_wrap]; rfl
theorem wrap_nat (n : Nat) (h : n < 2 ^ 62) : IntKind.i64.wrap (n : Int) = (n : Int) := wrap_in _ (by omega) (by omega)
/-! ### the first that is found, by a counter -/
def stpF (q : Nat → Plc → Bool) (s : Nat × Plc) (x : List AV) : AExit × (Nat × Plc) := if q s.1 (plOf x) then (.ret, (s.1, plOf x)) else (.normal, (s.1 + 1, s.2))
theorem foldF (q : Nat → Plc → Bool) : ∀ (l : List (Plc × ByteArray)) (c : Nat), (∃ k x, l[k]? = some x ∧ q (c + k) x.1 = true ∧ (∀ j y, j < k → l[j]? = some y → q (c + j) y.1 = false) ∧ foldE (stpF q) (l.map itW) (c, zeroP) = (.ret, (c + k, x.1))) ∨
    ((∀ j y, l[j]? = some y → q (c + j) y.1 = false) ∧ foldE (stpF q) (l.map itW) (c, zeroP) = (.normal, (c + l.length, zeroP)))
  | [], c => Or.inr ⟨fun j y h => by simp at h, rfl⟩
  | x :: r, c => by
    cases hq : q c x.1
    · have hs : stpF q (c, zeroP) (itW x) = (.normal, (c + 1, zeroP)) := by unfold stpF; rw [plOf_it, hq]; rfl
      rw [List.map_cons, foldE_go (by rw [hs]), hs]
      rcases foldF q r (c + 1) with ⟨k, y, h1, h2, h3, h4⟩ | ⟨h1, h2⟩
      · refine Or.inl ⟨k + 1, y, by simpa using h1, by rw [show c + (k + 1) = c + 1 + k by omega]; exact h2, fun j z hj hz => ?_, by rw [h4, show c + (k + 1) = c + 1 + k by omega]⟩
        cases j with
        | zero => simp at hz; subst hz; exact hq
        | succ j => rw [show c + (j + 1) = c + 1 + j by omega]; exact h3 j z (by omega) (by simpa using hz)
      · refine Or.inr ⟨fun j z hz => ?_, by rw [h2]; simp; omega⟩
        cases j with
        | zero => simp at hz; subst hz; exact hq
        | succ j => rw [show c + (j + 1) = c + 1 + j by omega]; exact h1 j z (by simpa using hz)
    · have hs : stpF q (c, zeroP) (itW x) = (.ret, (c, x.1)) := by unfold stpF; rw [plOf_it, hq]; rfl
      refine Or.inl ⟨0, x, rfl, hq, fun j z hj _ => by omega, ?_⟩
      rw [List.map_cons, foldE_out (by rw [hs]; intro h; cases h), hs]; rfl
end Go.Ev
namespace Go.Ev
open Go.Proofs
set_option maxRecDepth 100000
set_option linter.unusedSimpArgs false
/-! ### PlaceOf -/
def hb15 (ch : AV) (n : Int) (s : Nat × Plc) : List (Option AObj) := [some (.cells 0 0 24 1 false [ch]), some (.cells 0 0 3 1 false [intA n]), some (.cells 0 0 26 1 false [intA s.2.1, intA s.2.2.1, intA s.2.2.2]), some (.cells 0 0 29 1 false [intA 0]), some (.cells 0 0 89 1 false [ch]), some (.cells 0 0 3 1 false [intA (IntKind.i64.wrap s.1)])]
def q15 (n : Int) (c : Nat) (_ : Plc) : Bool := decide (IntKind.i64.wrap c = n)
def placeR (l : List (Plc × ByteArray)) (n : Int) : AV := if 0 ≤ n ∧ n < l.length then .tup [plN ((l.map (·.1)).getD n.toNat zeroP), intA 0] else .tup [plN zeroP, intA 2]
def placeOfR (t : Txt) (n : Int) : AV := if textB t then placeR (wordsT 0 t) n else .tup [plN zeroP, intA 10]
set_option maxHeartbeats 2000000 in
theorem ans15 {e : Exts} (he : Quiet e) (t : Txt) (ht : Fits t) (ch : AV) (xs : List AV) (hch : SlOf 2 xs ch) (hall : All2 ChapA t xs) (n : Int) : Ans (Cx e) 16 [.agg [ch], intA n] (placeOfR t n) := by
  have hc := call40 he t ht ch ⟨xs, hch, hall⟩
  have hy := yields63 he ch xs hch (okCh2_of ht hall) (by rw [← hall.1]; exact ht.chs)
  rw [allIts_eq hall] at hy
  unfold Ans placeOfR
  rw [fn_step (fn_16 e) (show Try.f16.body = some _ from rfl)]
  cases h1 : textB t
  · rw [h1] at hc
    simp only [Bool.false_eq_true, if_false, intA] at hc
    simp -implicitDefEqProofs only [Try.f16, go_sem, ↓reduceIte, Int.reduceEq, Int.reduceLT, Int.reduceLE, List.zip_cons_cons, List.zip_nil_right, List.zip_nil_left, setT_nil, setT_cons, intA, hch.cells, hch.flat, hch.bound, hc]
    rfl
  · rw [h1] at hc
    simp only [if_true, intA] at hc
    simp -implicitDefEqProofs only [Try.f16, go_sem, ↓reduceIte, Int.reduceEq, Int.reduceLT, Int.reduceLE, List.zip_cons_cons, List.zip_nil_right, List.zip_nil_left, setT_nil, setT_cons, intA, hch.cells, hch.flat, hch.bound, hc, call41 he ch xs hch]
    refine wp_rangeS hy rfl (hb15 ch n) (stpF (q15 n)) (fun _ => True) okW (n0 := 6) (k := 0) (fun _ => rfl) (by omega) (okW_all t 0) (fun _ _ _ _ _ => trivial) ?_ (0, zeroP) trivial rfl ?_
    · rintro L L' s x E - - ⟨p, w, rfl⟩ -
      have hs : stpF (q15 n) s (itW (p, w)) = if decide (IntKind.i64.wrap s.1 = n) = true then (.ret, (s.1, p)) else (.normal, (s.1 + 1, s.2)) := by unfold stpF q15; rw [plOf_it]
      rw [hs]
      simp -implicitDefEqProofs only [go_sem, ↓reduceIte, Int.reduceEq, Int.reduceLT, Int.reduceLE, List.zip_cons_cons, List.zip_nil_right, List.zip_nil_left, setT_nil, setT_cons, intA, hb15, itW, plN]
      refine asK_mk [some (.cells 0 0 26 1 false [intA p.1, intA p.2.1, intA p.2.2])] rfl ?_
      simp only [lh, Heap.plus]
      cases hn : decide (IntKind.i64.wrap s.1 = n)
      · simp -implicitDefEqProofs only [go_sem, ↓reduceIte, Int.reduceEq, Int.reduceLT, Int.reduceLE, List.zip_cons_cons, List.zip_nil_right, List.zip_nil_left, setT_nil, setT_cons, intA, hb15, hn]
        simp only [rngK_at, true_and, wrap_wrap']
        exact ⟨[some (.cells 0 0 26 1 false [intA p.1, intA p.2.1, intA p.2.2])], rfl⟩
      · simp -implicitDefEqProofs only [go_sem, ↓reduceIte, Int.reduceEq, Int.reduceLT, Int.reduceLE, List.zip_cons_cons, List.zip_nil_right, List.zip_nil_left, setT_nil, setT_cons, intA, hb15, hn]
        simp only [rngK_at, true_and]
        exact ⟨[some (.cells 0 0 26 1 false [intA p.1, intA p.2.1, intA p.2.2])], rfl⟩
    · intro G
      have hlen := wordsT_small (small_of h1)
      rcases foldF (q15 n) (wordsT 0 t) 0 with ⟨k, x, hk, hq, -, hf⟩ | ⟨hq, hf⟩
      · rw [hf]
        have hkl := (List.getElem?_eq_some_iff.1 hk).1
        unfold q15 at hq
        rw [wrap_nat _ (by omega), decide_eq_true_eq] at hq
        simp -implicitDefEqProofs only [go_sem, ↓reduceIte, Int.reduceEq, Int.reduceLT, Int.reduceLE, List.zip_cons_cons, List.zip_nil_right, List.zip_nil_left, setT_nil, setT_cons, intA, hb15]
        unfold placeR
        rw [if_pos (by omega), ← hq]
        simp [hk, plN, intA]
        rfl
      · rw [hf]
        simp -implicitDefEqProofs only [go_sem, ↓reduceIte, Int.reduceEq, Int.reduceLT, Int.reduceLE, List.zip_cons_cons, List.zip_nil_right, List.zip_nil_left, setT_nil, setT_cons, intA, hb15]
        have hno : ¬ (0 ≤ n ∧ n < ((wordsT 0 t).length : Int)) := by
          rintro ⟨h2, h3⟩
          obtain ⟨x, hx⟩ := at_lt (wordsT 0 t) n.toNat (by omega)
          have := hq _ _ hx
          unfold q15 at this
          rw [wrap_nat _ (by omega)] at this
          simp at this; omega
        unfold placeR
        rw [if_neg hno]
        rfl
end Go.Ev
/- Structs that are compared. -/
namespace Go.Ev
section
variable {P : Program}
theorem rp_bind {α β : Type} : ∀ (s : Sem α) (f : α → Sem β), runPure P (s >>= f) = (runPure P s).bind fun x => runPure P (f x) := by
  intro s f
  show runPure P (s.bind f) = _
  induction s with
  | pure a => rfl
  | program k ih => exact ih P
  | mark m k ih => exact ih
  | _ => rfl
theorem rp_pure {α : Type} (x : α) : runPure P (pure x : Sem α) = some x := rfl
theorem rp_program : runPure P program = some P := rfl
theorem rp_underlying {t : TypeId} {d : TypeDesc} (h : P.underlying t = some d) : runPure P (underlying t) = some d := by
  unfold underlying
  rw [rp_bind, rp_program, Option.bind_some, h]; rfl
theorem rp_ite {α : Type} (c : Prop) [Decidable c] (x y : Sem α) : runPure P (if c then x else y) = if c then runPure P x else runPure P y := by split <;> rfl
theorem rp_struct {t : TypeId} {fs : Array Field} (hu : P.underlying t = some (.struct fs)) (hst : P.stoodInHeld t = false) (xs ys : Array Value) (d : Nat) : runPure P (Op.equalIn (d + 1) t (.agg xs) (.agg ys)) = runPure P (Op.eqFields d xs ys fs.toList) := by
  unfold Op.equalIn
  simp only [rp_bind, rp_underlying hu, Option.bind_some, rp_program, hst]
  simp only [Bool.false_eq_true, if_false, rp_bind]
  rw [← Array.forIn_toList]
  induction fs.toList with
  | nil => simp [Op.eqFields, rp_pure]
  | cons f r ih =>
    simp only [List.forIn_cons, Op.eqFields, rp_bind, rp_ite]
    split
    · cases runPure P (part f.type xs f.offset) with
      | none => rfl
      | some a =>
        simp only [Option.bind_some]
        cases runPure P (part f.type ys f.offset) with
        | none => rfl
        | some b =>
          simp only [Option.bind_some]
          cases runPure P (Op.equalIn d f.type a b) with
          | none => rfl
          | some r =>
            cases r
            · simp only [Option.bind_some, Bool.not_false, if_true, rp_pure]
            · simp only [Option.bind_some, Bool.not_true, Bool.false_eq_true, if_false, rp_pure]
              exact ih
    · simp only [rp_pure, Option.bind_some]
      exact ih
theorem rp_int {t : TypeId} {k' : IntKind} (hu : P.underlying t = some (.int k')) (k : IntKind) (a b : Int) (d : Nat) : runPure P (Op.equalIn (d + 1) t (.int k a) (.int k b)) = some (decide (a = b)) := by
  unfold Op.equalIn
  simp only [rp_bind, rp_underlying hu, Option.bind_some, if_true]
  have : (a == b) = decide (a = b) := rfl
  rw [this]; rfl
theorem rp_bool {t : TypeId} (hu : P.underlying t = some .bool) (a b : Bool) (d : Nat) : runPure P (Op.equalIn (d + 1) t (.bool a) (.bool b)) = some (a == b) := by
  unfold Op.equalIn
  simp only [rp_bind, rp_underlying hu, Option.bind_some]
  rfl
theorem beqB (a b : ByteArray) : (a == b) = decide (a = b) := by
  obtain ⟨⟨x⟩⟩ := a
  obtain ⟨⟨y⟩⟩ := b
  show ((⟨x⟩ : Array UInt8) == ⟨y⟩) = _
  by_cases h : x = y
  · subst h; simp
  · simp [h]
theorem rp_string {t : TypeId} (hu : P.underlying t = some .string) (a b : ByteArray) (d : Nat) : runPure P (Op.equalIn (d + 1) t (.string a) (.string b)) = some (decide (a = b)) := by
  unfold Op.equalIn
  simp only [rp_bind, rp_underlying hu, Option.bind_some]
  rw [beqB]; rfl
/-! ### of cells that stand for themselves -/
def eqCell : Value → Value → Bool
  | .int _ m, .int _ n => decide (m = n)
  | .string a, .string b => decide (a = b)
  | .bool a, .bool b => a == b
  | _, _ => false
def eqCells : List Value → List Value → Bool
  | [], [] => true
  | x :: r, y :: s => eqCell x y && eqCells r s
  | _, _ => false
theorem eqCells_append : ∀ (a b c d : List Value), a.length = b.length → eqCells (a ++ c) (b ++ d) = (eqCells a b && eqCells c d)
  | [], [], c, d, _ => by simp [eqCells]
  | [], _ :: _, c, d, h => by simp at h
  | _ :: _, [], c, d, h => by simp at h
  | x :: a, y :: b, c, d, h => by simp only [List.cons_append, eqCells, eqCells_append a b c d (by simpa using h), Bool.and_assoc]
/-- the fields lie one behind the other, from k on up to the end -/
def tiledE (P : Program) : Nat → List Field → Nat → Bool
  | k, [], e => k == e
  | k, f :: r, e => f.offset == k && f.name != "_" && tiledE P (k + P.cellsOf f.type) r e
/-- cells that a comparison of this type takes -/
def eqOk (P : Program) : Nat → TypeId → List Value → List Value → Bool
  | 0, _, _, _ => false
  | n + 1, t, us, ws => (P.info? t).isSome &&
    match P.underlying t with
    | some .bool => match us, ws with | [.bool _], [.bool _] => true | _, _ => false
    | some (.int _) => match us, ws with | [.int k _], [.int k' _] => decide (k = k') | _, _ => false
    | some .string => match us, ws with | [.string _], [.string _] => true | _, _ => false
    | some (.struct fs) => !P.stoodInHeld t && tiledE P 0 fs.toList us.length && us.length == ws.length && P.cellsOf t == us.length && fs.toList.all fun f => eqOk P n f.type ((us.drop f.offset).take (P.cellsOf f.type)) ((ws.drop f.offset).take (P.cellsOf f.type))
    | _ => false
def isStr (P : Program) (t : TypeId) : Bool := match P.underlying t with | some (.struct _) => true | _ => false
def valOf (P : Program) (t : TypeId) (us : List Value) : Value := if isStr P t then .agg us.toArray else us.headD (.bool false)
theorem rp_info {t : TypeId} {i : TypeInfo} (h : P.info? t = some i) : runPure P (typeInfo t) = some i := by
  unfold typeInfo
  rw [rp_bind, rp_program, Option.bind_some, h]; rfl
theorem rp_isAgg {t : TypeId} {d : TypeDesc} (h : P.underlying t = some d) : runPure P (isAgg t) = some (match d with | .struct _ | .array _ _ => true | _ => false) := by
  unfold isAgg
  rw [rp_bind, rp_underlying h, Option.bind_some]
  cases d <;> rfl
theorem rp_part_one {t : TypeId} {d : TypeDesc} (hu : P.underlying t = some d) (hd : (match d with | .struct _ | .array _ _ => true | _ => false) = false) {xs : List Value} {k c : Nat} {u : Value} (hx : (xs.drop k).take c = [u]) : runPure P (part t xs.toArray k) = some u := by
  unfold part
  rw [rp_bind, rp_isAgg hu, Option.bind_some, hd]
  have h0 : xs.toArray[k]? = some u := Go.getElem?_of_chunk (c := c) (by simpa using hx)
  simp only [Bool.false_eq_true, if_false, h0]
  rfl
theorem rp_part_agg {t : TypeId} {fs : Array Field} (hu : P.underlying t = some (.struct fs)) {i : TypeInfo} (hi : P.info? t = some i) (xs : List Value) (k : Nat) : runPure P (part t xs.toArray k) = some (.agg ((xs.drop k).take (P.cellsOf t)).toArray) := by
  unfold part
  rw [rp_bind, rp_isAgg hu, Option.bind_some]
  simp only [if_true]
  unfold sizeOf
  simp only [rp_bind, rp_info hi, Option.bind_some, rp_pure]
  unfold Program.cellsOf
  rw [hi]
  simp [List.extract_toArray]
theorem eqOk_len {n t : Nat} {us ws : List Value} (h : eqOk P n t us ws = true) : us.length = ws.length := by
  cases n with
  | zero => cases h
  | succ n =>
    unfold eqOk at h
    simp only [Bool.and_eq_true] at h
    replace h := h.2
    split at h
    · split at h <;> first | rfl | cases h
    · split at h <;> first | rfl | cases h
    · split at h <;> first | rfl | cases h
    · simp only [Bool.and_eq_true, beq_iff_eq] at h; exact h.1.1.2
    · cases h
theorem rp_eq : ∀ (n : Nat) (t : TypeId) (us ws : List Value), eqOk P n t us ws = true → ∀ K, n ≤ K → (∀ (xs : List Value) (k : Nat), (xs.drop k).take (P.cellsOf t) = us → runPure P (part t xs.toArray k) = some (valOf P t us)) ∧ (∀ (xs : List Value) (k : Nat), (xs.drop k).take (P.cellsOf t) = ws → runPure P (part t xs.toArray k) = some (valOf P t ws)) ∧ runPure P (Op.equalIn K t (valOf P t us) (valOf P t ws)) = some (eqCells us ws)
  | 0, _, _, _, h, _, _ => by cases h
  | n + 1, t, us, ws, h, 0, hK => by omega
  | n + 1, t, us, ws, h, K + 1, hK => by
    unfold eqOk at h
    simp only [Bool.and_eq_true] at h
    obtain ⟨hi, h⟩ := h
    obtain ⟨i, hi⟩ := Option.isSome_iff_exists.1 hi
    cases hu : P.underlying t with
    | none => rw [hu] at h; cases h
    | some d =>
      rw [hu] at h
      have hv : ∀ l, valOf P t l = if (match d with | .struct _ => true | _ => false) then .agg l.toArray else l.headD (.bool false) := by
        intro l; unfold valOf isStr; rw [hu]; cases d <;> rfl
      cases d <;> try (cases h; done)
      case bool =>
        simp only at h
        split at h
        · rw [hv, hv]
          exact ⟨fun xs k hx => rp_part_one hu rfl hx, fun xs k hx => rp_part_one hu rfl hx, (rp_bool hu _ _ K).trans (congrArg some (Bool.and_true _).symm)⟩
        · cases h
      case int =>
        simp only at h
        split at h
        · rename_i k a k' b
          simp only [decide_eq_true_eq] at h
          subst h
          rw [hv, hv]
          exact ⟨fun xs k hx => rp_part_one hu rfl hx, fun xs k hx => rp_part_one hu rfl hx, (rp_int hu _ _ _ K).trans (congrArg some (Bool.and_true _).symm)⟩
        · cases h
      case string =>
        simp only at h
        split at h
        · rw [hv, hv]
          exact ⟨fun xs k hx => rp_part_one hu rfl hx, fun xs k hx => rp_part_one hu rfl hx, (rp_string hu _ _ K).trans (congrArg some (Bool.and_true _).symm)⟩
        · cases h
      case struct fs =>
        simp only [Bool.and_eq_true, Bool.not_eq_true', beq_iff_eq] at h
        obtain ⟨⟨⟨⟨hst, htl⟩, hlen⟩, hc⟩, hall⟩ := h
        rw [hv, hv]
        simp only [if_true]
        refine ⟨fun xs k hx => by rw [rp_part_agg hu hi, hx], fun xs k hx => by rw [rp_part_agg hu hi, hx], ?_⟩
        rw [rp_struct hu hst]
        have hall' : ∀ f ∈ fs.toList, eqOk P n f.type ((us.drop f.offset).take (P.cellsOf f.type)) ((ws.drop f.offset).take (P.cellsOf f.type)) = true := fun f hf => List.all_eq_true.1 hall f (by simpa using hf)
        have key : ∀ (l : List Field) (k : Nat), (∀ f ∈ l, f ∈ fs.toList) → tiledE P k l us.length = true → runPure P (Op.eqFields K us.toArray ws.toArray l) = some (eqCells (us.drop k) (ws.drop k)) := by
          intro l
          induction l with
          | nil =>
            intro k _ ht
            have : k = us.length := by unfold tiledE at ht; simpa using ht
            subst this
            rw [List.drop_of_length_le (Nat.le_refl _), List.drop_of_length_le (by omega)]
            rfl
          | cons f r ih =>
            intro k hm ht
            unfold tiledE at ht
            simp only [Bool.and_eq_true, beq_iff_eq, bne_iff_ne, ne_eq] at ht
            obtain ⟨⟨ho, hn⟩, ht⟩ := ht
            have hf := hall' f (hm f List.mem_cons_self)
            obtain ⟨h1, h2, h3⟩ := rp_eq n f.type _ _ hf K (by omega)
            have ihr := ih (k + P.cellsOf f.type) (fun g hg => hm g (List.mem_cons_of_mem _ hg)) ht
            unfold Op.eqFields
            rw [if_pos (by simpa using hn)]
            simp only [rp_bind, rp_ite]
            rw [h1 us f.offset rfl, h2 ws f.offset rfl]
            simp only [Option.bind_some, h3, rp_pure, ihr]
            rw [ho]
            have hl := eqOk_len hf
            rw [ho] at hl
            have e1 : us.drop k = (us.drop k).take (P.cellsOf f.type) ++ us.drop (k + P.cellsOf f.type) := by
              rw [← List.drop_drop, List.take_append_drop]
            have e2 : ws.drop k = (ws.drop k).take (P.cellsOf f.type) ++ ws.drop (k + P.cellsOf f.type) := by
              rw [← List.drop_drop, List.take_append_drop]
            have e3 := eqCells_append _ _ (us.drop (k + P.cellsOf f.type)) (ws.drop (k + P.cellsOf f.type)) hl
            rw [← e1, ← e2] at e3
            rw [e3]
            cases eqCells ((us.drop k).take (P.cellsOf f.type)) ((ws.drop k).take (P.cellsOf f.type)) <;> rfl
        have := key fs.toList 0 (fun _ h => h) htl
        simpa using this
/-- structs of plain cells, compared -/
theorem bin_struct {t : TypeId} {us ws : List Value} {n : Nat} (hok : eqOk P n t us ws = true) (hn : n ≤ 10000) (hs : isStr P t = true) (hg : P.eqGuardType P.depth t = false) (x y : Operand) :
    binA P .eql t x y (.agg (us.map .v)) (.agg (ws.map .v)) = some (.v (.bool (eqCells us ws))) ∧ binA P .neq t x y (.agg (us.map .v)) (.agg (ws.map .v)) = some (.v (.bool (!eqCells us ws))) := by
  have ha : ∀ l : List Value, toAtoms (l.map .v) = some l := by
    intro l; induction l with
    | nil => rfl
    | cons a r ih => simp only [List.map_cons, toAtoms, ih, Option.map_some]
  have hv : ∀ l : List Value, toValue (.agg (l.map .v)) = some (.agg l.toArray) := by
    intro l; simp only [toValue, ha, Option.map_some]
  have h := (rp_eq n t us ws hok 10000 hn).2.2
  have hvv : ∀ l, valOf P t l = .agg l.toArray := by intro l; unfold valOf; rw [hs]; rfl
  rw [hvv, hvv] at h
  have h' : runPure P (Op.equal t (.agg us.toArray) (.agg ws.toArray)) = some (eqCells us ws) := h
  constructor
  · unfold binA
    simp only [hv, isEq, hg, Bool.not_false, Bool.and_true, if_true]
    show atomA (runPure P (do pure (.bool (← Op.equal t (.agg us.toArray) (.agg ws.toArray))))) = _
    rw [rp_bind, h']; rfl
  · unfold binA
    simp only [hv, isEq, hg, Bool.not_false, Bool.and_true, if_true]
    show atomA (runPure P (do pure (.bool (!(← Op.equal t (.agg us.toArray) (.agg ws.toArray)))))) = _
    rw [rp_bind, h']; rfl
end
end Go.Ev
namespace Go.Ev
open Go.Proofs
set_option maxRecDepth 100000
set_option linter.unusedSimpArgs false
/-! ### Number -/
def stpG (q : Nat → Plc → Bool) (s : Nat × Option Plc) (x : List AV) : AExit × (Nat × Option Plc) := if q s.1 (plOf x) then (.ret, (s.1, some (plOf x))) else (.normal, (s.1 + 1, s.2))
theorem foldG (q : Nat → Plc → Bool) : ∀ (l : List (Plc × ByteArray)) (c : Nat), (∃ k x, l[k]? = some x ∧ q (c + k) x.1 = true ∧ (∀ j y, j < k → l[j]? = some y → q (c + j) y.1 = false) ∧ foldE (stpG q) (l.map itW) (c, none) = (.ret, (c + k, some x.1))) ∨
    ((∀ j y, l[j]? = some y → q (c + j) y.1 = false) ∧ foldE (stpG q) (l.map itW) (c, none) = (.normal, (c + l.length, none)))
  | [], c => Or.inr ⟨fun j y h => by simp at h, rfl⟩
  | x :: r, c => by
    cases hq : q c x.1
    · have hs : stpG q (c, none) (itW x) = (.normal, (c + 1, none)) := by unfold stpG; rw [plOf_it, hq]; rfl
      rw [List.map_cons, foldE_go (by rw [hs]), hs]
      rcases foldG q r (c + 1) with ⟨k, y, h1, h2, h3, h4⟩ | ⟨h1, h2⟩
      · refine Or.inl ⟨k + 1, y, by simpa using h1, by rw [show c + (k + 1) = c + 1 + k by omega]; exact h2, fun j z hj hz => ?_, by rw [h4, show c + (k + 1) = c + 1 + k by omega]⟩
        cases j with
        | zero => simp at hz; subst hz; exact hq
        | succ j => rw [show c + (j + 1) = c + 1 + j by omega]; exact h3 j z (by omega) (by simpa using hz)
      · refine Or.inr ⟨fun j z hz => ?_, by rw [h2]; simp; omega⟩
        cases j with
        | zero => simp at hz; subst hz; exact hq
        | succ j => rw [show c + (j + 1) = c + 1 + j by omega]; exact h1 j z (by simpa using hz)
    · have hs : stpG q (c, none) (itW x) = (.ret, (c, some x.1)) := by unfold stpG; rw [plOf_it, hq]; rfl
      refine Or.inl ⟨0, x, rfl, hq, fun j z hj _ => by omega, ?_⟩
      rw [List.map_cons, foldE_out (by rw [hs]; intro h; cases h), hs]; rfl
/-- places, compared -/
def eqP (a b c a' b' c' : Int) : Bool := decide (a = a') && (decide (b = b') && decide (c = c'))
theorem eqP_cells (a b c a' b' c' : Int) : eqCells [.int .i64 a, .int .i64 b, .int .i64 c] [.int .i64 a', .int .i64 b', .int .i64 c'] = eqP a b c a' b' c' := by
  simp [eqCells, eqCell, eqP]
theorem eq32 (x y : Operand) (a b c a' b' c' : Int) : binA Try.prog .eql 26 x y (.agg [.v (.int .i64 a), .v (.int .i64 b), .v (.int .i64 c)]) (.agg [.v (.int .i64 a'), .v (.int .i64 b'), .v (.int .i64 c')]) = some (.v (.bool (eqP a b c a' b' c'))) := by
  have := (bin_struct (P := Try.prog) (t := 26) (us := [.int .i64 a, .int .i64 b, .int .i64 c]) (ws := [.int .i64 a', .int .i64 b', .int .i64 c']) (n := 3) (by kernel_rfl) (by decide) (by kernel_rfl) (by kernel_rfl) x y).1
  rw [eqP_cells] at this
  exact this
def hb16 (ch : AV) (q : Plc) (s : Nat × Option Plc) : List (Option AObj) := [some (.cells 0 0 24 1 false [ch]), some (.cells 0 0 26 1 false [intA q.1, intA q.2.1, intA q.2.2]), some (.cells 0 0 3 1 false [intA (if s.2.isSome then IntKind.i64.wrap s.1 else 0)]), some (.cells 0 0 29 1 false [intA 0]), some (.cells 0 0 89 1 false [ch]), some (.cells 0 0 3 1 false [intA (IntKind.i64.wrap s.1)])]
def q16 (q : Plc) (_ : Nat) (p : Plc) : Bool := eqP p.1 p.2.1 p.2.2 q.1 q.2.1 q.2.2
set_option maxHeartbeats 2000000 in
/-- of a place that is one -/
theorem ans16 {e : Exts} (he : Quiet e) (t : Txt) (ht : Fits t) (ch : AV) (xs : List AV) (hch : SlOf 2 xs ch) (hall : All2 ChapA t xs) (h1 : textB t = true) (n : Nat) (x : Plc × ByteArray) (hx : (wordsT 0 t)[n]? = some x) : Ans (Cx e) 14 [.agg [ch], plN x.1] (.tup [intA n, intA 0]) := by
  have hc := call40 he t ht ch ⟨xs, hch, hall⟩
  have hy := yields63 he ch xs hch (okCh2_of ht hall) (by rw [← hall.1]; exact ht.chs)
  rw [allIts_eq hall] at hy
  unfold Ans
  rw [fn_step (fn_14 e) (show Try.f14.body = some _ from rfl)]
  rw [h1] at hc
  simp only [if_true, intA] at hc
  simp -implicitDefEqProofs only [Try.f14, plN, go_sem, ↓reduceIte, Int.reduceEq, Int.reduceLT, Int.reduceLE, List.zip_cons_cons, List.zip_nil_right, List.zip_nil_left, setT_nil, setT_cons, intA, hch.cells, hch.flat, hch.bound, hc, call41 he ch xs hch]
  refine wp_rangeS hy rfl (hb16 ch x.1) (stpG (q16 x.1)) (fun s => s.2 = none) okW (n0 := 6) (k := 0) (fun _ => rfl) (by omega) (okW_all t 0) ?_ ?_ (0, none) rfl rfl ?_
  · intro s x hs _ h
    unfold stpG at h ⊢
    split at h
    · cases h
    · rename_i hq; rw [if_neg hq]; exact hs
  · rintro L L' ⟨c, o⟩ y E - hlv ⟨p, w, rfl⟩ -
    simp only at hlv
    subst hlv
    have hs : stpG (q16 x.1) (c, none) (itW (p, w)) = if eqP p.1 p.2.1 p.2.2 x.1.1 x.1.2.1 x.1.2.2 = true then (.ret, (c, some p)) else (.normal, (c + 1, none)) := by unfold stpG q16; rw [plOf_it]
    rw [hs]
    simp -implicitDefEqProofs only [go_sem, ↓reduceIte, Int.reduceEq, Int.reduceLT, Int.reduceLE, List.zip_cons_cons, List.zip_nil_right, List.zip_nil_left, setT_nil, setT_cons, intA, hb16, itW, plN]
    refine asK_mk [some (.cells 0 0 26 1 false [intA p.1, intA p.2.1, intA p.2.2])] rfl ?_
    simp only [lh, Heap.plus]
    cases hn : eqP p.1 p.2.1 p.2.2 x.1.1 x.1.2.1 x.1.2.2
    · simp -implicitDefEqProofs only [go_sem, ↓reduceIte, Int.reduceEq, Int.reduceLT, Int.reduceLE, List.zip_cons_cons, List.zip_nil_right, List.zip_nil_left, setT_nil, setT_cons, intA, hb16, eq32, hn]
      simp only [rngK_at, true_and, wrap_wrap']
      refine ⟨[some (.cells 0 0 26 1 false [intA p.1, intA p.2.1, intA p.2.2])], ?_⟩
      simp -implicitDefEqProofs only [go_sem, ↓reduceIte, Int.reduceEq, Int.reduceLT, Int.reduceLE, List.zip_cons_cons, List.zip_nil_right, List.zip_nil_left, setT_nil, setT_cons, intA, lh, Heap.plus, hb16, Option.isSome_some, Option.isSome_none]
    · simp -implicitDefEqProofs only [go_sem, ↓reduceIte, Int.reduceEq, Int.reduceLT, Int.reduceLE, List.zip_cons_cons, List.zip_nil_right, List.zip_nil_left, setT_nil, setT_cons, intA, hb16, eq32, hn]
      simp only [rngK_at, true_and]
      refine ⟨[some (.cells 0 0 26 1 false [intA p.1, intA p.2.1, intA p.2.2])], ?_⟩
      simp -implicitDefEqProofs only [go_sem, ↓reduceIte, Int.reduceEq, Int.reduceLT, Int.reduceLE, List.zip_cons_cons, List.zip_nil_right, List.zip_nil_left, setT_nil, setT_cons, intA, lh, Heap.plus, hb16, Option.isSome_some, Option.isSome_none]
  · intro G
    have hlen := wordsT_small (small_of h1)
    have hxl := (List.getElem?_eq_some_iff.1 hx).1
    have hqx : q16 x.1 (0 + n) x.1 = true := by unfold q16 eqP; simp
    rcases foldG (q16 x.1) (wordsT 0 t) 0 with ⟨k, y, hk, hq, hno, hf⟩ | ⟨hq, hf⟩
    · rw [hf]
      have hkl := (List.getElem?_eq_some_iff.1 hk).1
      have hkn : k = n := by
        unfold q16 eqP at hq
        simp only [Bool.and_eq_true, decide_eq_true_eq] at hq
        rcases Nat.lt_trichotomy k n with h | h | h
        · have := up_lt (wordsT_up t 0) hk hx h
          unfold plLt at this; omega
        · exact h
        · have := hno n x h hx
          rw [hqx] at this; cases this
      subst hkn
      have hwk := wrap_nat k (by omega)
      simp -implicitDefEqProofs only [go_sem, ↓reduceIte, Int.reduceEq, Int.reduceLT, Int.reduceLE, List.zip_cons_cons, List.zip_nil_right, List.zip_nil_left, setT_nil, setT_cons, intA, hb16, Nat.zero_add, hwk, Option.isSome_some]
      rfl
    · have := hq n x hx
      rw [hqx] at this; cases this
end Go.Ev
namespace Go.Ev
open Go.Proofs
set_option maxRecDepth 100000
set_option linter.unusedSimpArgs false
def lineAt (t : Txt) (a b : Int) : Option Line := if 0 ≤ a ∧ 0 ≤ b then (t[a.toNat]?).bind fun c => c.2[b.toNat]? else none
/-- a line that is there, or none -/
def LineO (o : Option Line) (x : AV) : Prop := match o with | some l => LineA l x | none => x = .v (.slice none 0 0)
theorem within_len (a : Int) (n : Nat) : withinB 0 ((n : Int) - 1) [a] = decide (0 ≤ a ∧ a < n) := by
  rw [range1]
  by_cases h : 0 ≤ a <;> by_cases h2 : a < n <;> simp [h, h2] <;> omega
set_option maxHeartbeats 2000000 in
theorem ans42 {e : Exts} (he : Quiet e) (t : Txt) (ht : Fits t) (ch : AV) (xs : List AV) (hch : SlOf 2 xs ch) (hall : All2 ChapA t xs) (a b c : Int) : ∃ x, LineO (lineAt t a b) x ∧ Ans (Cx e) 72 [.agg [ch], .agg [intA a, intA b, intA c]] (.tup [x, .v (.bool (lineAt t a b).isSome)]) := by
  have hw1 : IntKind.i64.wrap ((t.length : Int) - 1) = (t.length : Int) - 1 := wrap_in _ (by omega) (by have := ht.chs; omega)
  have hc1 := callI43 he a 0 ((t.length : Int) - 1)
  rw [within_len] at hc1
  by_cases h1 : 0 ≤ a ∧ a < t.length
  · obtain ⟨i, rfl⟩ : ∃ i : Nat, a = i := ⟨a.toNat, by omega⟩
    obtain ⟨cp, hs⟩ := at_lt t i (by omega)
    obtain ⟨y, hy, l, rfl, lxs, hl, hls⟩ := hall.get hs
    have hm := List.mem_of_getElem? hs
    have hll := ht.lines cp hm
    have hw2 : IntKind.i64.wrap ((cp.2.length : Int) - 1) = (cp.2.length : Int) - 1 := wrap_in _ (by omega) (by omega)
    have hc2 := callI43 he b 0 ((cp.2.length : Int) - 1)
    rw [within_len] at hc2
    rw [decide_eq_true h1] at hc1
    by_cases h2 : 0 ≤ b ∧ b < cp.2.length
    · obtain ⟨j, rfl⟩ : ∃ j : Nat, b = j := ⟨b.toNat, by omega⟩
      obtain ⟨ln, hn⟩ := at_lt cp.2 j (by omega)
      obtain ⟨lx, hx, hlx⟩ := hls.get hn
      have hlx : SlOf 1 (strs ln) lx := hlx
      rw [decide_eq_true h2] at hc2
      have hL : lineAt t i j = some ln := by unfold lineAt; rw [if_pos (by omega)]; simp [hs, hn]
      rw [hL]
      refine ⟨lx, hlx, ?_⟩
      unfold Ans
      rw [fn_step (fn_72 e) (show Try.f72.body = some _ from rfl)]
      simp -implicitDefEqProofs only [Try.f72, go_sem, ↓reduceIte, Int.reduceEq, Int.reduceLT, Int.reduceLE, List.zip_cons_cons, List.zip_nil_right, List.zip_nil_left, setT_nil, setT_cons, intA, hch.cells, hch.flat, hch.bound]
      refine wp_draw (by kernel_rfl) ?_
      simp -implicitDefEqProofs only [go_sem, ↓reduceIte, Int.reduceEq, Int.reduceLT, Int.reduceLE, List.zip_cons_cons, List.zip_nil_right, List.zip_nil_left, setT_nil, setT_cons, intA, hch.cells, hch.flat, hch.bound, hch.len, hch.lenI, ← hall.1, hw1, hc1, hch.idx hy, hl.len, hl.cells, hl.lenI, ← hls.1, hw2, hc2]
      refine wp_draw (by kernel_rfl) ?_
      simp -implicitDefEqProofs only [go_sem, ↓reduceIte, Int.reduceEq, Int.reduceLT, Int.reduceLE, List.zip_cons_cons, List.zip_nil_right, List.zip_nil_left, setT_nil, setT_cons, intA, hch.cells, hch.flat, hch.bound, hch.len, hch.lenI, ← hall.1, hw1, hc1, hch.idx hy, hl.len, hl.cells, hl.idx hx, hlx.cells]
      rcases hlx with ⟨rfl, -⟩ | ⟨cap, rfl⟩ <;> rfl
    · rw [decide_eq_false h2] at hc2
      have hL : lineAt t i b = none := by
        unfold lineAt
        split
        · simp only [Int.toNat_natCast, hs, Option.bind_some]
          rw [List.getElem?_eq_none_iff]; omega
        · rfl
      rw [hL]
      refine ⟨_, rfl, ?_⟩
      unfold Ans
      rw [fn_step (fn_72 e) (show Try.f72.body = some _ from rfl)]
      simp -implicitDefEqProofs only [Try.f72, go_sem, ↓reduceIte, Int.reduceEq, Int.reduceLT, Int.reduceLE, List.zip_cons_cons, List.zip_nil_right, List.zip_nil_left, setT_nil, setT_cons, intA, hch.cells, hch.flat, hch.bound]
      refine wp_draw (by kernel_rfl) ?_
      simp -implicitDefEqProofs only [go_sem, ↓reduceIte, Int.reduceEq, Int.reduceLT, Int.reduceLE, List.zip_cons_cons, List.zip_nil_right, List.zip_nil_left, setT_nil, setT_cons, intA, hch.cells, hch.flat, hch.bound, hch.len, hch.lenI, ← hall.1, hw1, hc1, hch.idx hy, hl.len, hl.cells, hl.lenI, ← hls.1, hw2, hc2]
      rfl
  · rw [decide_eq_false h1] at hc1
    have hL : lineAt t a b = none := by
      unfold lineAt
      split
      · have : t[a.toNat]? = none := by rw [List.getElem?_eq_none_iff]; omega
        rw [this]; rfl
      · rfl
    rw [hL]
    refine ⟨_, rfl, ?_⟩
    unfold Ans
    rw [fn_step (fn_72 e) (show Try.f72.body = some _ from rfl)]
    simp -implicitDefEqProofs only [Try.f72, go_sem, ↓reduceIte, Int.reduceEq, Int.reduceLT, Int.reduceLE, List.zip_cons_cons, List.zip_nil_right, List.zip_nil_left, setT_nil, setT_cons, intA, hch.cells, hch.flat, hch.bound]
    refine wp_draw (by kernel_rfl) ?_
    simp -implicitDefEqProofs only [go_sem, ↓reduceIte, Int.reduceEq, Int.reduceLT, Int.reduceLE, List.zip_cons_cons, List.zip_nil_right, List.zip_nil_left, setT_nil, setT_cons, intA, hch.cells, hch.flat, hch.bound, hch.len, hch.lenI, ← hall.1, hw1, hc1]
    rfl
theorem call42 {e : Exts} (he : Quiet e) (t : Txt) (ht : Fits t) (ch : AV) (xs : List AV) (hch : SlOf 2 xs ch) (hall : All2 ChapA t xs) (a b c : Int) : ∃ x, LineO (lineAt t a b) x ∧ ∀ (me : FuncId) (d : Option Tmp) (H : Heap), callA (Cx e) (lim (Cx e)) me 72 d [.agg [ch], .agg [.v (.int .i64 a), .v (.int .i64 b), .v (.int .i64 c)]] H = some (.tup [x, .v (.bool (lineAt t a b).isSome)], H) := by
  obtain ⟨x, hx, h⟩ := ans42 he t ht ch xs hch hall a b c
  exact ⟨x, hx, fun me d H => h.call (ext_72 he) (pure_72 _ _ _) (by simp only [boundL_cons, bound_agg, hch.bound, boundL_nil, intA, bound_v]; rfl) H⟩
/-! ### Place -/
def placeB' (t : Txt) (a b c : Int) : Bool := match lineAt t a b with | some l => decide (0 ≤ c ∧ c < l.length) | none => false
theorem lineAt_mem {t : Txt} {a b : Int} {l : Line} (h : lineAt t a b = some l) : ∃ c ∈ t, l ∈ c.2 := by
  unfold lineAt at h
  split at h
  · obtain ⟨c, h1, h2⟩ := Option.bind_eq_some_iff.1 h
    exact ⟨c, List.mem_of_getElem? h1, List.mem_of_getElem? h2⟩
  · cases h
set_option maxHeartbeats 2000000 in
theorem ans17 {e : Exts} (he : Quiet e) (t : Txt) (ht : Fits t) (ch : AV) (xs : List AV) (hch : SlOf 2 xs ch) (hall : All2 ChapA t xs) (a b c : Int) : Ans (Cx e) 46 [.agg [ch], .agg [intA a, intA b, intA c]] (.v (.bool (placeB' t a b c))) := by
  obtain ⟨x, hx, hc⟩ := call42 he t ht ch xs hch hall a b c
  unfold placeB' Ans
  rw [fn_step (fn_46 e) (show Try.f46.body = some _ from rfl)]
  cases hL : lineAt t a b with
  | none =>
    rw [hL] at hx hc
    simp only [LineO] at hx
    subst hx
    simp only [Option.isSome_none] at hc
    simp -implicitDefEqProofs only [Try.f46, go_sem, ↓reduceIte, Int.reduceEq, Int.reduceLT, Int.reduceLE, List.zip_cons_cons, List.zip_nil_right, List.zip_nil_left, setT_nil, setT_cons, intA, hch.cells, hch.flat, hch.bound, hc]
  | some l =>
    rw [hL] at hx hc
    have hx : SlOf 1 (strs l) x := hx
    obtain ⟨cp, hcm, hlm⟩ := lineAt_mem hL
    have hll := ht.words cp hcm l hlm
    simp only [Option.isSome_some] at hc
    have hw1 : IntKind.i64.wrap ((l.length : Int) - 1) = (l.length : Int) - 1 := wrap_in _ (by omega) (by omega)
    have hc1 := call43 he c 0 ((l.length : Int) - 1)
    rw [within_len] at hc1
    simp -implicitDefEqProofs only [Try.f46, go_sem, ↓reduceIte, Int.reduceEq, Int.reduceLT, Int.reduceLE, List.zip_cons_cons, List.zip_nil_right, List.zip_nil_left, setT_nil, setT_cons, intA, hch.cells, hch.flat, hch.bound, hc, hx.len, strs_len, hw1, hc1]
theorem call17 {e : Exts} (he : Quiet e) (t : Txt) (ht : Fits t) (ch : AV) (xs : List AV) (hch : SlOf 2 xs ch) (hall : All2 ChapA t xs) (a b c : Int) (me : FuncId) (d : Option Tmp) (H : Heap) : callA (Cx e) (lim (Cx e)) me 46 d [.agg [ch], .agg [.v (.int .i64 a), .v (.int .i64 b), .v (.int .i64 c)]] H = some (.v (.bool (placeB' t a b c)), H) :=
  (ans17 he t ht ch xs hch hall a b c).call (ext_46 he) (pure_46 _ _ _) (by simp only [boundL_cons, bound_agg, hch.bound, boundL_nil, intA, bound_v]; rfl) H
/-! ### Before -/
end Go.Ev
/- Functions that stand for themselves: what is known of them. -/
namespace Go.Ev
theorem cmp_bytes : ∀ (a b : List UInt8), Lib.compareBytes a b = if bytesLt a b then -1 else if bytesLt b a then 1 else 0
  | [], [] => by simp [Lib.compareBytes, bytesLt]
  | [], _ :: _ => by simp [Lib.compareBytes, bytesLt]
  | _ :: _, [] => by simp [Lib.compareBytes, bytesLt]
  | x :: a, y :: b => by
    have ih := cmp_bytes a b
    unfold Lib.compareBytes bytesLt
    simp only [UInt8.lt_iff_toNat_lt]
    by_cases h1 : x.toNat < y.toNat
    · have e1 : Nat.blt x.toNat y.toNat = true := Nat.ble_eq_true_of_le h1
      simp [h1, e1]
    · have e1 : Nat.blt x.toNat y.toNat = false := by
        cases hb : Nat.blt x.toNat y.toNat
        · rfl
        · exact absurd (Nat.le_of_ble_eq_true hb) h1
      by_cases h2 : y.toNat < x.toNat
      · have e2 : Nat.blt y.toNat x.toNat = true := Nat.ble_eq_true_of_le h2
        have e3 : (x.toNat == y.toNat) = false := by simp; omega
        simp [h1, h2, e1, e2, e3]
      · have e2 : Nat.blt y.toNat x.toNat = false := by
          cases hb : Nat.blt y.toNat x.toNat
          · rfl
          · exact absurd (Nat.le_of_ble_eq_true hb) h2
        have e3 : x.toNat = y.toNat := by omega
        simp [h1, h2, e1, e2, e3, ih]
theorem ext_cmp {P : Program} {f : FuncId} {fn : Func} (hf : P.funcs[f]? = some fn) (hb : fn.body = none) (hn : (fn.name == "runtime.NumGoroutine") = false) (h1 : (Extern.findNext fn).isNone = true) (h2 : Extern.find fn = some Extern.BytealgCompare.compare)
    {args : List AV} {v : AV} (h : cmpStr args = some v) (Z : Fzn) (ρ : Pls) (H : Heap) (w : World) (vals : List Value) (hs : Sim Z ρ H w) (hl : RepL Z ρ args vals) : FnMeets P f vals w (After Z ρ H w v H) := by
  unfold cmpStr at h
  split at h
  · rename_i a b
    obtain ⟨v1, ws, rfl, hv1, hl⟩ := hl.uncons
    obtain ⟨v2, ws, rfl, hv2, hl⟩ := hl.uncons
    have : ws = [] := by have := hl.1; exact List.length_eq_zero_iff.1 this.symm
    subst this
    obtain ⟨rfl, -⟩ := hv1.v_inv
    obtain ⟨rfl, -⟩ := hv2.v_inv
    simp only [Option.some.injEq] at h
    subst h
    refine Or.inl ⟨.int .i64 (Lib.compareBytes a.data.toList b.data.toList), w, ?_, Z, ρ, ?_, hs, Ext.refl _ _ _ _⟩
    · have hfn : Extern.findNext fn = none := Option.isNone_iff_eq_none.1 h1
      have := Lib.run_compareString (P := P) a b w
      have hn' : ¬ fn.name = "runtime.NumGoroutine" := by
        intro e; rw [e] at hn; simp at hn
      simp [callFunc, hf, hn', hb, hfn, h2, this]
    · rw [cmp_bytes]; exact .v rfl
  · cases h
/-- more functions that stand for themselves -/
def moreExt (e : FuncId → Option (List AV → Option AV)) (f : FuncId) (g : List AV → Option AV) : FuncId → Option (List AV → Option AV) := fun f' => if Nat.beq f' f then some g else e f'
theorem extOK_more {C C' : Cfg} (hP : C'.P = C.P) {f : FuncId} {g : List AV → Option AV} (hg : ∀ args v, g args = some v → ∀ (Z : Fzn) (ρ : Pls) (H : Heap) (w : World) (vals : List Value), Sim Z ρ H w → RepL Z ρ args vals → FnMeets C.P f vals w (After Z ρ H w v H))
    (hext : ExtOK C) (he : C'.ext = moreExt C.ext f g) (hlay : C'.lay = C.lay := by rfl) : ExtOK C' := by
  refine ⟨fun f' g' hf' args v hv Z ρ H w vals hs hl => ?_, fun f' g' hf' => by rw [hP]; rw [hlay] at hf'; exact hext.lay f' g' hf'⟩
  rw [hP]
  rw [he] at hf'
  unfold moreExt at hf'
  split at hf'
  · rename_i hb
    have := Nat.eq_of_beq_eq_true hb
    subst this
    simp only [Option.some.injEq] at hf'
    subst hf'
    exact hg args v hv Z ρ H w vals hs hl
  · exact hext.ext f' g' hf' args v hv Z ρ H w vals hs hl
/-! ### answers that are told by heart -/
end Go.Ev
namespace Go.Ev
open Go.Proofs
set_option maxRecDepth 100000
set_option linter.unusedSimpArgs false
theorem place_in {t : Txt} {n : Nat} {x : Plc × ByteArray} (hx : (wordsT 0 t)[n]? = some x) : placeB' t x.1.1 x.1.2.1 x.1.2.2 = true := by
  obtain ⟨m, k, w, c, l, h1, h2, h3, h4⟩ := (wordsT_mem t 0 x).1 (List.mem_of_getElem? hx)
  have hw := (List.getElem?_eq_some_iff.1 h4).1
  rw [h1]
  unfold placeB' lineAt
  rw [if_pos (by constructor <;> omega)]
  simp only [Int.toNat_natCast, Nat.zero_add, h2, Option.bind_some, h3]
  simpa using hw
end Go.Ev
/- From what a statement says of its arguments to values of the evaluator, and back. -/
namespace Go.Ev
/-- the fields lie one behind the other, from k on up to the end -/
def tiled (P : Program) : Nat → List Field → Nat → Bool
  | k, [], e => k == e
  | k, f :: r, e => f.offset == k && tiled P (k + P.cellsOf f.type) r e
/-- types of plain data, by depth -/
def plainT (P : Program) : Nat → TypeId → Bool
  | 0, _ => false
  | n + 1, t =>
    match P.underlying t with
    | some .bool => true
    | some (.int _) => true
    | some .string => true
    | some (.slice e) => decide (0 < P.cellsOf e) && plainT P n e
    | some (.struct fs) => tiled P 0 fs.toList (P.cellsOf t) && fs.toList.all fun f => plainT P n f.type
    | _ => false
/-- an element of a slice, of its cells -/
def elemOf (cs : List AV) : AV := match cs with | [c] => c | cs => .agg cs
/-- what plain data is -/
def Plain (P : Program) : Nat → TypeId → List AV → Prop
  | 0, _, _ => False
  | n + 1, t, cs =>
    match P.underlying t with
    | some .bool => ∃ b, cs = [.v (.bool b)]
    | some (.int k) => ∃ m, cs = [.v (.int k m)] ∧ (Lit.int k m).wf = true
    | some .string => ∃ s, cs = [.v (.string s)] ∧ s.size ≤ maxLen
    | some (.slice e) => ∃ x xs, cs = [x] ∧ SlOf (P.cellsOf e) xs x ∧ xs.length ≤ maxLen ∧ ∀ y ∈ xs, ∃ c, y = elemOf c ∧ c.length = P.cellsOf e ∧ Plain P n e c
    | some (.struct fs) => cs.length = P.cellsOf t ∧ ∀ f ∈ fs.toList, Plain P n f.type ((cs.drop f.offset).take (P.cellsOf f.type))
    | _ => False
theorem elem_cells {cs : List AV} (h : ∀ c ∈ cs, c.flat = true) : (elemOf cs).cells = cs := by
  unfold elemOf
  split
  · rename_i c
    have := h c (by simp)
    cases c <;> simp_all [AV.cells, AV.flat]
  · rfl
theorem exists_list {α : Type} {Q : Nat → α → Prop} : ∀ (n : Nat), (∀ i, i < n → ∃ y, Q i y) → ∃ l : List α, l.length = n ∧ ∀ i y, l[i]? = some y → Q i y
  | 0, _ => ⟨[], rfl, fun i y h => by simp at h⟩
  | n + 1, h => by
    obtain ⟨l, hl, hq⟩ := exists_list n fun i hi => h i (by omega)
    obtain ⟨y, hy⟩ := h n (by omega)
    refine ⟨l ++ [y], by simp [hl], fun i z hz => ?_⟩
    by_cases hi : i < l.length
    · rw [List.getElem?_append_left hi] at hz; exact hq i z hz
    · have hlt := (List.getElem?_eq_some_iff.1 hz).1
      simp at hlt
      have : i = l.length := by omega
      subst this
      simp at hz; subst hz; rw [hl]; exact hy
theorem tile_rep {Z : Fzn} {ρ : Pls} {P : Program} {Q : Field → List AV → Prop} : ∀ (fs : List Field) (k e : Nat) (cs : List Value), tiled P k fs e = true → cs.length = e →
    (∀ f ∈ fs, ∃ a, RepL Z ρ a ((cs.drop f.offset).take (P.cellsOf f.type)) ∧ Q f a ∧ ∀ c ∈ a, c.flat = true) →
    k ≤ e → ∃ A, RepL Z ρ A (cs.drop k) ∧ (∀ c ∈ A, c.flat = true) ∧ ∀ f ∈ fs, k ≤ f.offset ∧ f.offset + P.cellsOf f.type ≤ e ∧ Q f ((A.drop (f.offset - k)).take (P.cellsOf f.type))
  | [], k, e, cs, ht, hl, _, _ => by
    have : k = e := by simpa [tiled] using ht
    subst this
    refine ⟨[], ?_, by simp, by simp⟩
    rw [List.drop_of_length_le (by omega)]; exact RepL.nil
  | f :: r, k, e, cs, ht, hl, hf, hk => by
    simp only [tiled, Bool.and_eq_true, beq_iff_eq] at ht
    obtain ⟨ho, ht⟩ := ht
    have hle : ∀ (fs : List Field) (k : Nat), tiled P k fs e = true → k ≤ e := by
      intro fs
      induction fs with
      | nil => intro k h; have : k = e := by simpa [tiled] using h
               omega
      | cons g s ih => intro k h; simp only [tiled, Bool.and_eq_true] at h; have := ih _ h.2; omega
    have hle' := hle _ _ ht
    obtain ⟨A, hA, hAf, hAq⟩ := tile_rep r (k + P.cellsOf f.type) e cs ht hl (fun g hg => hf g (List.mem_cons_of_mem _ hg)) hle'
    obtain ⟨a, ha, hq, haf⟩ := hf f List.mem_cons_self
    have hal : a.length = P.cellsOf f.type := by rw [ha.1]; simp; omega
    refine ⟨a ++ A, ?_, ?_, ?_⟩
    · have : cs.drop k = (cs.drop f.offset).take (P.cellsOf f.type) ++ cs.drop (k + P.cellsOf f.type) := by
        rw [ho, ← List.drop_drop]; exact (List.take_append_drop _ _).symm
      rw [this]; exact ha.append hA
    · intro c hc
      rcases List.mem_append.1 hc with h | h
      · exact haf c h
      · exact hAf c h
    · intro g hg
      rcases List.mem_cons.1 hg with rfl | hg
      · refine ⟨by omega, by omega, ?_⟩
        rw [ho, Nat.sub_self, List.drop_zero, List.take_append_of_le_length (by omega), List.take_of_length_le (by omega)]
        exact hq
      · obtain ⟨h1, h2, h3⟩ := hAq g hg
        refine ⟨by omega, h2, ?_⟩
        have : (a ++ A).drop (g.offset - k) = A.drop (g.offset - (k + P.cellsOf f.type)) := by
          rw [List.drop_append, List.drop_of_length_le (by omega), List.nil_append, hal]; congr 1; omega
        rw [this]; exact h3
section
variable {HH : Type} {enc : TypeId × Value → HH} {P : Program} {w : World}
theorem cells_at {a : Addr} {n : Nat} {cs : List Value} (h : w.cells? 0 a n = some cs) (hn : 0 < n) : a.spot = none ∧ ∃ arr e fr, w.heap[a.block]? = some (.cells arr e fr) ∧ cs.length = n ∧ ∀ j, j < n → arr[a.off + j]? = cs[j]? := by
  obtain ⟨_, hl, hc⟩ := World.cells?_some h
  have h0 := hc 0 hn
  obtain ⟨c0, hc0⟩ : ∃ c0, cs[0]? = some c0 := ⟨cs[0]'(by omega), List.getElem?_eq_getElem _⟩
  have hsp : a.spot = none := by
    have := World.cell?_spot (h0.trans hc0)
    simpa [Addr.add] using this
  have hcell := h0.trans hc0
  have hb : ∀ j, (a.add j).block = a.block := by intro j; unfold Addr.add; split <;> rfl
  have hs : ∀ j, (a.add j).spot = none := by
    intro j; unfold Addr.add; split
    · exact hsp
    · rfl
  have ho : ∀ j, (a.add j).off = a.off + j := by
    intro j; unfold Addr.add; split
    · rename_i hj; subst hj; rfl
    · rfl
  refine ⟨hsp, ?_⟩
  unfold World.cell? at hcell
  rw [hb] at hcell
  split at hcell
  · rename_i arr e fr hh
    refine ⟨arr, e, fr, hh, hl, fun j hj => ?_⟩
    have := hc j hj
    unfold World.cell? at this
    rw [hb, hh] at this
    simp only [hs, ho, Option.isSome_none, Bool.false_eq_true, if_false] at this
    exact this
  · cases hcell
theorem plain_rep : ∀ (N t fuel : Nat) (cs : List Value) (x : DataW HH × List MemPlace), plainT P N t = true → DataW.trod enc P w 0 (fun _ => true) true fuel t cs = some x →
    ∃ A, RepL (allZ w) noPls A cs ∧ Plain P N t A ∧ ∀ c ∈ A, c.flat = true
  | 0, _, _, _, _, hp, _ => by simp [plainT] at hp
  | N + 1, t, fuel, cs, x, hp, h => by
    unfold plainT at hp
    cases hu : P.underlying t with
    | none => rw [hu] at hp; simp at hp
    | some u =>
      rw [hu] at hp
      cases u <;> simp only [Bool.false_eq_true] at hp
      case bool =>
        obtain ⟨b, rfl, -⟩ := DataW.trod_bool hu h
        exact ⟨[.v (.bool b)], RepL.cons (.v rfl) RepL.nil, by unfold Plain; rw [hu]; exact ⟨b, rfl⟩, by simp [AV.flat]⟩
      case int k =>
        obtain ⟨n, rfl, -, hw⟩ := DataW.trod_int hu h
        exact ⟨[.v (.int k n)], RepL.cons (.v rfl) RepL.nil, by unfold Plain; rw [hu]; exact ⟨n, rfl, hw⟩, by simp [AV.flat]⟩
      case string =>
        obtain ⟨n, rfl, -, hw⟩ := DataW.trod_string hu h
        exact ⟨[.v (.string n)], RepL.cons (.v rfl) RepL.nil, by unfold Plain; rw [hu]; exact ⟨n, rfl, hw⟩, by simp [AV.flat]⟩
      case struct fs =>
        rw [Bool.and_eq_true, List.all_eq_true] at hp
        obtain ⟨xs, n, -, -, hl, hlen, hf⟩ := DataW.trod_struct hu h
        have hall : ∀ f ∈ fs.toList, ∃ a, RepL (allZ w) noPls a ((cs.drop f.offset).take (P.cellsOf f.type)) ∧ Plain P N f.type a ∧ ∀ c ∈ a, c.flat = true := by
          intro f hfm
          obtain ⟨i, hi⟩ := List.getElem?_of_mem hfm
          have hi' : fs[i]? = some f := by simpa using hi
          have hxi := hf i f hi'
          have hlt : i < xs.length := by
            rw [hlen]
            have := (List.getElem?_eq_some_iff.1 hi).1
            simpa using this
          rw [List.getElem?_eq_getElem hlt] at hxi
          exact plain_rep N f.type n _ _ (hp.2 f hfm) hxi
        obtain ⟨A, hA, hAf, hAq⟩ := tile_rep fs.toList 0 (P.cellsOf t) cs hp.1 hl hall (Nat.zero_le _)
        rw [List.drop_zero] at hA
        refine ⟨A, hA, ?_, hAf⟩
        unfold Plain; rw [hu]
        refine ⟨by rw [hA.1]; exact hl, fun f hf => ?_⟩
        have := (hAq f hf).2.2
        rwa [Nat.sub_zero] at this
      case slice e =>
        simp only [Bool.and_eq_true, decide_eq_true_eq] at hp
        rcases DataW.trod_slice hu h with ⟨rfl, -⟩ | ⟨a, len, cap, elems, rest, n, -, rfl, -, -, hlc, hcm, hel, hget, -, -⟩
        · refine ⟨[.v (.slice none 0 0)], RepL.cons (.v rfl) RepL.nil, ?_, by simp [AV.flat]⟩
          unfold Plain; rw [hu]
          exact ⟨_, [], rfl, Or.inl ⟨rfl, rfl⟩, Nat.zero_le _, by simp⟩
        · have hone : ∀ i, i < len → ∃ y : AV, ∃ A ci, w.cells? 0 (a.add (i * P.cellsOf e)) (P.cellsOf e) = some ci ∧ RepL (allZ w) noPls A ci ∧ Plain P N e A ∧ (∀ c ∈ A, c.flat = true) ∧ y = elemOf A := by
            intro i hi
            have := hget i hi
            rw [List.getElem?_eq_getElem (by omega), Option.bind_eq_some_iff] at this
            obtain ⟨ci, hc1, hc2⟩ := this
            obtain ⟨A, h1, h2, h3⟩ := plain_rep N e n ci _ hp.2 hc2
            exact ⟨_, A, ci, hc1, h1, h2, h3, rfl⟩
          obtain ⟨xs, hxl, hxq⟩ := exists_list len hone
          have hsz : ∀ y ∈ xs, y.cells.length = P.cellsOf e := by
            intro y hy
            obtain ⟨i, hi⟩ := List.getElem?_of_mem hy
            obtain ⟨A, ci, h1, h2, h3, h4, rfl⟩ := hxq i y hi
            rw [elem_cells h4, h2.1]
            exact (World.cells?_some h1).2.1
          have hplain : Plain P (N + 1) t [.vs (P.cellsOf e) xs (some cap)] := by
            unfold Plain; rw [hu]
            refine ⟨_, xs, rfl, Or.inr ⟨_, rfl⟩, by omega, fun y hy => ?_⟩
            obtain ⟨i, hi⟩ := List.getElem?_of_mem hy
            obtain ⟨A, ci, h1, h2, h3, h4, rfl⟩ := hxq i y hi
            exact ⟨A, rfl, by rw [h2.1]; exact (World.cells?_some h1).2.1, h3⟩
          by_cases h0 : len = 0
          · subst h0
            have : xs = [] := List.length_eq_zero_iff.1 hxl
            subst this
            exact ⟨_, RepL.cons (.vs0 (by simp)) RepL.nil, hplain, by simp [AV.flat]⟩
          · -- the block
            have hpos := hp.1
            obtain ⟨y0, hy0⟩ : ∃ y, xs[0]? = some y := ⟨xs[0]'(by omega), List.getElem?_eq_getElem _⟩
            obtain ⟨A0, c0, hc0, -⟩ := hxq 0 y0 hy0
            obtain ⟨hsp0, arr, et, fr, hh, -, -⟩ := cells_at hc0 hpos
            have hb : ∀ j, (a.add j).block = a.block := by intro j; unfold Addr.add; split <;> rfl
            have ho : ∀ j, (a.add j).off = a.off + j := by
              intro j; unfold Addr.add; split
              · rename_i hj; subst hj; rfl
              · rfl
            rw [hb] at hh
            have hsp : a.spot = none := by simpa [Addr.add] using hsp0
            have hall : ∀ i j, i < len → j < P.cellsOf e → ∃ A ci, xs[i]? = some (elemOf A) ∧ (∀ c ∈ A, c.flat = true) ∧ RepL (allZ w) noPls A ci ∧ ci.length = P.cellsOf e ∧ arr[a.off + i * P.cellsOf e + j]? = ci[j]? := by
              intro i j hi hj
              obtain ⟨y, hy⟩ : ∃ y, xs[i]? = some y := ⟨xs[i]'(by omega), List.getElem?_eq_getElem _⟩
              obtain ⟨A, ci, h1, h2, h3, h4, rfl⟩ := hxq i y hy
              obtain ⟨-, arr', et', fr', hh', hl', hg⟩ := cells_at h1 hpos
              rw [hb, hh] at hh'
              obtain ⟨rfl, rfl, rfl⟩ : arr = arr' ∧ et = et' ∧ fr = fr' := by simpa using hh'
              have := hg j hj
              rw [ho] at this
              exact ⟨A, ci, hy, h4, h2, hl', this⟩
            have hfl : (xs.flatMap AV.cells).length = len * P.cellsOf e := by rw [flat_len hsz, hxl]
            have hfit : a.off + len * P.cellsOf e ≤ arr.size := by
              obtain ⟨A, ci, -, -, -, hl', hg⟩ := hall (len - 1) (P.cellsOf e - 1) (by omega) (by omega)
              rw [List.getElem?_eq_getElem (by omega)] at hg
              have := (Array.getElem?_eq_some_iff.1 hg).1
              have e1 : (len - 1) * P.cellsOf e + P.cellsOf e = len * P.cellsOf e := by
                have : len = (len - 1) + 1 := by omega
                conv => rhs; rw [this, Nat.succ_mul]
              omega
            refine ⟨[.vs (P.cellsOf e) xs (some cap)], RepL.cons ?_ RepL.nil, hplain, by simp [AV.flat]⟩
            have hval : (Value.slice (some a) len cap) = .slice (some ⟨a.block, (arr.toList.take a.off).length, none⟩) xs.length cap := by
              have : (arr.toList.take a.off).length = a.off := by simp; omega
              rw [this, hxl]; cases a; simp_all
            rw [hval]
            refine .vs (vs := (arr.toList.drop a.off).take (len * P.cellsOf e)) (post := (arr.toList.drop a.off).drop (len * P.cellsOf e)) (pre := arr.toList.take a.off) (e := et) (fz := fr) (arr := arr) hh ?_ hsz ?_ ?_ (by simp) (by omega)
            · rw [List.append_assoc, List.take_append_drop, List.take_append_drop]
            · rw [hfl]; simp; omega
            · intro i c v hc hv
              have hi := (List.getElem?_eq_some_iff.1 hc).1
              rw [hfl] at hi
              have hq : i / P.cellsOf e < len := Nat.div_lt_of_lt_mul (by rw [Nat.mul_comm]; exact hi)
              have hr : i % P.cellsOf e < P.cellsOf e := Nat.mod_lt _ hpos
              have hdm : i / P.cellsOf e * P.cellsOf e + i % P.cellsOf e = i := by rw [Nat.mul_comm]; exact Nat.div_add_mod _ _
              obtain ⟨A, ci, hx, hA, hR, hl', hg⟩ := hall _ _ hq hr
              have hfa := (flat_at hsz hx).1
              rw [elem_cells hA] at hfa
              have hcA : A[i % P.cellsOf e]? = some c := by
                rw [← hfa, List.getElem?_take, if_pos hr, List.getElem?_drop, hdm]; exact hc
              have hvA : ci[i % P.cellsOf e]? = some v := by
                rw [← hg]
                rw [List.getElem?_take, if_pos hi, List.getElem?_drop] at hv
                rw [show a.off + i / P.cellsOf e * P.cellsOf e + i % P.cellsOf e = a.off + i by omega]
                simpa using hv
              exact hR.2 _ _ _ hcA hvA
/-- what is not looked at of spare places -/
theorem plain_spare {base : Nat} {sp : Nat → Bool} : ∀ (N t fuel : Nat) (cs : List Value) (x : DataW HH × List MemPlace), plainT P N t = true → DataW.trod enc P w base (fun _ => true) true fuel t cs = some x →
    (∀ p ∈ x.2, sp p.block = true) → DataW.trod enc P w base sp true fuel t cs = some x
  | 0, _, _, _, _, hp, _, _ => by simp [plainT] at hp
  | N + 1, t, fuel, cs, x, hp, h, hs => by
    unfold plainT at hp
    cases fuel with
    | zero => simp [DataW.trod] at h
    | succ n =>
      cases hu : P.underlying t with
      | none => rw [hu] at hp; simp at hp
      | some u =>
        rw [hu] at hp
        cases u <;> simp only [Bool.false_eq_true] at hp
        case bool => obtain ⟨b, rfl, rfl⟩ := DataW.trod_bool hu h; rw [DataW.trod_step]; unfold DataW.trodStep; rw [hu]
        case int k => obtain ⟨m, rfl, rfl, hw⟩ := DataW.trod_int hu h; rw [DataW.trod_step]; unfold DataW.trodStep; rw [hu]; simp [hw]
        case string => obtain ⟨m, rfl, rfl, hw⟩ := DataW.trod_string hu h; rw [DataW.trod_step]; unfold DataW.trodStep; rw [hu]; simp [hw]
        case struct fs =>
          rw [Bool.and_eq_true, List.all_eq_true] at hp
          rw [DataW.trod_step] at h ⊢
          unfold DataW.trodStep at h ⊢
          rw [hu] at h ⊢
          simp only at h ⊢
          split at h
          · rename_i hl
            rw [if_pos hl]
            simp only [Option.map_eq_some_iff] at h ⊢
            obtain ⟨xs, hxs, rfl⟩ := h
            refine ⟨xs, mapM_carry hxs fun f y hf hy hfy => plain_spare N f.type n _ y (hp.2 f hf) hfy fun p hpm => hs p ?_, rfl⟩
            exact List.mem_flatMap.2 ⟨y, hy, hpm⟩
          · cases h
        case slice e =>
          simp only [Bool.and_eq_true, decide_eq_true_eq] at hp
          have h0 := h
          rw [DataW.trod_step] at h ⊢
          unfold DataW.trodStep at h ⊢
          rw [hu] at h ⊢
          rcases DataW.trod_slice hu h0 with ⟨rfl, rfl⟩ | ⟨a, len, cap, elems, rest, n', hn', rfl, rfl, -, hlc, hcm, hel, hget, hrest, -⟩
          · rfl
          · simp only at h ⊢
            split at h
            · rename_i hc
              rw [if_pos hc]
              simp only [if_true, Option.bind_eq_some_iff, Option.map_eq_some_iff] at h ⊢
              obtain ⟨es, hes, rs, hrs, heq⟩ := h
              have hin : ∀ y, y ∈ es ++ rs → ∀ p ∈ y.2, sp p.block = true := by
                intro y hy p hpm
                refine hs p ?_
                have := congrArg Prod.snd heq
                simp only at this
                rw [← this]
                exact List.mem_append_right _ (List.mem_flatMap.2 ⟨y, hy, hpm⟩)
              refine ⟨es, mapM_carry hes fun i y _ hy hfy => ?_, rs, ?_, heq⟩
              · obtain ⟨ci, h1, h2⟩ := Option.bind_eq_some_iff.1 hfy
                rw [h1]
                exact plain_spare N e n ci y hp.2 h2 (hin y (List.mem_append_left _ hy))
              · have hrl : rs.length = cap - len := by
                  have := mapM_some_length hrs
                  simpa using this
                by_cases hz : cap - len = 0
                · have : rs = [] := List.length_eq_zero_iff.1 (by omega)
                  subst this
                  split
                  · rw [hz] at hrs ⊢; exact hrs
                  · rfl
                · have hsp : sp a.block = true := by
                    have hel' : es.length = len := by
                      have := mapM_some_length hes
                      simpa using this
                    have := congrArg Prod.snd heq
                    simp only at this
                    have hm : MemPlace.cell a.block (a.off + 0) ∈ MemPlace.row a ((elems.length + rest.length) * P.cellsOf e) ++ (elems ++ rest).flatMap (·.2) := by
                      rw [← this]
                      refine List.mem_append_left _ (MemPlace.mem_row.2 ⟨0, ?_, rfl⟩)
                      exact Nat.mul_pos (by omega) hp.1
                    exact hs _ hm
                  rw [if_pos hsp]
                  refine mapM_carry hrs fun i y _ hy hfy => ?_
                  obtain ⟨ci, h1, h2⟩ := Option.bind_eq_some_iff.1 hfy
                  rw [h1]
                  exact plain_spare N e n ci y hp.2 h2 (hin y (List.mem_append_right _ hy))
            · cases h
end
end Go.Ev
/- A law: what the evaluator answers on all plain data is what the statement says. -/
namespace Go.Ev
open Go.ChangeShapes Go.WideShapes Go.ChangeAt Go.RowKit
/-- an argument of a type of plain data -/
def Arg (P : Program) (N : Nat) (t : TypeId) (x : AV) : Prop :=
  match P.underlying t with
  | some (.struct _) => ∃ A, x = .agg A ∧ Plain P N t A
  | _ => Plain P N t [x]
inductive ArgsOf (P : Program) (N : Nat) : List TypeId → List AV → Prop
  | nil : ArgsOf P N [] []
  | cons {t : TypeId} {ts : List TypeId} {x : AV} {xs : List AV} (h : Arg P N t x) (hs : ArgsOf P N ts xs) : ArgsOf P N (t :: ts) (x :: xs)
section
variable {HH : Type} {enc : TypeId × Value → HH} {P : Program} {w : World}
theorem arg_rep {N base : Nat} {t : TypeId} {v : Value} {d : DataW HH} {ps : List MemPlace} (hp : plainT P N t = true) (hok : Value.okWide P w .any base t v) (h : DataW.Trod enc P w 0 (fun _ => true) true t v d ps) :
    ∃ x, Rep (allZ w) noPls x v ∧ Arg P N t x := by
  obtain ⟨fuel, h⟩ := h
  obtain ⟨A, hA, hpl, hfl⟩ := plain_rep N t fuel _ _ hp h
  cases N with
  | zero => simp [plainT] at hp
  | succ N =>
    have one : ∀ (hv : v.cells.toList = [v]), (∃ c, A = [c]) → (∀ fs, P.underlying t ≠ some (.struct fs)) → ∃ x, Rep (allZ w) noPls x v ∧ Arg P (N + 1) t x := by
      rintro hv ⟨c, rfl⟩ hns
      rw [hv] at hA
      obtain ⟨v', ws, e, hr, -⟩ := hA.uncons
      cases e
      refine ⟨c, hr, ?_⟩
      unfold Arg
      split
      · rename_i fs hu; exact absurd hu (hns fs)
      · exact hpl
    unfold plainT at hp
    unfold Value.okWide at hok
    have hpl' := hpl
    unfold Plain at hpl'
    cases hu : P.underlying t with
    | none => rw [hu] at hp; simp at hp
    | some u =>
      rw [hu] at hp hok hpl'
      cases u <;> simp only [Bool.false_eq_true] at hp hok hpl'
      case bool =>
        obtain ⟨b, rfl⟩ := hpl'
        refine one ?_ ⟨_, rfl⟩ (by simp [hu])
        unfold Cell.okWide Cell.ok at hok; rw [hu] at hok
        cases v <;> first | rfl | simp at hok
      case int k =>
        obtain ⟨m, rfl, -⟩ := hpl'
        refine one ?_ ⟨_, rfl⟩ (by simp [hu])
        unfold Cell.okWide Cell.ok at hok; rw [hu] at hok
        cases v <;> first | rfl | simp at hok
      case string =>
        obtain ⟨m, rfl, -⟩ := hpl'
        refine one ?_ ⟨_, rfl⟩ (by simp [hu])
        unfold Cell.okWide Cell.ok at hok; rw [hu] at hok
        cases v <;> first | rfl | simp at hok
      case slice e =>
        obtain ⟨x, xs, rfl, -⟩ := hpl'
        refine one ?_ ⟨_, rfl⟩ (by simp [hu])
        unfold Cell.okWide Cell.ok at hok; rw [hu] at hok
        cases v <;> first | rfl | simp at hok
      case struct fs =>
        obtain ⟨cs, rfl, -, -⟩ := hok
        refine ⟨.agg A, ?_, ?_⟩
        · have := hA.agg
          simpa [Value.cells] using this
        · unfold Arg; rw [hu]; exact ⟨A, rfl, hpl⟩
theorem args_rep {N base : Nat} : ∀ {ts : List TypeId} {vs : List Value} {ds : List (DataW HH)} {ps : List MemPlace}, ts.all (plainT P N) = true → (∀ (j : Nat) t v, ts[j]? = some t → vs[j]? = some v → Value.okWide P w .any base t v) →
    DataW.TrodAll enc P w 0 (fun _ => true) true ts vs ds ps → ∃ xs, RepL (allZ w) noPls xs vs ∧ ArgsOf P N ts xs
  | [], vs, ds, ps, _, _, h => by
    cases vs <;> cases ds <;> simp [DataW.TrodAll] at h
    exact ⟨[], RepL.nil, .nil⟩
  | t :: ts, vs, ds, ps, hp, hok, h => by
    obtain ⟨v, vs', d, ds', p, q, rfl, rfl, rfl, h1, h2⟩ := trodAll_cons h
    simp only [List.all_cons, Bool.and_eq_true] at hp
    obtain ⟨x, hx, hax⟩ := arg_rep hp.1 (hok 0 t v rfl rfl) h1
    obtain ⟨xs, hxs, haxs⟩ := args_rep hp.2 (fun j t' v' ht hv => hok (j + 1) t' v' (by simpa using ht) (by simpa using hv)) h2
    exact ⟨x :: xs, RepL.cons hx hxs, .cons hax haxs⟩
theorem trod_after {w' : World} (hh : ∀ k, k < w.heap.size → w'.heap[k]? = w.heap[k]?) {N : Nat} {sp : Nat → Bool} : ∀ {ts : List TypeId} {vs : List Value} {ds : List (DataW HH)} {ps : List MemPlace}, ts.all (plainT P N) = true →
    DataW.TrodAll enc P w 0 (fun _ => true) true ts vs ds ps → (∀ p ∈ ps, sp p.block = true) → DataW.TrodAll enc P w' 0 sp true ts vs ds ps
  | [], vs, ds, ps, _, h, _ => by
    cases vs <;> cases ds <;> simp [DataW.TrodAll] at h ⊢
    exact h
  | t :: ts, vs, ds, ps, hp, h, hs => by
    obtain ⟨v, vs', d, ds', p, q, rfl, rfl, rfl, ⟨fuel, h1⟩, h2⟩ := trodAll_cons h
    simp only [List.all_cons, Bool.and_eq_true] at hp
    refine ⟨p, q, ⟨fuel, ?_⟩, trod_after hh hp.2 h2 fun p hp => hs p (List.mem_append_right _ hp), rfl⟩
    have hlt := DataW.trod_lt _ _ _ _ h1
    refine plain_spare N t fuel _ _ hp.1 (DataW.trod_carry _ _ _ _ h1 fun p hp => ?_) fun p hp => hs p (List.mem_append_left _ hp)
    have := hlt p hp
    cases p with
    | cell b off =>
      have hb : b < w.heap.size := this
      simp only [World.sameAt, World.cell?, hh b hb]
    | map b =>
      have hb : b < w.heap.size := this
      simp only [World.sameAt, hh b hb]
theorem trodAll_len {b : Nat} {sp : Nat → Bool} {hd : Bool} : ∀ {ts : List TypeId} {vs : List Value} {ds : List (DataW HH)} {ps : List MemPlace}, DataW.TrodAll enc P w b sp hd ts vs ds ps → ds.length = ts.length
  | [], vs, ds, ps, h => by cases vs <;> cases ds <;> simp [DataW.TrodAll] at h ⊢
  | t :: ts, vs, ds, ps, h => by
    obtain ⟨v, vs', d, ds', p, q, rfl, rfl, rfl, h1, h2⟩ := trodAll_cons h
    simp [trodAll_len h2]
theorem kept_of {w' : World} (hos : w'.os = w.os) (hout : w'.output = w.output) (hh : ∀ k, k < w.heap.size → w'.heap[k]? = w.heap[k]?) : w.keptBut w' (fun _ => False) := by
  refine ⟨hos, hout, fun i hi => ?_⟩
  rw [hh i hi]
  cases h : w.heap[i]? with
  | none => simp
  | some o => cases o <;> simp
/-- what the call leaves as it was: only what was there need not be frozen anew -/
theorem post_of_old {f : Func} {s : ChangeSpec} {apart fresh handsOn again : Bool} {W W' : World} {args : Array Value} {v : Value} {ds gs : List (DataW HH)} {before pa pv : List MemPlace}
    (hW : DataW.Whole enc P f.params.toList s.vars apart W args.toList ds gs before)
    (hres : ∀ (b : Nat) (sp : Nat → Bool) (hd : Bool), DataW.TrodAll enc P W' b sp hd f.resultTypes.toList (v.resultList f.resultTypes.size) (s.fn HH (ds ++ gs)).results [])
    (hargs : ∀ sp : Nat → Bool, (∀ p ∈ before, sp p.block = true) → DataW.TrodAll enc P W' 0 sp true f.params.toList args.toList (s.fn HH (ds ++ gs)).args pa)
    (hvars : ∀ sp : Nat → Bool, (∀ p ∈ before, sp p.block = true) → DataW.TrodVars enc P W' sp s.vars (s.fn HH (ds ++ gs)).vars pv)
    (hps : before = pa ++ pv) (hk : W.keptBut W' (· ∈ before)) (hfz : ∀ a : Addr, a.block < W.heap.size → W'.frozen? a = W.frozen? a)
    (hok : ∀ (j : Nat) (t : TypeId) (r : Value), f.resultTypes[j]? = some t → (v.resultList f.resultTypes.size)[j]? = some r → Value.okWide P W' .any 0 t r) :
    s.post enc P f apart fresh handsOn again W args v W' := by
  have hold : ∀ p ∈ before, (fun b => decide (b < W.heap.size)) p.block = true := fun p hp => by simpa using hW.lt p hp
  have hlt := hW.lt
  refine ⟨ds, gs, before, [], pa, pv, hW, hres _ _ _, hargs _ hold, hvars _ hold, World.keptBut_mono (fun p hp => ⟨hp, ?_⟩) hk, fun _ => ?_⟩
  · rw [hps, List.mem_append] at hp
    exact Or.inr hp
  · obtain ⟨_, _, _, _, _, hz, hn⟩ := hW
    refine ⟨hok, _, _, ([] ++ pa) ++ pv, ⟨[] ++ pa, pv, trodAll_append (hargs _ (fun _ _ => rfl)) (hres _ _ _), hvars _ (fun _ _ => rfl), rfl, ?_, ?_⟩, ?_⟩
    · intro b off hp
      have hp' : MemPlace.cell b off ∈ before := by rw [hps]; simpa using hp
      rw [hfz ⟨b, off, none⟩ (hlt _ hp')]
      exact hz b off hp'
    · intro ha
      have := hn ha
      rw [hps] at this
      simpa using this
    · intro p hp _
      rw [hps]
      simpa using hp
/-- a law of plain data -/
theorem law_contract {C : Cfg} (hP : C.P = P) (hgo : NoGo P) (hm : P.follows .mixedOrders = true) (hext : ExtOK C) {f : FuncId} {fn : Func} {s : ChangeSpec} {N : Nat} {apart fresh handsOn again : Bool} {tb : TypeId}
    (hpl : fn.params.toList.all (plainT P N) = true) (hvars : s.vars = []) (hspec : ∀ ds : List (DataW HH), ds.length = fn.params.size → s.fn HH ds = { results := [.lit (.bool true)], args := ds })
    (hrt : fn.resultTypes = #[tb]) (htb : P.underlying tb = some .bool)
    (hlaw : ∀ xs, ArgsOf P N fn.params.toList xs → ∃ H', lim C (.call f xs { objs := [], lock := 0 }) = some (.ret (.v (.bool true)) H'))
    {W : World} {base : Nat} {args : Array Value} {ds gs : List (DataW HH)} {before : List MemPlace}
    (hval : ∀ (j : Nat) t v, fn.params[j]? = some t → args[j]? = some v → Value.okWide P W .any base t v)
    (hW : DataW.Whole enc P fn.params.toList s.vars apart W args.toList ds gs before) :
    Calls P f args W fun e W' => ∃ v, e = .returned v ∧ s.post enc P fn apart fresh handsOn again W args v W' := by
  subst hP
  have hW' := hW
  obtain ⟨p, q, hA, hV, rfl, hfz, hnd⟩ := hW
  have hV' := hV
  rw [hvars] at hV'
  obtain ⟨rfl, rfl⟩ := trodVars_none hV'
  obtain ⟨xs, hxs, hax⟩ := args_rep hpl (fun j t v ht hv => hval j t v (by simpa using ht) (by simpa using hv)) hA
  obtain ⟨H', hl⟩ := hlaw xs hax
  have hc := top_calls hgo hm hext hl hxs
  have hlen : ds.length = fn.params.size := by have := trodAll_len hA; simpa using this
  have hsf : s.fn HH (ds ++ []) = { results := [.lit (.bool true)], args := ds } := by rw [List.append_nil]; exact hspec ds hlen
  refine Calls.mono' hc ?_
  rintro e W' ⟨rfl, hh, hsz, hos, hout, -, hfr⟩
  refine ⟨_, rfl, post_of_old (pa := p) (pv := []) hW' ?_ ?_ ?_ rfl (World.keptBut_mono (fun _ h => h.elim) (kept_of hos hout hh)) hfr ?_⟩
  · intro b sp hd
    rw [hsf, hrt]
    exact trodAll_mk1 (shut_bool htb true)
  · intro sp hsp
    rw [hsf]
    exact trod_after hh hpl hA fun x hx => hsp x (List.mem_append_left _ hx)
  · intro sp hsp
    rw [hsf, hvars]
    rfl
  · exact ok_one hrt rfl (okWide_bool_mk htb true)
end
end Go.Ev
namespace Go.Ev
open Go.Proofs
set_option maxRecDepth 100000
set_option linter.unusedSimpArgs false
/-! ### from arguments of plain data to texts -/
theorem all2_of {α β : Type} {R : α → β → Prop} : ∀ (xs : List β), (∀ y ∈ xs, ∃ a, R a y) → ∃ l, All2 R l xs
  | [], _ => ⟨[], rfl, fun i a b h => by simp at h⟩
  | y :: r, h => by
    obtain ⟨a, ha⟩ := h y List.mem_cons_self
    obtain ⟨l, hl⟩ := all2_of r fun z hz => h z (List.mem_cons_of_mem _ hz)
    refine ⟨a :: l, by simp [hl.1], fun i x z hx hz => ?_⟩
    cases i with
    | zero => simp at hx hz; subst hx; subst hz; exact ha
    | succ i => exact hl.2 i x z (by simpa using hx) (by simpa using hz)
theorem All2.mem_left {α β : Type} {R : α → β → Prop} {l : List α} {m : List β} (h : All2 R l m) {a : α} (ha : a ∈ l) : ∃ b ∈ m, R a b := by
  obtain ⟨i, hi⟩ := List.getElem?_of_mem ha
  obtain ⟨b, hb, hr⟩ := h.get hi
  exact ⟨b, List.mem_of_getElem? hb, hr⟩
def fieldsAt (P : Program) (t : TypeId) : List (Nat × Nat) := match P.underlying t with | some (.struct fs) => fs.toList.map fun f => (f.offset, f.type) | _ => []
def isStruct (P : Program) (t : TypeId) : Bool := match P.underlying t with | some (.struct _) => true | _ => false
theorem plain_struct {P : Program} {N t : Nat} {cs : List AV} {l : List (Nat × Nat)} (hs : isStruct P t = true) (hl : fieldsAt P t = l) (h : Plain P (N + 1) t cs) : cs.length = P.cellsOf t ∧ ∀ x ∈ l, Plain P N x.2 ((cs.drop x.1).take (P.cellsOf x.2)) := by
  unfold Plain at h
  unfold isStruct at hs
  unfold fieldsAt at hl
  split at hs
  · rename_i fs hu
    rw [hu] at h hl
    simp only at h hl
    refine ⟨h.1, fun x hx => ?_⟩
    rw [← hl] at hx
    obtain ⟨f, hf, rfl⟩ := List.mem_map.1 hx
    exact h.2 f hf
  · cases hs
theorem arg_struct {P : Program} {N t : Nat} {x : AV} (hs : isStruct P t = true) (h : Arg P N t x) : ∃ A, x = .agg A ∧ Plain P N t A := by
  unfold Arg at h
  unfold isStruct at hs
  split at hs
  · rename_i fs hu; rw [hu] at h; exact h
  · cases hs
theorem plain_slice {P : Program} {N t e c : Nat} {cs : List AV} (hu : P.underlying t = some (.slice e)) (hc : P.cellsOf e = c) (h : Plain P (N + 1) t cs) : ∃ x xs, cs = [x] ∧ SlOf c xs x ∧ xs.length ≤ maxLen ∧ ∀ y ∈ xs, ∃ d, y = elemOf d ∧ d.length = c ∧ Plain P N e d := by
  unfold Plain at h; rw [hu] at h; subst hc; exact h
theorem plain_int {P : Program} {N t : Nat} {k : IntKind} {cs : List AV} (hu : P.underlying t = some (.int k)) (h : Plain P (N + 1) t cs) : ∃ m, cs = [.v (.int k m)] ∧ (Lit.int k m).wf = true := by
  unfold Plain at h; rw [hu] at h; exact h
theorem plain_string {P : Program} {N t : Nat} {cs : List AV} (hu : P.underlying t = some .string) (h : Plain P (N + 1) t cs) : ∃ s, cs = [.v (.string s)] ∧ s.size ≤ maxLen := by
  unfold Plain at h; rw [hu] at h; exact h
theorem two_cells {l : List AV} (h : l.length = 2) : ∃ a b, l = [a, b] := by
  match l, h with
  | [a, b], _ => exact ⟨a, b, rfl⟩
theorem maxLen_lt : maxLen < 2 ^ 63 := by decide
def LineF (ws : Line) (x : AV) : Prop := LineA ws x ∧ ws.length < 2 ^ 63 ∧ ∀ s ∈ ws, s.size < 2 ^ 63
def ChapF (c : Chap) (y : AV) : Prop := ChapA c y ∧ c.2.length < 2 ^ 63 ∧ ∀ l ∈ c.2, l.length < 2 ^ 63 ∧ ∀ s ∈ l, s.size < 2 ^ 63
theorem line_of {N : Nat} {cs : List AV} (h : Plain Try.prog (N + 2) 51 cs) : ∃ ws x, cs = [x] ∧ LineF ws x := by
  obtain ⟨x, xs, rfl, hx, hlen, hxs⟩ := plain_slice (c := 1) (by kernel_rfl : Try.prog.underlying 51 = some (.slice 9)) (by kernel_rfl) h
  have key : ∀ y ∈ xs, ∃ s : ByteArray, y = .v (.string s) ∧ s.size ≤ maxLen := by
    intro y hy
    obtain ⟨d, rfl, -, hd⟩ := hxs y hy
    obtain ⟨s, rfl, hs⟩ := plain_string (by kernel_rfl : Try.prog.underlying 9 = some .string) hd
    exact ⟨s, rfl, hs⟩
  obtain ⟨ws, hws⟩ := all2_of (R := fun (s : ByteArray) y => y = AV.v (.string s) ∧ s.size ≤ maxLen) xs key
  have he : xs = strs ws := by
    unfold strs
    apply List.ext_getElem?
    intro i
    rw [List.getElem?_map]
    cases hi : ws[i]? with
    | none =>
      rw [List.getElem?_eq_none_iff] at hi
      rw [Option.map_none, List.getElem?_eq_none_iff]
      rw [← hws.1]; exact hi
    | some s =>
      obtain ⟨b, hb, rfl, -⟩ := hws.get hi
      rw [hb]; rfl
  have := maxLen_lt
  subst he
  refine ⟨ws, x, rfl, hx, by rw [strs_len] at hlen; omega, fun s hs => ?_⟩
  obtain ⟨b, -, -, h2⟩ := hws.mem_left hs
  omega
theorem chap_of {N : Nat} {cs : List AV} (h : Plain Try.prog (N + 4) 78 cs) : ∃ c, ChapF c (.agg cs) := by
  obtain ⟨hl, hf⟩ := plain_struct (l := [(0, 3), (1, 76)]) (by kernel_rfl) (by kernel_rfl) h
  obtain ⟨a, b, rfl⟩ := two_cells (hl.trans (by kernel_rfl))
  have h0 := hf (0, 3) (by simp)
  have h1 := hf (1, 76) (by simp)
  have e0 : Try.prog.cellsOf 3 = 1 := by kernel_rfl
  have e1 : Try.prog.cellsOf 76 = 1 := by kernel_rfl
  simp only [e0, e1, List.drop_zero, List.drop_succ_cons, List.take_succ_cons, List.take_zero] at h0 h1
  obtain ⟨m, hm, -⟩ := plain_int (by kernel_rfl : Try.prog.underlying 3 = some (.int .i64)) h0
  obtain ⟨x, xs, hx, hsl, hlen, hxs⟩ := plain_slice (c := 1) (by kernel_rfl : Try.prog.underlying 76 = some (.slice 51)) (by kernel_rfl) h1
  simp only [List.cons.injEq, and_true] at hm hx
  subst hm; subst hx
  have key : ∀ y ∈ xs, ∃ ws, LineF ws y := by
    intro y hy
    obtain ⟨d, rfl, -, hd⟩ := hxs y hy
    obtain ⟨ws, z, rfl, hz⟩ := line_of hd
    exact ⟨ws, hz⟩
  obtain ⟨ls, hls⟩ := all2_of xs key
  have := maxLen_lt
  refine ⟨(m, ls), ⟨_, rfl, xs, hsl, hls.1, fun i a b ha hb => (hls.2 i a b ha hb).1⟩, by have := hls.1; show ls.length < _; omega, fun l hl => ?_⟩
  obtain ⟨b, -, hb⟩ := hls.mem_left hl
  exact ⟨hb.2.1, hb.2.2⟩
theorem text_of {N : Nat} {x : AV} (h : Arg Try.prog (N + 6) 24 x) : ∃ t, TextA t x ∧ Fits t := by
  obtain ⟨A, rfl, hp⟩ := arg_struct (by kernel_rfl) h
  obtain ⟨hl, hf⟩ := plain_struct (l := [(0, 22)]) (by kernel_rfl) (by kernel_rfl) hp
  have h0 := hf (0, 22) (by simp)
  have hl1 : A.length = 1 := hl.trans (by kernel_rfl)
  obtain ⟨ch, rfl⟩ : ∃ c, A = [c] := by
    match A, hl1 with
    | [a], _ => exact ⟨a, rfl⟩
  have e0 : Try.prog.cellsOf 22 = 1 := by kernel_rfl
  simp only [e0, List.drop_zero, List.take_succ_cons, List.take_zero] at h0
  obtain ⟨y, xs, hy, hsl, hlen, hxs⟩ := plain_slice (c := 2) (by kernel_rfl : Try.prog.underlying 22 = some (.slice 78)) (by kernel_rfl) h0
  simp only [List.cons.injEq, and_true] at hy
  subst hy
  have key : ∀ y ∈ xs, ∃ c, ChapF c y := by
    intro y hy
    obtain ⟨d, rfl, hd2, hd⟩ := hxs y hy
    obtain ⟨a, b, rfl⟩ := two_cells hd2
    exact chap_of hd
  obtain ⟨t, ht⟩ := all2_of xs key
  have := maxLen_lt
  have hmem : ∀ c ∈ t, c.2.length < 2 ^ 63 ∧ ∀ l ∈ c.2, l.length < 2 ^ 63 ∧ ∀ s ∈ l, s.size < 2 ^ 63 := fun c hc => by
    obtain ⟨b, -, hb⟩ := ht.mem_left hc
    exact hb.2
  exact ⟨t, ⟨ch, rfl, xs, hsl, ht.1, fun i a b ha hb => (ht.2 i a b ha hb).1⟩, by have := ht.1; omega, fun c hc => (hmem c hc).1, fun c hc l hl => ((hmem c hc).2 l hl).1, fun c hc l hl s hs => ((hmem c hc).2 l hl).2 s hs⟩
theorem freeze_to_v {H : Heap} {K : Nat} {x : AV} {y : Value} (h : freezeV H K x = some (.v y)) : x = .v y := by
  cases K with
  | zero => cases h
  | succ K =>
    unfold freezeV at h
    cases x with
    | v z => simpa using h
    | ro z k => simp at h
    | vs s l c => simp at h
    | agg l => simp only [Option.map_eq_some_iff] at h; obtain ⟨_, _, h⟩ := h; cases h
    | tup l => simp only [Option.map_eq_some_iff] at h; obtain ⟨_, _, h⟩ := h; cases h
    | ifc t z => simp only [Option.map_eq_some_iff] at h; obtain ⟨_, _, h⟩ := h; cases h
    | mp b => simp only at h; split at h <;> simp at h
    | yld b => simp only at h; split at h <;> simp at h
    | fn f a b => simp only at h; split at h <;> simp at h
    | ptr b v k =>
      simp only at h
      split at h
      · simp at h
      · split at h
        · split at h
          · split at h <;> simp at h
          · simp at h
        · simp at h
    | sl b v off len c =>
      simp only at h
      split at h
      · simp at h
      · split at h
        · split at h
          · split at h
            · simp at h
            · split at h
              · split at h <;> simp at h
              · simp at h
          · simp at h
        · simp at h
theorem Ans.lim {C : Cfg} {f : FuncId} {args : List AV} (h : Ans C f args (.v (.bool true))) : ∃ H', Go.Ev.lim C (.call f args { objs := [], lock := 0 }) = some (.ret (.v (.bool true)) H') := by
  obtain ⟨x, H, h1, h2⟩ := Ans.iff.1 h
  rw [freeze_to_v h2] at h1
  exact ⟨H, h1⟩
end Go.Ev
/- Loops' bodies that lay memory which stays: what a state holds, by places. -/
namespace Go.Ev
abbrev Fm := List (Nat × AObj)
def Has (m : Fm) (H : Heap) : Prop := ∀ p ∈ m, H.get p.1 = some p.2
def keyIn (b : Nat) (m : Fm) : Prop := ∃ p ∈ m, p.1 = b
/-- whatever lies behind n is led to from before it -/
def Anch (n0 : Nat) (m : Fm) : Prop := ∀ n, n0 ≤ n → (∃ p ∈ m, n ≤ p.1) → ∃ p ∈ m, p.1 < n ∧ n < p.2.bound
structure Moves (m : Fm) (H : Heap) (m' : Fm) (H' : Heap) : Prop where
  lock : H'.lock = H.lock
  size : H.size ≤ H'.size
  same : ∀ b, b < H.size → ¬ keyIn b m → H'.get b = H.get b
  keys : ∀ p ∈ m', keyIn p.1 m ∨ H.size ≤ p.1
theorem get_ltS {H : Heap} {b : Nat} {o : AObj} (h : H.get b = some o) : b < H.size := by
  unfold Heap.get at h
  cases hb : H.objs[b]? with
  | none => rw [hb] at h; cases h
  | some x => exact (List.getElem?_eq_some_iff.1 hb).1
theorem boundsOk_getI {n : Nat} : ∀ {l : List (Option AObj)} {b : Nat} {o : AObj}, boundsOk n l = true → l[b]? = some (some o) → o.bound ≤ n
  | [], b, o, _, h => by simp at h
  | none :: r, 0, o, _, h => by simp at h
  | none :: r, b + 1, o, hb, h => boundsOk_getI (l := r) (b := b) (by simpa [boundsOk] using hb) (by simpa using h)
  | some x :: r, 0, o, hb, h => by
    simp at h; subst h
    simp only [boundsOk, Bool.and_eq_true] at hb
    exact Nat.le_of_ble_eq_true hb.1
  | some x :: r, b + 1, o, hb, h => by
    simp only [boundsOk, Bool.and_eq_true] at hb
    exact boundsOk_getI (l := r) (b := b) hb.2 (by simpa using h)
theorem trim_cases (H : Heap) (n : Nat) (vs : List AV) (ms : List Nat) : H.trim n vs ms = H ∨ (H.trim n vs ms = { H with objs := H.objs.take n } ∧ boundsOk n (H.objs.take n) = true) := by
  unfold Heap.trim
  split
  · rename_i h
    simp only [Bool.and_eq_true] at h
    exact Or.inr ⟨rfl, h.1.2⟩
  · exact Or.inl rfl
theorem take_get {H : Heap} {n b : Nat} (h : b < n) : (Heap.mk (H.objs.take n) H.lock).get b = H.get b := by
  unfold Heap.get; simp only; rw [List.getElem?_take, if_pos h]
theorem get_objs {H : Heap} {b : Nat} {o : AObj} (h : H.get b = some o) : H.objs[b]? = some (some o) := by
  unfold Heap.get at h
  cases hb : H.objs[b]? with
  | none => rw [hb] at h; cases h
  | some x => rw [hb] at h; cases x with
    | none => cases h
    | some y => cases h; rfl
theorem Has.trim {m : Fm} {H : Heap} {n0 n : Nat} (h : Has m H) (ha : Anch n0 m) (hn : n0 ≤ n) (vs : List AV) (ms : List Nat) : Has m (H.trim n vs ms) := by
  rcases trim_cases H n vs ms with h1 | ⟨h1, h2⟩
  · rw [h1]; exact h
  · rw [h1]
    have key : ∀ p ∈ m, p.1 < n := by
      intro p hp
      rcases Nat.lt_or_ge p.1 n with hlt | hge
      · exact hlt
      · obtain ⟨q, hq, hq1, hq2⟩ := ha n hn ⟨p, hp, hge⟩
        have := boundsOk_getI h2 (b := q.1) (o := q.2) (by rw [List.getElem?_take, if_pos hq1]; exact get_objs (h q hq))
        omega
    intro p hp
    show (Heap.mk (H.objs.take n) H.lock).get p.1 = _
    rw [take_get (key p hp)]; exact h p hp
theorem Has.settle {m : Fm} {H : Heap} (h : Has m H) (n : Nat) : Has m (settleH n H) := by
  unfold settleH
  split
  · rename_i hn
    have key : ∀ p ∈ m, p.1 < n := by
      intro p hp
      rcases Nat.lt_or_ge p.1 n with hlt | hge
      · exact hlt
      · have h1 := get_objs (h p hp)
        have h2 : (H.objs.drop n)[p.1 - n]? = some (some p.2) := by rw [List.getElem?_drop, show n + (p.1 - n) = p.1 by omega]; exact h1
        have := List.all_eq_true.1 hn _ (List.mem_of_getElem? h2)
        simp at this
    intro p hp
    show (Heap.mk (H.objs.take n) H.lock).get p.1 = _
    rw [take_get (key p hp)]; exact h p hp
  · exact h
theorem Moves.refl (m : Fm) (H : Heap) : Moves m H m H := ⟨rfl, Nat.le_refl _, fun _ _ _ => rfl, fun p hp => Or.inl ⟨p, hp, rfl⟩⟩
theorem Moves.trans {m m' m'' : Fm} {H H' H'' : Heap} (h : Moves m H m' H') (k : Moves m' H' m'' H'') : Moves m H m'' H'' := by
  refine ⟨k.lock.trans h.lock, Nat.le_trans h.size k.size, fun b hb hm => ?_, fun p hp => ?_⟩
  · have h1 : ¬ keyIn b m' := by
      rintro ⟨p, hp, rfl⟩
      rcases h.keys p hp with h2 | h2
      · exact hm h2
      · omega
    rw [k.same b (Nat.lt_of_lt_of_le hb h.size) h1, h.same b hb hm]
  · rcases k.keys p hp with ⟨q, hq, he⟩ | h2
    · rcases h.keys q hq with h3 | h3
      · exact Or.inl (he ▸ h3)
      · exact Or.inr (he ▸ h3)
    · exact Or.inr (Nat.le_trans h.size h2)
theorem Moves.trim {m m' : Fm} {H H' : Heap} (h : Moves m H m' H') (vs : List AV) (ms : List Nat) {n : Nat} (hn : n = H.size) : Moves m H m' (H'.trim n vs ms) := by
  subst hn
  rcases trim_cases H' H.size vs ms with h1 | ⟨h1, -⟩
  · rw [h1]; exact h
  · rw [h1]
    refine ⟨h.lock, ?_, fun b hb hm => ?_, h.keys⟩
    · show H.size ≤ (H'.objs.take H.size).length
      have := h.size
      rw [List.length_take]; unfold Heap.size at *; omega
    · show (Heap.mk (H'.objs.take H.size) H'.lock).get b = _
      rw [take_get hb]; exact h.same b hb hm
theorem Moves.settle {m m' : Fm} {H H' : Heap} (h : Moves m H m' H') {n : Nat} (hn : n = H.size) : Moves m H m' (settleH n H') := by
  subst hn
  unfold settleH
  split
  · refine ⟨h.lock, ?_, fun b hb hm => ?_, h.keys⟩
    · show H.size ≤ (H'.objs.take H.size).length
      have := h.size
      rw [List.length_take]; unfold Heap.size at *; omega
    · show (Heap.mk (H'.objs.take H.size) H'.lock).get b = _
      rw [take_get hb]; exact h.same b hb hm
  · exact h
theorem put_get_ne {H : Heap} {b c : Nat} (o : AObj) (hb : b ≤ H.size) (h : c ≠ b) : (H.put b o).get c = H.get c := by
  unfold Heap.put Heap.get
  simp only
  have key : ∀ (b : Nat) (l : List (Option AObj)) (c : Nat), b ≤ l.length → c ≠ b → (setOrPush (some o) b l)[c]?.join = l[c]?.join := by
    intro b l
    induction l generalizing b with
    | nil =>
      intro c hb hc
      have : b = 0 := by simpa using hb
      subst this
      cases c with
      | zero => exact absurd rfl hc
      | succ c => rfl
    | cons x r ih =>
      intro c hb hc
      cases b with
      | zero => cases c with
        | zero => exact absurd rfl hc
        | succ c => rfl
      | succ b => cases c with
        | zero => rfl
        | succ c =>
          have := ih b c (by simpa using hb) (by omega)
          simpa [setOrPush] using this
  exact key b H.objs c hb h
theorem put_get_eq {H : Heap} {b : Nat} (o : AObj) (hb : b ≤ H.size) : (H.put b o).get b = some o := by
  unfold Heap.put Heap.get
  simp only
  have key : ∀ (b : Nat) (l : List (Option AObj)), b ≤ l.length → (setOrPush (some o) b l)[b]? = some (some o) := by
    intro b l
    induction l generalizing b with
    | nil => intro hb; have : b = 0 := by simpa using hb
             subst this; rfl
    | cons x r ih =>
      intro hb
      cases b with
      | zero => rfl
      | succ b => simpa [setOrPush] using ih b (by simpa using hb)
  rw [key b H.objs hb]; rfl
theorem Moves.plus (m : Fm) (H : Heap) (E : List (Option AObj)) : Moves m H m (H.plus E) :=
  ⟨rfl, by rw [plus_size]; omega, fun b hb _ => plus_get E hb, fun p hp => Or.inl ⟨p, hp, rfl⟩⟩
theorem Has.plus {m : Fm} {H : Heap} (h : Has m H) (E : List (Option AObj)) : Has m (H.plus E) := fun p hp => by rw [plus_get E (get_ltS (h p hp))]; exact h p hp
/-- what is laid anew, or turned, in places that the state does not hold -/
theorem Moves.put {m m' : Fm} {H H' : Heap} (h : Moves m H m' H') {b : Nat} (o : AObj) (hb : H.size ≤ b) (hb2 : b < H'.size) : Moves m H m' (H'.put b o) := by
  refine ⟨h.lock, by rw [put_sizeI o hb2]; exact h.size, fun c hc hm => ?_, h.keys⟩
  rw [put_get_ne o (by omega) (by omega)]; exact h.same c hc hm
theorem Has.put {m : Fm} {H : Heap} (h : Has m H) {b : Nat} (o : AObj) (hb : b ≤ H.size) (hm : ¬ keyIn b m) : Has m (H.put b o) := fun p hp => by
  rw [put_get_ne o hb (fun e => hm ⟨p, hp, e⟩)]; exact h p hp
/-! ### what hands its things over -/
/-- what is handed over, one after the other, is as it should be where it comes -/
def okRun {S : Type} (stp : S → List AV → Bool × S) (ok : S → List AV → Prop) : List (List AV) → S → Prop
  | [], _ => True
  | x :: r, s => ok s x ∧ ((stp s x).1 = true → okRun stp ok r (stp s x).2)
structure Src2 (C : Cfg) (l : Nat) (S : Type) (R : S → Fm → Prop) (stp : S → List AV → Bool × S) (ok : S → List AV → Prop) (live : S → Prop) (n0 k : Nat) : Prop where
  anch : ∀ s m, R s m → Anch n0 m
  klock : k ≤ n0
  step : ∀ s x, live s → ok s x → (stp s x).1 = true → live (stp s x).2
  round : ∀ s m x H, live s → ok s x → R s m → Has m H → H.lock = k → n0 ≤ H.size → ∃ H' m', lim C (.round l x H) = some (.ret (.v (.bool (stp s x).1)) H') ∧ R (stp s x).2 m' ∧ Has m' H' ∧ Moves m H m' H'
def Yields2 (C : Cfg) (f : FuncId) (cap : List AV) (items : List (List AV)) : Prop :=
  ∀ (l : Nat) (S : Type) (R : S → Fm → Prop) (stp : S → List AV → Bool × S) (ok : S → List AV → Prop) (live : S → Prop) (n0 k : Nat), Src2 C l S R stp ok live n0 k →
    ∀ s m H, okRun stp ok items s → live s → R s m → Has m H → H.lock = k → n0 ≤ H.size → ∃ H' m', lim C (.call f ([.yld l] ++ cap) H) = some (.ret (.tup []) H') ∧ R (runIt stp items s).2 m' ∧ Has m' H' ∧ Moves m H m' H'
/-- a round, and what a region leaves of it -/
theorem Src2.round' {C : Cfg} {l : Nat} {S : Type} {R : S → Fm → Prop} {stp : S → List AV → Bool × S} {ok : S → List AV → Prop} {live : S → Prop} {n0 k : Nat} (h : Src2 C l S R stp ok live n0 k) (s : S) (m : Fm) (x : List AV) (H : Heap) (h1 : live s) (h2 : ok s x) (h3 : R s m) (h4 : Has m H) (h5 : H.lock = k) (h6 : n0 ≤ H.size) :
    ∃ H' H2 m', lim C (.round l x H) = some (.ret (.v (.bool (stp s x).1)) H') ∧ settleH H.size H' = H2 ∧ R (stp s x).2 m' ∧ Has m' H2 ∧ Moves m H m' H2 := by
  obtain ⟨H', m', a, b, c, d⟩ := h.round s m x H h1 h2 h3 h4 h5 h6
  exact ⟨H', _, m', a, rfl, b, c.settle _, d.settle rfl⟩
end Go.Ev
/- Ranges over functions whose bodies lay memory which stays. -/
namespace Go.Ev
section
variable {C : Cfg} {me : FuncId} {S : Type} {R : S → Fm → Prop} {stp : S → List AV → AExit × S} {lv : S → Prop} {ok : S → List AV → Prop} {n0 k d : Nat}
/-- what a body does -/
def bd2K (R : S → Fm → Prop) (d : Nat) (L' : ALoop) (m : Fm) (H : Heap) (p : AExit × S) : Post := fun e _ H' => e = p.1 ∧ ∃ m', R p.2 m' ∧ Has m' H' ∧ loopObj H' (d + 1) = some L' ∧ Moves ((d + 1, .loop L') :: m) H ((d + 1, .loop L') :: m') H'
/-- between what takes a thing over and the body -/
def as2K (C : Cfg) (me : FuncId) (R : S → Fm → Prop) (d : Nat) (body : Code) (L L' : ALoop) (m : Fm) (H : Heap) (p : AExit × S) : Post := fun e a H1 => e = .normal ∧ loopObj H1 (d + 1) = some L ∧ Wp C me (some (d + 1)) body a (H1.put (d + 1) (.loop L')) (bd2K R d L' m H p)
theorem loopObj_getI {H : Heap} {b : Nat} {L : ALoop} (h : loopObj H b = some L) : H.get b = some (.loop L) := by
  unfold loopObj at h
  split at h
  · rename_i l hl; cases h; exact hl
  · cases h
theorem get_loopObj {H : Heap} {b : Nat} {L : ALoop} (h : H.get b = some (.loop L)) : loopObj H b = some L := by
  unfold loopObj; rw [h]
def RR (R : S → Fm → Prop) (d : Nat) (L : LoopState → Option Code → ALoop) (q : S × AExit) (m' : Fm) : Prop := ∃ m, R q.1 m ∧ m' = (d, .dfr) :: (d + 1, .loop (L (stateOf q.2) (pend q.2))) :: m
theorem src2_range {sz : Nat} {ts : List (Tmp × AV)} {ps : Array Tmp} {asg body : Code} (hn0 : n0 ≤ d) (hk : k ≤ d)
    (hanch : ∀ s m, R s m → Anch n0 m) (hdm : ∀ s m, R s m → ¬ keyIn d m ∧ ¬ keyIn (d + 1) m)
    (hlv : ∀ s x, lv s → ok s x → (stp s x).1 = .normal → lv (stp s x).2)
    (hbody : ∀ (L L' : ALoop) s m x H, L'.dfr = d → lv s → ok s x → x.length = ps.size → R s m → Has m H → H.get d = some .dfr → loopObj H (d + 1) = some L → H.lock = k → d + 2 ≤ H.size →
      Wp C me (some (d + 1)) asg ⟨sz, setTmps sz ts (ps.toList.zip x), []⟩ H (as2K C me R d body L L' m H (stp s x))) :
    Src2 C (d + 1) (S × AExit) (RR R d (busyL me sz ts ps asg body d)) (fun q x => (isGo (stp q.1 x).1, ((stp q.1 x).2, (stp q.1 x).1))) (fun q x => ok q.1 x ∧ x.length = ps.size) (fun q => lv q.1 ∧ q.2 = .normal) (d + 2) k := by
  refine ⟨?_, by omega, fun q x hl ho hs => ?_, fun q m' x H hl ho hR hH hlk hsz => ?_⟩
  · rintro q m' ⟨m, hm, rfl⟩ n hn ⟨p, hp, hpn⟩
    have hpm : p ∈ m := by
      rcases List.mem_cons.1 hp with rfl | hp
      · simp only at hpn; omega
      · rcases List.mem_cons.1 hp with rfl | hp
        · simp only at hpn; omega
        · exact hp
    obtain ⟨q', hq, h1, h2⟩ := hanch _ m hm n (by omega) ⟨p, hpm, hpn⟩
    exact ⟨q', List.mem_cons_of_mem _ (List.mem_cons_of_mem _ hq), h1, h2⟩
  · obtain ⟨s, e⟩ := q
    simp only at hl hs ⊢
    have he : (stp s x).1 = .normal := by
      cases h : (stp s x).1 <;> rw [h] at hs <;> first | rfl | cases hs
    exact ⟨hlv s x hl.1 ho.1 he, he⟩
  · obtain ⟨s, e⟩ := q
    obtain ⟨hl1, rfl⟩ := hl
    obtain ⟨m, hm, rfl⟩ := hR
    simp only at hm ⊢
    have h0 : H.get d = some .dfr := hH (d, .dfr) (by simp)
    have h1 : H.get (d + 1) = some (.loop (busyL me sz ts ps asg body d (stateOf .normal) (pend .normal))) := hH (d + 1, _) (by simp)
    have hmH : Has m H := fun p hp => hH p (List.mem_cons_of_mem _ (List.mem_cons_of_mem _ hp))
    have key := round_step (C := C) (l := d + 1) (args := x) (H := H) (r := busyL me sz ts ps asg body d .ready none) (K := fun b H' => b = isGo (stp s x).1 ∧ ∃ m', RR R d (busyL me sz ts ps asg body d) ((stp s x).2, (stp s x).1) m' ∧ Has m' H' ∧ Moves ((d, .dfr) :: (d + 1, .loop (busyL me sz ts ps asg body d (stateOf .normal) (pend .normal))) :: m) H m' H') (get_loopObj h1) ho.2 (by omega) ?_
    · obtain ⟨b, H', h2, rfl, m', h3, h4, h5⟩ := key
      exact ⟨H', m', h2, h3, h4, h5⟩
    · refine Wp_mono (hbody (busyL me sz ts ps asg body d .ready none) (busyL me sz ts ps asg body d .busy none) s m x H rfl hl1 ho.1 ho.2 hm hmH h0 (get_loopObj h1) hlk hsz) ?_
      rintro e0 a0 H0 ⟨rfl, hL0, hb0⟩
      refine asgK_mk (r1 := busyL me sz ts ps asg body d .ready none) hL0 rfl ?_
      refine Wp_mono hb0 ?_
      rintro e1 a1 H1 ⟨rfl, m', hm', hH1, hL1, hmv⟩
      refine bodyK_mk (r3 := busyL me sz ts ps asg body d .busy none) (j := pend (stp s x).1) hL1 (jumpOf_pend _) ⟨pend_none _, ?_⟩
      have e1 : ({ busyL me sz ts ps asg body d .busy none with state := if (pend (stp s x).1).isNone then .ready else .done, pending := pend (stp s x).1 } : ALoop) = busyL me sz ts ps asg body d (stateOf (stp s x).1) (pend (stp s x).1) := rfl
      rw [e1]
      generalize hLf : busyL me sz ts ps asg body d (stateOf (stp s x).1) (pend (stp s x).1) = Lf
      have hd1 : d + 1 < H1.size := get_ltS (loopObj_getI hL1)
      have hd0 : H1.get d = some .dfr := by
        rw [hmv.same d (by omega) ?_, h0]
        rintro ⟨p, hp, he⟩
        rcases List.mem_cons.1 hp with rfl | hp
        · simp only at he; omega
        · exact (hdm _ _ hm).1 ⟨p, hp, he⟩
      have hR' : RR R d (busyL me sz ts ps asg body d) ((stp s x).2, (stp s x).1) ((d, .dfr) :: (d + 1, .loop Lf) :: m') := ⟨m', hm', by rw [← hLf]⟩
      have hH2 : Has ((d, .dfr) :: (d + 1, .loop Lf) :: m') (H1.put (d + 1) (.loop Lf)) := by
        intro p hp
        rcases List.mem_cons.1 hp with rfl | hp
        · simp only; rw [put_get_ne _ (by omega) (by omega)]; exact hd0
        · rcases List.mem_cons.1 hp with rfl | hp
          · simp only; exact put_get_eq _ (by omega)
          · rw [put_get_ne _ (by omega) (fun e => (hdm _ _ hm').2 ⟨p, hp, e⟩)]; exact hH1 p hp
      have hmv2 : Moves ((d, .dfr) :: (d + 1, .loop (busyL me sz ts ps asg body d (stateOf .normal) (pend .normal))) :: m) H ((d, .dfr) :: (d + 1, .loop Lf) :: m') (H1.put (d + 1) (.loop Lf)) := by
        refine ⟨hmv.lock, by rw [put_sizeI _ hd1]; exact hmv.size, fun b hb hnb => ?_, fun p hp => ?_⟩
        · have hb1 : b ≠ d + 1 := fun e => hnb ⟨(d + 1, .loop (busyL me sz ts ps asg body d (stateOf .normal) (pend .normal))), List.mem_cons_of_mem _ List.mem_cons_self, e.symm⟩
          rw [put_get_ne _ (by omega) hb1]
          refine hmv.same b hb ?_
          rintro ⟨p, hp, he⟩
          rcases List.mem_cons.1 hp with rfl | hp
          · exact hb1 he.symm
          · exact hnb ⟨p, List.mem_cons_of_mem _ (List.mem_cons_of_mem _ hp), he⟩
        · rcases List.mem_cons.1 hp with rfl | hp
          · exact Or.inl ⟨(d, .dfr), by simp, rfl⟩
          · rcases List.mem_cons.1 hp with rfl | hp
            · exact Or.inl ⟨(d + 1, .loop (busyL me sz ts ps asg body d (stateOf .normal) (pend .normal))), List.mem_cons_of_mem _ List.mem_cons_self, rfl⟩
            · rcases hmv.keys p (List.mem_cons_of_mem _ hp) with ⟨q, hq, he⟩ | h
              · rcases List.mem_cons.1 hq with rfl | hq
                · exact Or.inl ⟨(d + 1, .loop (busyL me sz ts ps asg body d (stateOf .normal) (pend .normal))), List.mem_cons_of_mem _ List.mem_cons_self, he⟩
                · exact Or.inl ⟨q, List.mem_cons_of_mem _ (List.mem_cons_of_mem _ hq), he⟩
              · exact Or.inr h
      have hanch2 : Anch (d + 2) ((d, .dfr) :: (d + 1, .loop Lf) :: m') := by
        rintro n hn ⟨p, hp, hpn⟩
        have hpm : p ∈ m' := by
          rcases List.mem_cons.1 hp with rfl | hp
          · simp only at hpn; omega
          · rcases List.mem_cons.1 hp with rfl | hp
            · simp only at hpn; omega
            · exact hp
        obtain ⟨q', hq, h1, h2⟩ := hanch _ m' hm' n (by omega) ⟨p, hpm, hpn⟩
        exact ⟨q', List.mem_cons_of_mem _ (List.mem_cons_of_mem _ hq), h1, h2⟩
      exact ⟨_, hR', hH2.trim hanch2 hsz _ _, hmv2.trim _ _ rfl⟩
theorem okRun_q {n : Nat} : ∀ (items : List (List AV)) (s : S) (e : AExit), okRun (fun s x => (isGo (stp s x).1, (stp s x).2)) ok items s → (∀ x ∈ items, x.length = n) →
    okRun (fun (q : S × AExit) x => (isGo (stp q.1 x).1, ((stp q.1 x).2, (stp q.1 x).1))) (fun q x => ok q.1 x ∧ x.length = n) items (s, e)
  | [], _, _, _, _ => trivial
  | x :: r, s, e, h, hl => ⟨⟨h.1, hl x (by simp)⟩, fun hg => okRun_q r _ _ (h.2 hg) fun y hy => hl y (by simp [hy])⟩
theorem wp_range2 {f : FuncId} {cap : List AV} {items : List (List AV)} (hy : Yields2 C f cap items) {g : Operand} {ps : Array Tmp} {asg body : Code} {a : AAct} {H : Heap} {K : Post} (hg : a.eval g = some (.fn (.func f) [] cap))
    (R : S → Fm → Prop) (stp : S → List AV → AExit × S) (lv : S → Prop) (ok : S → List AV → Prop) {n0 k : Nat} (hn0 : n0 ≤ H.size) (hk : k ≤ H.size) (hlen : ∀ x ∈ items, x.length = ps.size)
    (hanch : ∀ s m, R s m → Anch n0 m) (hdm : ∀ s m, R s m → ¬ keyIn H.size m ∧ ¬ keyIn (H.size + 1) m)
    (hlv : ∀ s x, lv s → ok s x → (stp s x).1 = .normal → lv (stp s x).2)
    (hbody : ∀ (L L' : ALoop) s m x H', L'.dfr = H.size → lv s → ok s x → x.length = ps.size → R s m → Has m H' → H'.get H.size = some .dfr → loopObj H' (H.size + 1) = some L → H'.lock = k → H.size + 2 ≤ H'.size →
      Wp C me (some (H.size + 1)) asg ⟨a.size, setTmps a.size a.tmps (ps.toList.zip x), []⟩ H' (as2K C me R H.size body L L' m H' (stp s x)))
    (s0 : S) (m0 : Fm) (hok : okRun (fun s x => (isGo (stp s x).1, (stp s x).2)) ok items s0) (h0 : lv s0) (hR0 : R s0 m0) (hH0 : Has m0 H) (hlk : H.lock = k)
    (hK : ∀ m' H', R (foldE stp items s0).2 m' → Has m' H' → H'.get H.size = some .dfr → H'.get (H.size + 1) = some .dead → Moves m0 H ((H.size + 1, .dead) :: m') H' → H.size + 2 ≤ H'.size → AtK K (foldE stp items s0).1 ⟨a.size, a.tmps, H.size :: a.marks⟩ H') :
    Wp C me none (.rangeFunc g ps asg body) a H K := by
  generalize hd : H.size = d at *
  have hsrc := src2_range (C := C) (me := me) (R := R) (stp := stp) (lv := lv) (ok := ok) (sz := a.size) (ts := a.tmps) (ps := ps) (asg := asg) (body := body) hn0 hk hanch hdm hlv hbody
  have hbeg : (H.put d .dfr).put (d + 1) (.loop (busyL me a.size a.tmps ps asg body d .ready none)) = H.plus [some .dfr, some (.loop (busyL me a.size a.tmps ps asg body d .ready none))] := by
    have h1 : H.put d .dfr = H.plus [some .dfr] := by rw [← hd]; exact put_push _
    rw [h1]
    exact plus_put_end hd [some .dfr] (.loop (busyL me a.size a.tmps ps asg body d .ready none))
  generalize hHb : H.plus [some AObj.dfr, some (.loop (busyL me a.size a.tmps ps asg body d .ready none))] = Hb at hbeg
  have hsb : Hb.size = d + 2 := by rw [← hHb, plus_size, hd]; rfl
  have hg0 : Hb.get d = some .dfr := by
    rw [← hHb]; exact plus_mid_get hd [] _ _
  have hg1 : Hb.get (d + 1) = some (.loop (busyL me a.size a.tmps ps asg body d .ready none)) := by
    rw [← hHb]; exact plus_mid_get hd [some .dfr] [] _
  have hHasB : Has ((d, .dfr) :: (d + 1, .loop (busyL me a.size a.tmps ps asg body d .ready none)) :: m0) Hb := by
    intro p hp
    rcases List.mem_cons.1 hp with rfl | hp
    · exact hg0
    · rcases List.mem_cons.1 hp with rfl | hp
      · exact hg1
      · rw [← hHb]; exact hH0.plus _ p hp
  obtain ⟨H1, m1, hc1, ⟨m', hm', rfl⟩, hH1, hmv⟩ := hy (d + 1) (S × AExit) _ _ _ _ _ _ hsrc (s0, .normal) _ Hb (okRun_q items s0 .normal hok hlen) ⟨h0, rfl⟩ ⟨m0, hR0, rfl⟩ hHasB (by rw [← hHb]; exact hlk) (by omega)
  have hanch1 := hsrc.anch _ _ ⟨m', hm', rfl⟩
  rw [run_range] at hm' hH1 hmv hanch1
  simp only at hm' hH1 hmv hanch1
  generalize hp : foldE stp items s0 = p at *
  have hcb := callB_yld (C := C) (me := me) (d := none) (l := d + 1) (by simp) hc1
  have hH2 := hH1.trim hanch1 (Nat.le_of_eq hsb.symm) [AV.tup []] []
  have hmv2 := hmv.trim [AV.tup []] [] (n := Hb.size) rfl
  generalize hT : H1.trim Hb.size [AV.tup []] [] = H2 at *
  have hl2 : H2.get (d + 1) = some (.loop (busyL me a.size a.tmps ps asg body d (stateOf p.1) (pend p.1))) := hH2 (d + 1, _) (by simp)
  have hd2 : H2.get d = some .dfr := hH2 (d, _) (by simp)
  have hs2 : d + 2 ≤ H2.size := by have := hmv2.size; omega
  have hfin : AtK K p.1 ⟨a.size, a.tmps, d :: a.marks⟩ (H2.put (d + 1) .dead) := by
    have hmd := hdm _ _ hm'
    refine hK m' (H2.put (d + 1) .dead) hm' ?_ ?_ ?_ ?_ ?_
    · intro q hq
      rw [put_get_ne _ (by omega) (fun e => hmd.2 ⟨q, hq, e⟩)]
      exact hH2 q (List.mem_cons_of_mem _ (List.mem_cons_of_mem _ hq))
    · rw [put_get_ne _ (by omega) (by omega)]; exact hd2
    · exact put_get_eq _ (by omega)
    · refine ⟨?_, ?_, fun b hb hnb => ?_, fun q hq => ?_⟩
      · show H2.lock = H.lock
        rw [hmv2.lock, ← hHb]; rfl
      · rw [put_sizeI _ (by omega)]; omega
      · rw [put_get_ne _ (by omega) (by omega), hmv2.same b (by omega) ?_, ← hHb]
        · exact plus_get _ hb
        · rintro ⟨q, hq, he⟩
          rcases List.mem_cons.1 hq with rfl | hq
          · simp only at he; omega
          · rcases List.mem_cons.1 hq with rfl | hq
            · simp only at he; omega
            · exact hnb ⟨q, hq, he⟩
      · rcases List.mem_cons.1 hq with rfl | hq
        · exact Or.inr (by simp only; omega)
        · rcases hmv2.keys q (List.mem_cons_of_mem _ (List.mem_cons_of_mem _ hq)) with ⟨r, hr, he⟩ | h
          · rcases List.mem_cons.1 hr with rfl | hr
            · exact absurd ⟨q, hq, he.symm⟩ hmd.1
            · rcases List.mem_cons.1 hr with rfl | hr
              · exact absurd ⟨q, hq, he.symm⟩ hmd.2
              · exact Or.inl ⟨r, hr, he⟩
          · exact Or.inr (by omega)
    · rw [put_sizeI _ (by omega)]; exact hs2
  refine wp_range0 (f := f) (first := []) (cap := cap) hg (v := .tup []) (H2 := H2) ?_ (r := busyL me a.size a.tmps ps asg body d (stateOf p.1) (pend p.1)) ?_ ?_ ?_ ?_
  · rw [hd]
    rw [← hbeg] at hcb
    exact hcb
  · rw [hd]; exact get_loopObj hl2
  · unfold busyL stateOf; cases p.1 <;> simp [pend]
  · rw [hd]; rfl
  · rw [hd]
    obtain ⟨e, s⟩ := p
    cases e with
    | normal => exact hfin
    | ret => exact hfin
    | exit i => exact hfin
end
end Go.Ev
namespace Go.Ev
open Go.Proofs
set_option maxRecDepth 100000
set_option linter.unusedSimpArgs false
theorem put_endN {H : Heap} {n : Nat} (hn : H.size = n) (o : AObj) : H.put n o = H.plus [some o] := by subst hn; exact put_push o
theorem row_endN {H : Heap} {n : Nat} (hn : H.size = n) (v w m e sz g) (cs : List AV) : (H.plus [some (.cells w m e sz g cs)]).row n v = if w = v then some (m, e, sz, g, cs) else none := plus_row_at hn [] [] v w m e sz g cs
theorem store_endN {H : Heap} {n : Nat} (hn : H.size = n) (hl : H.lock ≤ n) (v m e sz g) (cs : List AV) (off : Nat) (xs : List AV) : storeCells (H.plus [some (.cells v m e sz g cs)]) n v off xs = if off + xs.length ≤ cs.length ∧ xs.all AV.flat = true then some (H.plus [some (.cells v (Nat.max m (boundL xs)) e sz g (splice off xs cs))]) else none := plus_store_end hn hl [] v m e sz g cs off xs
theorem settle_endN {H : Heap} {n : Nat} (hn : H.size = n) (o : AObj) : settleH n (H.plus [some o]) = H.plus [some o] := settle_end hn [] o
theorem settle_eqN {H : Heap} {n : Nat} (hn : H.size = n) : settleH n H = H := by subst hn; exact settle_size H
theorem trim_eqN {H : Heap} {n : Nat} (hn : H.size = n) (vs : List AV) (ms : List Nat) : H.trim n vs ms = H := by subst hn; exact trim_size H vs ms
theorem size_endN {H : Heap} {n : Nat} (hn : H.size = n) (E : List (Option AObj)) : (H.plus E).size = n + E.length := by rw [plus_size, hn]
theorem row_of {H : Heap} {b v w m e sz g} {cs : List AV} (h : H.get b = some (.cells w m e sz g cs)) : H.row b v = if w = v then some (m, e, sz, g, cs) else none := by
  unfold Heap.row; rw [h]
theorem not_key {m : Fm} {H : Heap} (h : Has m H) {b : Nat} (hb : H.size ≤ b) : ¬ keyIn b m := by
  rintro ⟨p, hp, rfl⟩
  have := get_ltS (h p hp); omega
set_option maxHeartbeats 4000000 in
theorem yields2_88 {e : Exts} (ch : AV) (xs : List AV) (hch : SlOf 2 xs ch) (hall : ∀ y ∈ xs, OkCh y) (hlen : xs.length < 2 ^ 63) : Yields2 (Cx e) 97 [.ro (.agg [ch]) 0] (chapIts 0 xs) := by
  intro l S R stp ok live n0 k hsrc s m H hok hlv hR hH hlk hsz
  have key : Fn' (Cx e) 97 [.yld l, .ro (.agg [ch]) 0] H fun v H' => v = .tup [] ∧ ∃ m', R (runIt stp (chapIts 0 xs) s).2 m' ∧ Has m' H' ∧ Moves m H m' H' := by
    rw [fn_step (fn_97 e) (show Try.f97.body = some _ from rfl)]
    generalize hN : H.size = N at *
    simp -implicitDefEqProofs only [Try.f97, go_sem, ↓reduceIte, Int.reduceEq, Int.reduceLT, Int.reduceLE, List.zip_cons_cons, List.zip_nil_right, List.zip_nil_left, setT_nil, setT_cons, intA, hch.cells, hch.flat, hch.bound, hch.len, hN, settle_eqN hN]
    refine Lp_rule (P := fun μ a H1 => ∃ i s1 m1, i + μ = xs.length ∧ a = ⟨34, [(0, .yld l), (1, .ro (.agg [ch]) 0), (8, ch), (9, intA xs.length), (10, intA i)], []⟩ ∧ live s1 ∧ R s1 m1 ∧ Has m1 H1 ∧ Moves m H m1 H1 ∧ runIt stp (chapIts 0 xs) s = runIt stp (chapIts i (xs.drop i)) s1 ∧ okRun stp ok (chapIts i (xs.drop i)) s1) ?_ xs.length _ _ ⟨0, s, m, by omega, rfl, hlv, hR, hH, Moves.refl _ _, rfl, hok⟩
    rintro μ _ H1 ⟨i, s1, m1, hi, rfl, hlv1, hR1, hH1, hmv1, hrun1, hok1⟩
    have hlk1 : H1.lock = k := hmv1.lock.trans hlk
    have hsz1 : n0 ≤ H1.size := by have := hmv1.size; omega
    generalize hN1 : H1.size = N1 at *
    cases μ with
    | zero =>
      obtain rfl : i = xs.length := by omega
      simp -implicitDefEqProofs only [go_sem, ↓reduceIte, Int.reduceEq, Int.reduceLT, Int.reduceLE, List.zip_cons_cons, List.zip_nil_right, List.zip_nil_left, setT_nil, setT_cons, intA, Int.lt_irrefl, hN1, settle_eqN hN1, trim_eqN hN1]
      rw [List.drop_of_length_le (Nat.le_refl _)] at hrun1
      rw [hrun1]
      exact ⟨rfl, m1, hR1, hH1, hmv1⟩
    | succ μ =>
      obtain ⟨y, hy⟩ := at_lt xs i (by omega)
      obtain ⟨id, l0, lxs, rfl, hl0, hlc, hll⟩ := hall y (List.mem_of_getElem? hy)
      have hlt : (i : Int) < ((xs.length : Nat) : Int) := by omega
      have hw := wrap_succ i (by omega)
      have hkN : H1.lock ≤ N1 := by have := hsrc.klock; omega
      simp -implicitDefEqProofs only [go_sem, ↓reduceIte, Int.reduceEq, Int.reduceLT, Int.reduceLE, List.zip_cons_cons, List.zip_nil_right, List.zip_nil_left, setT_nil, setT_cons, intA, hlt, hN1, settle_eqN hN1, hch.idx hy, hl0.cells, hl0.flat, hl0.bound, put_endN hN1, row_endN hN1, store_endN hN1 hkN, settle_endN hN1, size_endN hN1, hl0.len]
      have hc : chapIts i (xs.drop i) = lineIts i 0 (lxs.drop 0) ++ chapIts (i + 1) (xs.drop (i + 1)) := by
        rw [chapIts_drop xs i _ hy, List.drop_zero]
        show lineIts i 0 (slElems l0) ++ _ = _
        rw [hl0.elems]
      refine Lp_rule (P := fun μ a H2 => ∃ j s2 m2, j + μ = lxs.length ∧ a = ⟨34, [(0, .yld l), (1, .ro (.agg [ch]) 0), (8, ch), (9, intA xs.length), (10, intA i), (11, .v (.bool true)), (4, .ptr N1 0 0), (3, intA i), (17, intA lxs.length), (18, intA j)], []⟩ ∧ live s2 ∧ R s2 m2 ∧ Has m2 H2 ∧ Moves m1 (H1.plus [some (.cells 0 0 78 1 false [intA id, l0])]) m2 H2 ∧ runIt stp (chapIts 0 xs) s = runIt stp (lineIts i j (lxs.drop j) ++ chapIts (i + 1) (xs.drop (i + 1))) s2 ∧ okRun stp ok (lineIts i j (lxs.drop j) ++ chapIts (i + 1) (xs.drop (i + 1))) s2) ?_ lxs.length _ _ ⟨0, s1, m1, by omega, rfl, hlv1, hR1, hH1.plus _, Moves.refl _ _, by rw [hrun1, hc], by rw [hc] at hok1; exact hok1⟩
      rintro μ2 _ H2 ⟨j, s2, m2, hj, rfl, hlv2, hR2, hH2, hmv2, hrun2, hok2⟩
      have hlk2 : H2.lock = k := hmv2.lock.trans hlk1
      have hp1 := size_endN hN1 [some (AObj.cells 0 0 78 1 false [intA id, l0])]
      have hrow2 : H2.get N1 = some (.cells 0 0 78 1 false [intA id, l0]) := by
        rw [hmv2.same N1 (by rw [hp1]; simp) (not_key hH1 (Nat.le_of_eq hN1))]
        exact plus_mid_get hN1 [] [] _
      have hrw := row_of (v := 0) hrow2
      have hmv12 : Moves m H m2 H2 := hmv1.trans ((Moves.plus m1 H1 _).trans hmv2)
      have hsz2 : n0 ≤ H2.size := by have := hmv12.size; omega
      have hlt2 : N1 < H2.size := get_ltS hrow2
      generalize hN2 : H2.size = N2 at *
      cases μ2 with
      | zero =>
        obtain rfl : j = lxs.length := by omega
        rw [List.drop_of_length_le (Nat.le_refl _)] at hrun2 hok2
        simp -implicitDefEqProofs only [go_sem, ↓reduceIte, Int.reduceEq, Int.reduceLT, Int.reduceLE, List.zip_cons_cons, List.zip_nil_right, List.zip_nil_left, setT_nil, setT_cons, intA, Int.lt_irrefl, hN2, settle_eqN hN2, trim_eqN hN2, hw]
        refine ⟨μ, by omega, i + 1, s2, m2, by omega, rfl, hlv2, hR2, ?_, ?_, hrun2, hok2⟩
        · exact hH2.trim (hsrc.anch _ _ hR2) hsz1 _ _
        · exact hmv1.trans ((Moves.plus m1 H1 _).trans hmv2 |>.trim _ _ hN1.symm)
      | succ μ2 =>
        obtain ⟨x, hx⟩ := at_lt lxs j (by omega)
        have hxc := hlc x (List.mem_of_getElem? hx)
        have hltj : (j : Int) < ((lxs.length : Nat) : Int) := by omega
        have hwj := wrap_succ j (by omega)
        have hdr := lineIts_drop i lxs j x hx
        rw [hdr, List.cons_append] at hok2
        obtain ⟨H3, H4, m4, hr3, hr4, hR4, hH4, hmv4⟩ := hsrc.round' s2 m2 [placeA i j 0, x] H2 hlv2 hok2.1 hR2 hH2 hlk2 (by omega)
        have hst := hsrc.step s2 [placeA i j 0, x] hlv2 hok2.1
        rw [hdr, List.cons_append, runIt_cons] at hrun2
        rw [hN2] at hr4
        cases hb : (stp s2 [placeA i j 0, x]).1
        · rw [hb] at hr3 hrun2
          simp only [placeA, intA] at hr3
          simp -implicitDefEqProofs only [go_sem, ↓reduceIte, Int.reduceEq, Int.reduceLT, Int.reduceLE, List.zip_cons_cons, List.zip_nil_right, List.zip_nil_left, setT_nil, setT_cons, intA, hltj, hN2, settle_eqN hN2, trim_eqN hN2, hwj, hrw, hl0.idx hx, hxc, hr3, hr4]
          simp only [Bool.false_eq_true, if_false] at hrun2
          rw [hrun2]
          exact ⟨rfl, m4, hR4, hH4, hmv12.trans hmv4⟩
        · rw [hb] at hr3 hrun2
          simp only [placeA, intA] at hr3
          simp -implicitDefEqProofs only [go_sem, ↓reduceIte, Int.reduceEq, Int.reduceLT, Int.reduceLE, List.zip_cons_cons, List.zip_nil_right, List.zip_nil_left, setT_nil, setT_cons, intA, hltj, hN2, settle_eqN hN2, trim_eqN hN2, hwj, hrw, hl0.idx hx, hxc, hr3, hr4]
          simp only [if_true] at hrun2
          refine ⟨μ2, by omega, j + 1, _, m4, by omega, rfl, hst hb, hR4, ?_, ?_, hrun2, hok2.2 hb⟩
          · exact hH4.trim (hsrc.anch _ _ hR4) (by omega) _ _
          · exact hmv2.trans (hmv4.trim _ _ hN2.symm)
  obtain ⟨v, H', h1, rfl, m', h2, h3, h4⟩ := fn_ex key
  exact ⟨H', m', h1, h2, h3, h4⟩
end Go.Ev
