/- What the proof of this claim stands on, part 4: an evaluator of the model, proved right, and what it answers for functions of the program. -/
import Derived.Test.YtfghfkjjikodnaaGreatPk02
import Derived.Shelf.GgSortFunc.RowK
import Derived.Sort.Statements
import Derived.Shelf.SlSortCmp.NoneTotal
import Derived.Shelf.SlLaysF0
import Derived.Test.YtfghfkjjikodnaaGreatProg
set_option linter.unusedSimpArgs false
namespace Go.Ev
open Go.Proofs
set_option maxRecDepth 100000
set_option linter.unusedSimpArgs false
/-! ### hasPlace, comparePlaces -/
/-- which one is first -/
def cmpI (a b : Int) : Int := if a < b then -1 else if b < a then 1 else 0
theorem ans119 {e : Exts} (a : Int) : Ans (Cx e) 119 [intA a] (.v (.bool false)) := by
  unfold Ans
  rw [fn_step (fn_119 e) (show Tryz.f119.body = some _ from rfl)]
  simp -implicitDefEqProofs only [Tryz.f119, go_sem, ↓reduceIte, Int.reduceEq, Int.reduceLT, Int.reduceLE, List.reduceReplicate, intA, setT_nil, setT_cons]
theorem call119 {e : Exts} (he : Quiet e) (a : Int) (me : FuncId) (d : Option Tmp) (H : Heap) : callA (Cx e) (lim (Cx e)) me 119 d [.v (.int .i64 a)] H = some (.v (.bool false), H) :=
  (ans119 a).call (ext_119 he) (pure_119 _ _ _) rfl H
theorem ans99 {e : Exts} (he : Quiet e) (a b : Int) : Ans (Cx e) 99 [intA a, intA b] (intA (cmpI a b)) := by
  unfold Ans cmpI
  rw [fn_step (fn_99 e) (show Tryz.f99.body = some _ from rfl)]
  by_cases h1 : a < b
  · simp -implicitDefEqProofs only [Tryz.f99, go_sem, ↓reduceIte, Int.reduceEq, Int.reduceLT, Int.reduceLE, List.reduceReplicate, intA, setT_nil, setT_cons, call119 he, h1]
  · by_cases h2 : b < a
    · simp -implicitDefEqProofs only [Tryz.f99, go_sem, ↓reduceIte, Int.reduceEq, Int.reduceLT, Int.reduceLE, List.reduceReplicate, intA, setT_nil, setT_cons, call119 he, h1, h2]
    · simp -implicitDefEqProofs only [Tryz.f99, go_sem, ↓reduceIte, Int.reduceEq, Int.reduceLT, Int.reduceLE, List.reduceReplicate, intA, setT_nil, setT_cons, call119 he, h1, h2]
theorem callI99 {e : Exts} (he : Quiet e) (a b : Int) (me : FuncId) (d : Option Tmp) : callI (Cx e) me 99 d [.v (.int .i64 a), .v (.int .i64 b)] = some (.v (.int .i64 (cmpI a b))) :=
  (ans99 he a b).callI (ext_99 he) (pure_99 _ _ _) rfl
/-- the first that is not 0 -/
def orI : List Int → Int
  | [] => 0
  | a :: r => if a = 0 then orI r else a
set_option maxHeartbeats 2000000 in
theorem ans98 {e : Exts} (ns : List Int) (hn : ns.length < 2 ^ 63) (x : AV) (hx : SlOf 1 (ns.map intA) x) : Ans (Cx e) 98 [x] (intA (orI ns)) := by
  unfold Ans
  rw [fn_step (fn_98 e) (show Tryz.f98.body = some _ from rfl)]
  simp -implicitDefEqProofs only [Tryz.f98, go_sem, ↓reduceIte, Int.reduceEq, Int.reduceLT, Int.reduceLE, List.reduceReplicate, intA, setT_nil, setT_cons, hx.len, List.length_map]
  refine Lp_rule (P := fun μ a H => ∃ j, j + μ = ns.length ∧ a = ⟨18, [(0, x), (2, intA 0), (3, intA 0), (6, x), (7, intA ns.length), (8, intA j)], []⟩ ∧ H = ⟨[], 0⟩ ∧ orI ns = orI (ns.drop j)) ?_ ns.length _ _ ⟨0, by omega, rfl, rfl, rfl⟩
  rintro μ _ _ ⟨j, hj, rfl, rfl, ho⟩
  cases μ with
  | zero =>
    obtain rfl : j = ns.length := by omega
    rw [List.drop_of_length_le (Nat.le_refl _)] at ho
    simp -implicitDefEqProofs only [go_sem, ↓reduceIte, Int.reduceEq, Int.reduceLT, Int.reduceLE, List.reduceReplicate, intA, setT_nil, setT_cons, Int.lt_irrefl]
    rw [ho]; rfl
  | succ μ =>
    have hlt : (j : Int) < (ns.length : Int) := by omega
    have hw := wrap_succ j (by omega)
    have hy : (ns.map intA)[j]? = some (.v (.int .i64 ns[j])) := by rw [List.getElem?_map, List.getElem?_eq_getElem (by omega)]; rfl
    rw [List.drop_eq_getElem_cons (by omega : j < ns.length)] at ho
    cases h1 : decide (ns[j] = 0)
    · simp -implicitDefEqProofs only [go_sem, ↓reduceIte, Int.reduceEq, Int.reduceLT, Int.reduceLE, List.reduceReplicate, intA, setT_nil, setT_cons, hlt, hw, hx.idx hy, h1]
      rw [ho]; simp only [orI]
      rw [if_neg (of_decide_eq_false h1)]
    · simp -implicitDefEqProofs only [go_sem, ↓reduceIte, Int.reduceEq, Int.reduceLT, Int.reduceLE, List.reduceReplicate, intA, setT_nil, setT_cons, hlt, hw, hx.idx hy, h1]
      refine ⟨μ, by omega, j + 1, by omega, rfl, rfl, ?_⟩
      rw [ho]; simp only [orI]
      rw [if_pos (of_decide_eq_true h1)]
theorem callI98 {e : Exts} (he : Quiet e) (a b c : Int) (me : FuncId) (d : Option Tmp) : callI (Cx e) me 98 d [.vs 1 [.v (.int .i64 a), .v (.int .i64 b), .v (.int .i64 c)] (some 3)] = some (.v (.int .i64 (orI [a, b, c]))) :=
  (ans98 [a, b, c] (by simp) _ (Or.inr ⟨_, rfl⟩)).callI (ext_98 he) (pure_98 _ _ _) rfl
def cmpP (a b c a' b' c' : Int) : Int := orI [cmpI a a', cmpI b b', cmpI c c']
set_option maxHeartbeats 2000000 in
theorem ans85 {e : Exts} (he : Quiet e) (a b c a' b' c' : Int) : Ans (Cx e) 85 [.agg [intA a, intA b, intA c], .agg [intA a', intA b', intA c']] (intA (cmpP a b c a' b' c')) := by
  unfold Ans cmpP
  rw [fn_step (fn_85 e) (show Tryz.f85.body = some _ from rfl)]
  simp -implicitDefEqProofs only [Tryz.f85, go_sem, ↓reduceIte, Int.reduceEq, Int.reduceLT, Int.reduceLE, List.reduceReplicate, intA, setT_nil, setT_cons]
  refine wp_drawX [([], [], false), ([], [], false), ([], [], false), ([1], [], false), ([], [], false), ([], [], false), ([1, 3, 4], [], false), ([], [], false), ([1, 3, 4, 6], [], false), ([], [], false), ([], [], false), ([1, 3, 4, 6, 8, 9], [], false), ([], [], false), ([1, 3, 4, 6, 8, 9, 11], [], false), ([], [], false), ([], [], false), ([], [15], false), ([], [], false)] (by kernel_rfl) (by kernel_rfl) ?_
  simp -implicitDefEqProofs only [go_sem, ↓reduceIte, Int.reduceEq, Int.reduceLT, Int.reduceLE, List.reduceReplicate, intA, setT_nil, setT_cons, callI99 he, callI98 he]
theorem call85 {e : Exts} (he : Quiet e) (a b c a' b' c' : Int) (me : FuncId) (d : Option Tmp) (H : Heap) : callA (Cx e) (lim (Cx e)) me 85 d [.agg [.v (.int .i64 a), .v (.int .i64 b), .v (.int .i64 c)], .agg [.v (.int .i64 a'), .v (.int .i64 b'), .v (.int .i64 c')]] H = some (.v (.int .i64 (cmpP a b c a' b' c')), H) :=
  (ans85 he a b c a' b' c').call (ext_85 he) (pure_85 _ _ _) rfl H
end Go.Ev
/- A function that sorts a row of memory, and stands for itself. -/
namespace Go.Ev
open Go.Sort
/-! ### lists in order -/
section
variable {α : Type}
def insL (lt : α → α → Bool) (x : α) : List α → List α
  | [] => [x]
  | y :: r => if lt y x then y :: insL lt x r else x :: y :: r
def sortL (lt : α → α → Bool) : List α → List α
  | [] => []
  | x :: r => insL lt x (sortL lt r)
def Asc (lt : α → α → Bool) (l : List α) : Prop := l.Pairwise fun a b => lt b a = false
theorem insL_perm (lt : α → α → Bool) (x : α) : ∀ l, (insL lt x l).Perm (x :: l)
  | [] => .refl _
  | y :: r => by
    unfold insL; split
    · exact ((insL_perm lt x r).cons y).trans (.swap _ _ _)
    · exact .refl _
theorem sortL_perm (lt : α → α → Bool) : ∀ l, (sortL lt l).Perm l
  | [] => .refl _
  | x :: r => (insL_perm lt x _).trans ((sortL_perm lt r).cons x)
theorem insL_asc {lt : α → α → Bool} (hO : SWO lt) (x : α) : ∀ {l : List α}, Asc lt l → Asc lt (insL lt x l)
  | [], _ => by unfold insL Asc; simp
  | y :: r, h => by
    obtain ⟨h1, h2⟩ := List.pairwise_cons.1 h
    unfold insL; split
    · rename_i hyx
      refine List.pairwise_cons.2 ⟨fun z hz => ?_, insL_asc hO x h2⟩
      rcases List.mem_cons.1 ((insL_perm lt x r).mem_iff.1 hz) with rfl | hz
      · cases hxy : lt z y
        · rfl
        · have := hO.trans _ _ _ hxy hyx; rw [hO.irrefl] at this; cases this
      · exact h1 z hz
    · rename_i hyx
      have hyx : lt y x = false := by cases h : lt y x <;> simp_all
      refine List.pairwise_cons.2 ⟨fun z hz => ?_, h⟩
      rcases List.mem_cons.1 hz with rfl | hz
      · exact hyx
      · exact hO.ntrans _ _ _ (h1 z hz) hyx
theorem sortL_asc {lt : α → α → Bool} (hO : SWO lt) : ∀ l : List α, Asc lt (sortL lt l)
  | [] => List.Pairwise.nil
  | x :: r => insL_asc hO x (sortL_asc hO r)
theorem asc_uniq {lt : α → α → Bool} (hO : SWO lt) : ∀ {l m : List α}, l.Perm m → Asc lt l → Asc lt m → (∀ a ∈ l, ∀ b ∈ l, lt a b = false → lt b a = false → a = b) → l = m
  | [], m, h, _, _, _ => by rw [List.Perm.nil_eq h]
  | x :: l, [], h, _, _, _ => by have := h.length_eq; simp at this
  | x :: l, y :: m, h, hl, hm, ha => by
    obtain ⟨l1, l2⟩ := List.pairwise_cons.1 hl
    obtain ⟨m1, m2⟩ := List.pairwise_cons.1 hm
    have hx : lt x y = false := by
      rcases List.mem_cons.1 (h.mem_iff.1 (List.mem_cons_self (a := x))) with rfl | hz
      · exact hO.irrefl _
      · exact m1 x hz
    have hym := h.mem_iff.2 (List.mem_cons_self (a := y))
    have hy : lt y x = false := by
      rcases List.mem_cons.1 hym with rfl | hz
      · exact hO.irrefl _
      · exact l1 y hz
    obtain rfl := ha x List.mem_cons_self y hym hx hy
    rw [asc_uniq hO h.cons_inv l2 m2 fun a h1 b h2 => ha a (List.mem_cons_of_mem _ h1) b (List.mem_cons_of_mem _ h2)]
end
/-! ### cells of a row, as things -/
section
variable {α : Type} [Inhabited α]
def takeE (k : Nat) (dec : List AV → Option α) : Nat → List AV → Option (List α)
  | 0, _ => some []
  | n + 1, cs => match dec (cs.take k), takeE k dec n (cs.drop k) with | some a, some l => some (a :: l) | _, _ => none
def flatE (enc : α → List Value) (l : List α) : List Value := l.flatMap enc
/-- how things lie in cells -/
structure Coded (k : Nat) (enc : α → List Value) (dec : List AV → Option α) : Prop where
  pos : 0 < k
  len : ∀ x, (enc x).length = k
  de : ∀ cs a, dec cs = some a → cs = (enc a).map AV.v
  en : ∀ a, dec ((enc a).map AV.v) = some a
  atom : ∀ a, ∀ v ∈ enc a, atom v = true
theorem takeE_some {β : Type} {k : Nat} {enc : β → List Value} {dec : List AV → Option β} (hc : Coded k enc dec) : ∀ {n : Nat} {cs : List AV} {l : List β}, takeE k dec n cs = some l → l.length = n ∧ cs.take (n * k) = (flatE enc l).map AV.v ∧ n * k ≤ cs.length
  | 0, cs, l, h => by simp [takeE] at h; subst h; simp [flatE]
  | n + 1, cs, l, h => by
    unfold takeE at h
    split at h
    · rename_i a r h1 h2
      simp only [Option.some.injEq] at h
      subst h
      obtain ⟨e1, e2, e3⟩ := takeE_some hc h2
      have e4 := hc.de _ _ h1
      have e5 : k ≤ cs.length := by
        have := congrArg List.length e4
        rw [List.length_take, List.length_map, hc.len] at this; omega
      refine ⟨by simp [e1], ?_, ?_⟩
      · rw [Nat.add_mul, Nat.one_mul, Nat.add_comm, List.take_add, e4, e2]
        simp [flatE]
      · rw [List.length_drop] at e3
        rw [Nat.add_mul, Nat.one_mul]; omega
    · cases h
theorem takeE_flat {β : Type} {k : Nat} {enc : β → List Value} {dec : List AV → Option β} (hc : Coded k enc dec) (rest : List AV) : ∀ l : List β, takeE k dec l.length ((flatE enc l).map AV.v ++ rest) = some l
  | [] => rfl
  | a :: r => by
    have h1 : ((flatE enc (a :: r)).map AV.v ++ rest).take k = (enc a).map AV.v := by
      simp only [flatE, List.flatMap_cons, List.map_append, List.append_assoc]
      rw [List.take_append_of_le_length (by simp [hc.len])]
      rw [List.take_of_length_le (by simp [hc.len])]
    have h2 : ((flatE enc (a :: r)).map AV.v ++ rest).drop k = (flatE enc r).map AV.v ++ rest := by
      simp only [flatE, List.flatMap_cons, List.map_append, List.append_assoc]
      rw [List.drop_append_of_le_length (by simp [hc.len]), List.drop_of_length_le (by simp [hc.len]), List.nil_append]
    show (match dec (((flatE enc (a :: r)).map AV.v ++ rest).take k), takeE k dec r.length (((flatE enc (a :: r)).map AV.v ++ rest).drop k) with | some a, some l => some (a :: l) | _, _ => none) = _
    rw [h1, h2, hc.en, takeE_flat hc rest r]
theorem flatE_len {β : Type} {enc : β → List Value} {k : Nat} (hk : ∀ x, (enc x).length = k) : ∀ l : List β, (flatE enc l).length = l.length * k
  | [] => by simp [flatE]
  | a :: r => by
    have := flatE_len hk r
    simp only [flatE, List.flatMap_cons, List.length_append, hk] at this ⊢
    rw [this, List.length_cons, Nat.add_mul, Nat.one_mul, Nat.add_comm]
theorem flatE_get {enc : α → List Value} {k : Nat} (hk : ∀ x, (enc x).length = k) (h0 : 0 < k) : ∀ (l : List α) (t : Nat), t < l.length * k → (flatE enc l)[t]! = (enc l[t / k]!)[t % k]!
  | [], t, h => by simp at h
  | a :: r, t, h => by
    by_cases ht : t < k
    · rw [Nat.div_eq_of_lt ht, Nat.mod_eq_of_lt ht]
      simp only [flatE, List.flatMap_cons, List.getElem!_cons_zero]
      rw [List.getElem!_eq_getElem?_getD, List.getElem!_eq_getElem?_getD, List.getElem?_append_left (by rw [hk]; exact ht)]
    · obtain ⟨u, rfl⟩ : ∃ u, t = k + u := ⟨t - k, by omega⟩
      have hu : u < r.length * k := by rw [List.length_cons, Nat.add_mul, Nat.one_mul] at h; omega
      have := flatE_get hk h0 r u hu
      rw [Nat.add_div_left _ h0, Nat.add_mod_left, List.getElem!_cons_succ, ← this]
      simp only [flatE, List.flatMap_cons]
      rw [List.getElem!_eq_getElem?_getD, List.getElem!_eq_getElem?_getD, List.getElem?_append_right (by rw [hk]; exact Nat.le_add_right _ _), hk, Nat.add_sub_cancel_left]
theorem flatK_eq {enc : α → List Value} {k : Nat} (hk : ∀ x, (enc x).length = k) (h0 : 0 < k) (d : Array α) : flatK enc k d = (flatE enc d.toList).toArray := by
  refine ext_get! (by simp [flatE_len hk]) fun t ht => ?_
  have ht' : t < d.size * k := by simpa using ht
  rw [get_flatK _ _ _ _ ht']
  have h := flatE_get hk h0 d.toList t (by simpa using ht')
  have h1 : (flatE enc d.toList).toArray[t]! = (flatE enc d.toList)[t]! := by simp
  have h2 : d.toList[t / k]! = d[t / k]! := by
    rw [List.getElem!_eq_getElem?_getD, Array.getElem!_eq_getD, Array.getD_eq_getD_getElem?, Array.getElem?_toList]
  rw [h1, h, h2]
end
/-! ### a world with more behind -/
theorem later {Z : Fzn} {ρ : Pls} {H : Heap} {w : World} (hs : Sim Z ρ H w) (n : Nat) (os : Array Obj) : Sim Z ρ H (grow (Sort.ahead w n) os) ∧ Ext Z ρ H w Z ρ H (grow (Sort.ahead w n) os) := by
  have hb : ∀ k, k < w.heap.size → (grow (Sort.ahead w n) os).heap[k]? = w.heap[k]? := fun k hk => heap_grow_old (Sort.ahead w n) os hk
  refine ⟨⟨fun b o h hl => ?_, hs.inj, fun k o hk => ?_, hs.fresh, hs.lk⟩, ⟨.refl _, .refl _, fun k hk _ => hb k hk, fun _ _ h => h, ?_, rfl, rfl, rfl, Nat.le_add_right _ _, fun a ha => ?_, rfl, fun _ _ => rfl, Nat.le_refl _, fun _ _ _ => rfl, fun _ _ _ => rfl, fun _ _ h _ => ⟨h, fun _ => rfl⟩⟩⟩
  · obtain ⟨pl, obj, h1, h2, h3, h4⟩ := hs.objs b o h hl
    exact ⟨pl, obj, h1, (hb _ (Array.getElem?_eq_some_iff.1 h2).1).trans h2, h3, h4⟩
  · exact (hb k (Array.getElem?_eq_some_iff.1 (hs.zok k o hk)).1).trans (hs.zok k o hk)
  · rw [size_grow]; exact Nat.le_add_right _ _
  · simp only [World.frozen?, hb _ ha]
theorem freeze_toV {H : Heap} {K : Nat} {x : AV} {y : Value} (h : freezeV H K x = some (.v y)) : x = .v y := by
  cases K with
  | zero => cases h
  | succ K =>
    unfold freezeV at h
    cases x with
    | v z => simpa using h
    | ro z k => simp at h
    | vs s l c => simp at h
    | agg l => simp only [Option.map_eq_some_iff] at h; obtain ⟨_, _, h⟩ := h; cases h
    | tup l => simp only [Option.map_eq_some_iff] at h; obtain ⟨_, _, h⟩ := h; cases h
    | ifc t z => simp only [Option.map_eq_some_iff] at h; obtain ⟨_, _, h⟩ := h; cases h
    | mp b => simp only at h; split at h <;> simp at h
    | yld b => simp only at h; split at h <;> simp at h
    | fn f a b => simp only at h; split at h <;> simp at h
    | ptr b v k =>
      simp only at h
      split at h
      · simp at h
      · split at h
        · split at h
          · split at h <;> simp at h
          · cases h
        · cases h
    | sl b v o l c =>
      simp only at h
      split at h
      · simp at h
      · split at h
        · split at h
          · split at h
            · simp at h
            · split at h
              · split at h <;> simp at h
              · cases h
          · cases h
        · cases h
/-- a call on closed arguments, in whatever world -/
theorem calls_closed {C : Cfg} (hgo : NoGo C.P) (hm : C.P.follows .mixedOrders = true) (hext : ExtOK C) {f : FuncId} {args : List AV} {v : Value} (h : Ans C f args (.v v)) {vals : List Value} (w : World) (hl : RepL (allZ w) noPls args vals) :
    Calls C.P f vals.toArray w fun e w' => e = .returned v ∧ ∃ q os, w' = grow (w.drewN q) os := by
  obtain ⟨x, H', h1, h2⟩ := Ans.iff.1 h
  rw [freeze_toV h2] at h1
  refine Calls.mono' (lim_right hgo hm hext h1 (start_sim w) hl) ?_
  rintro e w' ⟨y, rfl, Z', ρ', k1, k2, k3⟩
  refine ⟨by rw [k1.v_inv.1], w'.drawn - w.drawn, w'.heap.extract w.heap.size w'.heap.size, ?_⟩
  have hd := k3.drawn
  have hheap : w'.heap = w.heap ++ w'.heap.extract w.heap.size w'.heap.size := by
    apply Array.ext_getElem?
    intro i
    by_cases hi : i < w.heap.size
    · rw [Array.getElem?_append_left hi]; exact k3.frame i hi (start_own w i)
    · rw [Array.getElem?_append_right (by omega), Array.getElem?_extract]
      have hsz := k3.size
      by_cases hi2 : i < w'.heap.size
      · rw [if_pos (by omega)]; congr 1; omega
      · rw [if_neg (by omega), Array.getElem?_eq_none (by omega)]
  have h1 := k3.os
  have h2 := k3.output
  have h3 := k3.tape
  cases w'; cases w
  simp only [grow, World.drewN] at *
  subst h1 h2 h3
  congr 1
  omega
theorem putCells_eq (o : Nat) (F : List Value) (arr : Array Value) (h : o + F.length ≤ arr.size) : putCells id o F.toArray arr = (arr.toList.take o ++ F ++ arr.toList.drop (o + F.length)).toArray := by
  refine Array.ext_getElem? fun i => ?_
  unfold putCells
  rw [Array.getElem?_mapIdx]
  simp only [List.getElem?_toArray, id_eq]
  by_cases hi : i < arr.size
  · rw [Array.getElem?_eq_getElem hi]
    simp only [Option.map_some]
    by_cases h1 : i < o
    · rw [if_neg (by omega), List.append_assoc, List.getElem?_append_left (by simp; omega), List.getElem?_take, if_pos h1]
      simp [hi]
    · by_cases h2 : i < o + F.length
      · rw [if_pos (by simp; omega), List.append_assoc, List.getElem?_append_right (by simp; omega), List.getElem?_append_left (by simp; omega)]
        have e : i - (arr.toList.take o).length = i - o := by simp; omega
        rw [e, List.getElem?_eq_getElem (by omega)]
        simp [show i - o < F.length by omega]
      · rw [if_neg (by simp; omega), List.getElem?_append_right (by simp; omega), List.getElem?_drop]
        have e : o + F.length + (i - (arr.toList.take o ++ F).length) = i := by simp; omega
        rw [e]; simp [hi]
  · rw [Array.getElem?_eq_none (by omega), List.getElem?_eq_none (by simp; omega)]
    rfl
/-! ### the function -/
section
variable {α : Type} [Inhabited α]
/-- 'cf a b < 0' -/
def ltF (cf : α → α → Int) (x y : α) : Bool := decide (cf x y < 0)
/-- of what lies in memory: it sorts whatever there is, by a function that is known -/
structure Sorts (P : Program) (f g : FuncId) (k : Nat) (enc : α → List Value) (cf : α → α → Int) : Prop where
  body : HasBody P f
  nil : ∀ p cap fv w, Calls P f #[.slice p 0 cap, fv] w fun e w' => e = .returned (.tuple #[]) ∧ w' = w
  row : ∀ (blk off cap : Nat) (d : Array α) (w : World), Holds id w blk off (flatE enc d.toList).toArray → blk < w.heap.size → d.size < 4611686018427387904 →
    Calls P f #[.slice (some ⟨blk, off, none⟩) d.size cap, .func (.func g) #[] #[]] w fun e w' =>
      e = .returned (.tuple #[]) ∧ ∃ d' n os, PermIn 0 d.size d d' ∧ SortedIn (ltF cf) 0 d.size d' ∧ w' = grow (putRow id (Sort.ahead w n) blk off (flatE enc d'.toList).toArray) os
def antiB (lt : α → α → Bool) (eqv : α → α → Bool) (l : List α) : Bool := l.all fun a => l.all fun b => lt a b || lt b a || eqv a b
def sortH (k : Nat) (enc : α → List Value) (dec : List AV → Option α) (eqv : α → α → Bool) (cf : α → α → Int) (g : FuncId) : List AV → Heap → Option (AV × Heap)
  | [x, .fn (.func g') [] []], H =>
    if g' = g then
      match x with
      | .v (.slice none 0 0) => some (.tup [], H)
      | .vs _ [] _ => some (.tup [], H)
      | .sl b v off len _ =>
        if len = 0 then some (.tup [], H) else
        match H.row b v with
        | some (_, _, _, _, cs) =>
          if len < 4611686018427387904 then
            match takeE k dec len (cs.drop off) with
            | some l => if antiB (ltF cf) eqv l then (storeCells H b v off ((flatE enc (sortL (ltF cf) l)).map AV.v)).map fun H' => (.tup [], H') else none
            | none => none
          else none
        | none => none
      | _ => none
    else none
  | _, _ => none
theorem sortH_meets {P : Program} {f g : FuncId} {k : Nat} {enc : α → List Value} {dec : List AV → Option α} {eqv : α → α → Bool} {cf : α → α → Int} (hO : SWO (ltF cf)) (hc : Coded k enc dec) (hq : ∀ a b, eqv a b = true → a = b) (hS : Sorts P f g k enc cf)
    {args : List AV} {H H' : Heap} {v : AV} (h : sortH k enc dec eqv cf g args H = some (v, H')) : MeetsCall P f args H v H' := by
  refine ⟨hS.body, fun Z ρ w vals hs hl => ?_⟩
  unfold sortH at h
  split at h
  · rename_i x g'
    obtain ⟨v1, ws, rfl, hv1, hl⟩ := hl.uncons
    obtain ⟨v2, ws, rfl, hv2, hl⟩ := hl.uncons
    have : ws = [] := List.length_eq_zero_iff.1 hl.1.symm
    subst this
    split at h
    · rename_i hg
      subst hg
      have hnone : ∀ p cap, v1 = .slice p 0 cap → v = .tup [] ∧ H' = H → Calls P f [v1, v2].toArray w fun e w' => ∃ x, e = .returned x ∧ After Z ρ H w v H' x w' := by
        rintro p cap rfl ⟨rfl, rfl⟩
        refine Calls.mono' (hS.nil p cap v2 w) ?_
        rintro e w' ⟨rfl, rfl⟩
        exact ⟨_, rfl, Z, ρ, .tup (cs := []) (vs := []) rfl (fun i c v h => by simp at h), hs, Ext.refl _ _ _ _⟩
      split at h
      · simp only [Option.some.injEq, Prod.mk.injEq] at h
        obtain ⟨rfl, -⟩ := hv1.v_inv
        exact hnone none 0 rfl ⟨h.1.symm, h.2.symm⟩
      · simp only [Option.some.injEq, Prod.mk.injEq] at h
        cases hv1 with
        | vs => exact hnone _ _ rfl ⟨h.1.symm, h.2.symm⟩
        | vs0 => exact hnone _ _ rfl ⟨h.1.symm, h.2.symm⟩
      · rename_i b ver off len cap
        cases hv1 with
        | sl hp hcap hn hle =>
          rename_i c pl
          split at h
          · rename_i hlen
            subst hlen
            simp only [Option.some.injEq, Prod.mk.injEq] at h
            exact hnone _ _ rfl ⟨h.1.symm, h.2.symm⟩
          · rename_i hlen
            split at h
            · rename_i m e sz gr cs hrow
              split at h
              · rename_i hbig
                split at h
                · rename_i l htake
                  split at h
                  · rename_i hanti
                    simp only [Option.map_eq_some_iff, Prod.mk.injEq] at h
                    obtain ⟨H2, hst, rfl, rfl⟩ := h
                    obtain ⟨hll, htk, hle2⟩ := takeE_some hc htake
                    obtain ⟨pl1, arr, e', h1, h2, h3, h3b, h3c, h4, pre, vs, post, h5, h6, h7, h7b, h8⟩ := hs.row hrow
                    rw [hp] at h1; cases h1
                    have hdl : (flatE enc l).length = len * k := by rw [flatE_len hc.len, hll]
                    have hcell : ∀ j x, (flatE enc l)[j]? = some x → vs[off + j]? = some x := by
                      intro j x hj
                      have hlt := (List.getElem?_eq_some_iff.1 hj).1
                      have hcj : cs[off + j]? = some (.v x) := by
                        have : (cs.drop off)[j]? = some (.v x) := by
                          have h9 : ((cs.drop off).take (len * k))[j]? = some (.v x) := by rw [htk, List.getElem?_map, hj]; rfl
                          rw [List.getElem?_take] at h9
                          split at h9
                          · exact h9
                          · cases h9
                        rwa [List.getElem?_drop] at this
                      obtain ⟨y, hy, hr⟩ := h8.get hcj
                      rw [hy, hr.v_inv.1]
                    have hholds : Holds id w pl.blk (pl.base + off) (flatE enc l.toArray.toList).toArray := by
                      intro j hj
                      have hj' : j < (flatE enc l).length := by simpa using hj
                      refine ⟨?_, ?_⟩
                      · have := cell_at (w := w) h2 h5 (hcell j _ (List.getElem?_eq_getElem hj'))
                        rw [← h6, Nat.add_assoc, this]
                        simp [hj']
                      · simp [World.frozen?, h2]
                    have hblk := (Array.getElem?_eq_some_iff.1 h2).1
                    have hcall := hS.row pl.blk (pl.base + off) c l.toArray w hholds hblk (by simpa [hll] using hbig)
                    have hfn : v2 = .func (.func g') #[] #[] := by
                      cases hv2 with
                      | fn q1 q2 q3 q4 =>
                        have e1 := List.length_eq_zero_iff.1 q1.symm
                        have e2 := List.length_eq_zero_iff.1 q2.symm
                        rw [e1, e2]
                    rw [hfn, ← hll, show l.length = l.toArray.size by simp]
                    refine Calls.mono' hcall ?_
                    rintro e w' ⟨rfl, d', n, os, hpm, hsd, rfl⟩
                    have hd' : d'.toList = sortL (ltF cf) l := by
                      obtain ⟨p1, -, p3⟩ := hpm
                      have p3 : d'.toList.Perm l := by
                        have e1 : d'.extract 0 l.toArray.size = d' := by rw [← p1]; simp
                        have e2 : l.toArray.extract 0 l.toArray.size = l.toArray := by simp
                        rw [e1, e2] at p3; simpa using p3
                      refine asc_uniq hO (p3.trans (sortL_perm _ l).symm) ?_ (sortL_asc hO l) ?_
                      · refine List.pairwise_iff_getElem.2 fun i j hi hj hij => ?_
                        have hj2 : j < d'.size := by simpa using hj
                        have hi2 : i < d'.size := by simpa using hi
                        have := hsd i j (Nat.zero_le _) hij (by rw [← p1]; exact hj2)
                        rw [getElem!_pos d' j hj2, getElem!_pos d' i hi2] at this
                        simpa using this
                      · intro a ha b hb h1 h2
                        have ha := p3.mem_iff.1 ha
                        have hb := p3.mem_iff.1 hb
                        have := List.all_eq_true.1 (List.all_eq_true.1 hanti a ha) b hb
                        rw [h1, h2] at this
                        exact hq _ _ (by simpa using this)
                    rw [hd']
                    have hys : RepL Z ρ ((flatE enc (sortL (ltF cf) l)).map AV.v) (flatE enc (sortL (ltF cf) l)) := by
                      refine ⟨by simp, fun i c v hc' hv => ?_⟩
                      rw [List.getElem?_map, hv] at hc'
                      simp only [Option.map_some, Option.some.injEq] at hc'
                      subst hc'
                      obtain ⟨a, -, ha⟩ := List.mem_flatMap.1 (List.mem_of_getElem? hv)
                      exact .v (hc.atom a v ha)
                    obtain ⟨w1, Z1, ρ1, r1, s1, x1⟩ := cells_does (P := P) hs hp hys hst
                    have hsl : (flatE enc (sortL (ltF cf) l)).length = len * k := by rw [flatE_len hc.len, (sortL_perm _ l).length_eq, hll]
                    have hvl : off + len * k ≤ vs.length := by
                      rw [← h8.1]; rw [List.length_drop] at hle2
                      have : 0 < len * k := Nat.mul_pos (Nat.pos_of_ne_zero hlen) hc.pos
                      omega
                    have hsz : arr.size = pre.length + vs.length + post.length := by rw [← Array.length_toList, h5]; simp; omega
                    have hrun := run_storeCells_at P pl.blk (pl.base + off) e' (flatE enc (sortL (ltF cf) l)) 0 arr w h2 (by rw [hsl]; omega) (fun y hy => by
                      obtain ⟨a, -, ha⟩ := List.mem_flatMap.1 hy
                      have := hc.atom a y ha
                      exact (Rep.v (Z := Z) (ρ := ρ) this).flat rfl)
                    have hw1 : w1 = w.setRow pl.blk (arr.toList.take (pl.base + off + 0) ++ flatE enc (sortL (ltF cf) l) ++ arr.toList.drop (pl.base + off + 0 + (flatE enc (sortL (ltF cf) l)).length)).toArray := by
                      rw [hrun] at r1
                      simpa using r1.symm
                    obtain ⟨s2, x2⟩ := later s1 n os
                    have hput : putRow id (Sort.ahead w n) pl.blk (pl.base + off) (flatE enc (sortL (ltF cf) l)).toArray = Sort.ahead w1 n := by
                      rw [hw1]
                      unfold putRow mapBlock World.setRow Sort.ahead
                      simp only []
                      congr 1
                      refine Array.ext_getElem? fun i => ?_
                      rw [Array.getElem?_modify, Array.getElem?_modify]
                      by_cases hi : pl.blk = i
                      · subst hi
                        have h2' : w.heap[pl.blk]? = some (.cells arr e' (0, 0)) := h2
                        simp only [if_true, h2', Option.map_some, onCells]
                        rw [Nat.add_zero, putCells_eq _ _ _ (by rw [hsl]; omega)]
                      · simp [hi]
                    rw [hput]
                    exact ⟨_, rfl, Z1, ρ1, .tup (cs := []) (vs := []) rfl (fun i c v h => by simp at h), s2, x1.trans x2⟩
                  · cases h
                · cases h
              · cases h
            · cases h
      · cases h
    · cases h
  · cases h
end
end Go.Ev
/- slices.SortFunc of Go's library, by the shelf's contracts. -/
namespace Go.Ev
open Go.Proofs Go.Shelf Go.RowKit Go.Sort
section
variable {α : Type} [Inhabited α] {P : Program} {ρn : Ren}
/-- slices of structs -/
theorem sorts_many (L : SlLaysF0.n6 P ρn) {f : FuncId} (hf : ρn.f 6 = f) (hbody : HasBody P f) {k : Nat} (aE : ∀ w, (isAgg (ρn.t 24)).run P w = .ok true w) (zE : ∀ w, (Go.sizeOf (ρn.t 24)).run P w = .ok k w) {enc : α → List Value} {dec : List AV → Option α} (hc : Coded k enc dec) (h1 : ∀ x, ∀ v ∈ enc x, v.oneCell' = true)
    {cf : α → α → Int} (hO : SWO (ltF cf)) {g : FuncId} (hg : HasBody P g)
    (hcmp : ∀ (w : World) (x y : α), Calls P g #[.agg (enc x).toArray, .agg (enc y).toArray] w fun e w' => e = .returned (.int .i64 (cf x y)) ∧ ∃ q os, w' = grow (w.drewN q) os) : Sorts P f g k enc cf := by
  subst hf
  refine ⟨hbody, fun p cap fv w => AnyF.slices_SortFunc_none L p cap fv w, fun blk off cap d w hh hblk hsz => ?_⟩
  have hH : HoldsK enc k w blk off d := by unfold HoldsK; rw [flatK_eq hc.len hc.pos]; exact hh
  have h := AnyQ.slices_SortFunc L k aE zE enc hc.len h1 cf hO g #[] blk off cap d w (fun args w => hg.run args w) (fun m os dk _ x y => hcmp _ x y) hH hblk hsz
  refine Calls.mono' h ?_
  rintro e w' ⟨rfl, d', n, os, p1, p2, rfl⟩
  refine ⟨rfl, d', n, os, p1, p2, ?_⟩
  unfold sortWorldK putRowK
  rw [flatK_eq hc.len hc.pos]
end
end Go.Ev
/- slices.SortFunc of Go's library at this program: where the shelf's contract finds its parts. -/
namespace Go.Proofs
open Go.Shelf
def Tryz.sortPl_ren : Go.Shelf.Ren := ⟨fun | 6 => 97 | 15 => 90 | 14 => 118 | 28 => 110 | 29 => 111 | 20 => 126 | 21 => 127 | 22 => 128 | 23 => 129 | 24 => 130 | 25 => 131 | 26 => 132 | 27 => 133 | 46 => 135 | 47 => 122 | 48 => 123 | 49 => 136 | 50 => 137 | 57 => 138 | n => n, fun | 22 => 47 | 24 => 32 | 25 => 136 | 3 => 3 | 39 => 142 | 0 => 0 | 53 => 168 | 55 => 170 | 4 => 4 | 46 => 161 | 45 => 160 | 50 => 165 | 5 => 5 | 9 => 9 | 66 => 173 | 70 => 177 | 76 => 184 | 77 => 185 | n => n, fun | n => n⟩
theorem Tryz.sortPl : Go.Proofs.SlLaysF0.n6 Tryz.prog Tryz.sortPl_ren := {
  mixed := by kernel_rfl
  f6 := ⟨Tryz.f97.name, by decide, Tryz.func97.trans (congrArg some (by kernel_rfl))⟩
  f14 := ⟨Tryz.f118.name, by decide, Tryz.func118.trans (congrArg some (by kernel_rfl))⟩
  f15 := Tryz.func90.trans (congrArg some (by kernel_rfl))
  f20 := ⟨Tryz.f126.name, by decide, Tryz.func126.trans (congrArg some (by kernel_rfl))⟩
  f21 := ⟨Tryz.f127.name, by decide, Tryz.func127.trans (congrArg some (by kernel_rfl))⟩
  f22 := ⟨Tryz.f128.name, by decide, Tryz.func128.trans (congrArg some (by kernel_rfl))⟩
  f23 := ⟨Tryz.f129.name, by decide, Tryz.func129.trans (congrArg some (by kernel_rfl))⟩
  f24 := ⟨Tryz.f130.name, by decide, Tryz.func130.trans (congrArg some (by kernel_rfl))⟩
  f25 := ⟨Tryz.f131.name, by decide, Tryz.func131.trans (congrArg some (by kernel_rfl))⟩
  f26 := ⟨Tryz.f132.name, by decide, Tryz.func132.trans (congrArg some (by kernel_rfl))⟩
  f27 := ⟨Tryz.f133.name, by decide, Tryz.func133.trans (congrArg some (by kernel_rfl))⟩
  f28 := Tryz.func110.trans (congrArg some (by kernel_rfl))
  f29 := Tryz.func111.trans (congrArg some (by kernel_rfl))
  f46 := ⟨Tryz.f135.name, by decide, Tryz.func135.trans (congrArg some (by kernel_rfl))⟩
  f47 := Tryz.func122.trans (congrArg some (by kernel_rfl))
  f48 := Tryz.func123.trans (congrArg some (by kernel_rfl))
  f49 := ⟨Tryz.f136.name, by decide, Tryz.func136.trans (congrArg some (by kernel_rfl))⟩
  f50 := ⟨Tryz.f137.name, by decide, Tryz.func137.trans (congrArg some (by kernel_rfl))⟩
  f57 := ⟨Tryz.f138.name, by decide, Tryz.func138.trans (congrArg some (by kernel_rfl))⟩
  t0 := Tryz.underlying0
  a0 := Tryz.isAgg0
  z0 := Tryz.sizeOf0
  v0 := Tryz.zeroValue0
  t3 := Tryz.underlying3
  a3 := Tryz.isAgg3
  z3 := Tryz.sizeOf3
  v3 := Tryz.zeroValue3
  t4 := Tryz.underlying4
  a4 := Tryz.isAgg4
  z4 := Tryz.sizeOf4
  v4 := Tryz.zeroValue4
  t5 := Tryz.underlying5
  a5 := Tryz.isAgg5
  z5 := Tryz.sizeOf5
  v5 := Tryz.zeroValue5
  t9 := Tryz.underlying9
  a9 := Tryz.isAgg9
  z9 := Tryz.sizeOf9
  v9 := Tryz.zeroValue9
  t22 := Tryz.underlying47
  a22 := Tryz.isAgg47
  z22 := Tryz.sizeOf47
  v22 := Tryz.zeroValue47
  t25 := Tryz.underlying136
  a25 := Tryz.isAgg136
  z25 := Tryz.sizeOf136
  v25 := Tryz.zeroValue136
  t39 := Tryz.underlying142
  a39 := Tryz.isAgg142
  z39 := Tryz.sizeOf142
  v39 := Tryz.zeroValue142
  t45 := Tryz.underlying160
  a45 := Tryz.isAgg160
  z45 := Tryz.sizeOf160
  v45 := Tryz.zeroValue160
  t46 := Tryz.underlying161
  a46 := Tryz.isAgg161
  z46 := Tryz.sizeOf161
  v46 := Tryz.zeroValue161
  t50 := Tryz.underlying165
  a50 := Tryz.isAgg165
  z50 := Tryz.sizeOf165
  v50 := Tryz.zeroValue165
  t53 := Tryz.underlying168
  a53 := Tryz.isAgg168
  z53 := Tryz.sizeOf168
  v53 := Tryz.zeroValue168
  t55 := Tryz.underlying170
  a55 := Tryz.isAgg170
  z55 := Tryz.sizeOf170
  v55 := Tryz.zeroValue170
  t66 := Tryz.underlying173
  a66 := Tryz.isAgg173
  z66 := Tryz.sizeOf173
  v66 := Tryz.zeroValue173
  t70 := Tryz.underlying177
  a70 := Tryz.isAgg177
  z70 := Tryz.sizeOf177
  v70 := Tryz.zeroValue177
  t76 := Tryz.underlying184
  a76 := Tryz.isAgg184
  z76 := Tryz.sizeOf184
  v76 := Tryz.zeroValue184
  t77 := Tryz.underlying185
  a77 := Tryz.isAgg185
  z77 := Tryz.sizeOf185
  v77 := Tryz.zeroValue185 }
end Go.Proofs
namespace Go.Ev
open Go.Proofs Go.Sort
set_option maxRecDepth 100000
set_option linter.unusedSimpArgs false
/-! ### answers on closed arguments, told by heart -/
theorem ans_det {C : Cfg} {f : FuncId} {args : List AV} {v w : AV} (h : Ans C f args v) (h' : Ans C f args w) : v = w := by
  obtain ⟨x, H, h1, h2⟩ := Ans.iff.1 h
  obtain ⟨y, H', k1, k2⟩ := Ans.iff.1 h'
  rw [h1] at k1
  simp only [Option.some.injEq, Out.ret.injEq] at k1
  obtain ⟨rfl, rfl⟩ := k1
  rw [h2] at k2
  exact Option.some.inj k2
open Classical in
noncomputable def extAll (C : Cfg) (f : FuncId) : List AV → Option AV := fun args => if h : boundL args = 0 ∧ ∃ v, Ans C f args v then some (Classical.choose h.2) else none
theorem extAll_eq {C : Cfg} {f : FuncId} {args : List AV} {v : AV} (h : Ans C f args v) (hb : boundL args = 0) : extAll C f args = some v := by
  unfold extAll
  have hc : boundL args = 0 ∧ ∃ v, Ans C f args v := ⟨hb, v, h⟩
  rw [dif_pos hc, ans_det (Classical.choose_spec hc.2) h]
theorem extAll_some {C : Cfg} {f : FuncId} {args : List AV} {v : AV} (h : extAll C f args = some v) : boundL args = 0 ∧ Ans C f args v := by
  unfold extAll at h
  split at h
  · rename_i hc
    simp only [Option.some.injEq] at h
    subst h
    exact ⟨hc.1, Classical.choose_spec hc.2⟩
  · cases h
/-! ### places in order -/
abbrev P3 := Int × Int × Int
def encP (p : P3) : List Value := [.int .i64 p.1, .int .i64 p.2.1, .int .i64 p.2.2]
def decP : List AV → Option P3
  | [.v (.int .i64 a), .v (.int .i64 b), .v (.int .i64 c)] => some (a, b, c)
  | _ => none
def p3V (p : P3) : AV := .agg [intA p.1, intA p.2.1, intA p.2.2]
def cmpPl (p q : P3) : Int := cmpP p.1 p.2.1 p.2.2 q.1 q.2.1 q.2.2
def ltP (p q : P3) : Bool := decide (p.1 < q.1 ∨ p.1 = q.1 ∧ (p.2.1 < q.2.1 ∨ p.2.1 = q.2.1 ∧ p.2.2 < q.2.2))
theorem ltF_P : ltF cmpPl = ltP := by
  funext p q
  unfold ltF ltP cmpPl cmpP
  congr 1
  simp only [orI, cmpI, eq_iff_iff]
  by_cases a1 : p.1 < q.1
  · simp [a1]
  · by_cases a2 : q.1 < p.1
    · simp [a1, a2]; omega
    · have a3 : p.1 = q.1 := by omega
      by_cases b1 : p.2.1 < q.2.1
      · simp [a3, b1]
      · by_cases b2 : q.2.1 < p.2.1
        · simp [a3, b1, b2]; omega
        · have b3 : p.2.1 = q.2.1 := by omega
          by_cases c1 : p.2.2 < q.2.2
          · simp [a3, b3, c1]
          · by_cases c2 : q.2.2 < p.2.2
            · simp [a3, b3, c1, c2]
            · simp [a3, b3, c1, c2]
theorem swoP : SWO (ltF cmpPl) := by
  rw [ltF_P]
  refine ⟨fun x => ?_, fun x y z h1 h2 => ?_, fun x y z h1 h2 => ?_⟩
  · simp [ltP]
  · simp only [ltP, decide_eq_true_eq] at *; omega
  · simp only [ltP, decide_eq_false_iff_not] at *; omega
def eqvP (p q : P3) : Bool := decide (p = q)
theorem antiP (l : List P3) : antiB (ltF cmpPl) eqvP l = true := by
  rw [ltF_P]
  refine List.all_eq_true.2 fun a _ => List.all_eq_true.2 fun b _ => ?_
  simp only [ltP, eqvP, Bool.or_eq_true, decide_eq_true_eq]
  obtain ⟨a1, a2, a3⟩ := a
  obtain ⟨b1, b2, b3⟩ := b
  simp only [Prod.mk.injEq]
  omega
theorem codedP : Coded 3 encP decP := by
  refine ⟨by decide, fun _ => rfl, fun cs a h => ?_, fun _ => rfl, fun a v hv => ?_⟩
  · unfold decP at h
    split at h
    · simp only [Option.some.injEq] at h
      subst h; rfl
    · cases h
  · simp [encP] at hv
    rcases hv with rfl | rfl | rfl <;> rfl
theorem body85 : HasBody Tryz.prog 85 := ⟨Tryz.f85, Tryz.func85, by kernel_rfl, by kernel_rfl⟩
theorem body97 : HasBody Tryz.prog 97 := ⟨Tryz.f97, Tryz.func97, by kernel_rfl, by kernel_rfl⟩
theorem repL_ints (Z : Fzn) (p : P3) : Rep Z noPls (p3V p) (.agg (encP p).toArray) := by
  refine .agg rfl fun i c v hc hv => ?_
  match i with
  | 0 => simp [encP, intA] at hc hv; subst hc hv; exact .v rfl
  | 1 => simp [encP, intA] at hc hv; subst hc hv; exact .v rfl
  | 2 => simp [encP, intA] at hc hv; subst hc hv; exact .v rfl
  | i + 3 => simp at hc
theorem sorts97 : Sorts Tryz.prog 97 85 3 encP cmpPl := by
  refine sorts_many Tryz.sortPl rfl body97 (fun w => Tryz.isAgg32 w) (fun w => Tryz.sizeOf32 w) codedP (fun x v hv => ?_) swoP body85 fun w x y => ?_
  · simp [encP] at hv
    rcases hv with rfl | rfl | rfl <;> rfl
  · have h := ans85 quietA x.1 x.2.1 x.2.2 y.1 y.2.1 y.2.2
    refine calls_closed (nogo eA) (mixed eA) extOKA h (vals := [.agg (encP x).toArray, .agg (encP y).toArray]) w ?_
    refine ⟨rfl, fun i c v hc hv => ?_⟩
    match i with
    | 0 => simp at hc hv; subst hc hv; exact repL_ints _ x
    | 1 => simp at hc hv; subst hc hv; exact repL_ints _ y
    | i + 2 => simp at hc
/-! ### the configuration in which places are sorted -/
def toldF : List Nat := [13, 14, 15, 17, 18, 19, 28, 30, 40, 58, 59]
noncomputable def eS : Exts := fun f => if toldF.contains f then some (extAll (Cx eA) f) else eA f
def layS : FuncId → Option (List AV → Heap → Option (AV × Heap)) := fun f => if Nat.beq f 97 then some (sortH 3 encP decP eqvP cmpPl 85) else none
noncomputable def Cs : Cfg := { Cx eS with lay := layS }
@[go_sem] theorem Cs_P : Cs.P = Tryz.prog := rfl
theorem extOKS : ExtOK Cs := by
  refine ⟨fun f g hf args v hv Z ρ H w vals hs hl => ?_, fun f g hf args H v H' h => ?_⟩
  · have hf' : (if toldF.contains f then some (extAll (Cx eA) f) else eA f) = some g := hf
    split at hf'
    · simp only [Option.some.injEq] at hf'
      subst hf'
      obtain ⟨hb, ha⟩ := extAll_some hv
      exact ext_of_ans (nogo eA) (mixed eA) extOKA ha hb Z ρ H w vals hs hl
    · exact extOKA.ext f g hf' args v hv Z ρ H w vals hs hl
  · have hf' : (if Nat.beq f 97 then some (sortH 3 encP decP eqvP cmpPl 85) else none) = some g := hf
    split at hf'
    · rename_i hb
      have := Nat.eq_of_beq_eq_true hb
      subst this
      simp only [Option.some.injEq] at hf'
      subst hf'
      exact sortH_meets swoP codedP (fun a b h => of_decide_eq_true h) sorts97 h
    · cases hf'
theorem told {f : FuncId} (hf : toldF.contains f = true) {args : List AV} {v : AV} (h : Ans (Cx eA) f args v) (hb : boundL args = 0) (me : FuncId) (d : Option Tmp) (H : Heap) : callA Cs (lim Cs) me f d args H = some (v, H) := by
  have he : Cs.ext f = some (extAll (Cx eA) f) := by
    show (if toldF.contains f then some (extAll (Cx eA) f) else eA f) = _
    rw [if_pos hf]
  unfold callA
  rw [he]
  simp only [extAll_eq h hb, Option.map_some]
theorem callS12 (me : FuncId) (d : Option Tmp) (H : Heap) : callA Cs (lim Cs) me 12 d [] H = some (.v (.bool true), H) := by
  have h : Cs.ext 12 = some (atArgs [] (.v (.bool true))) := rfl
  unfold callA
  rw [h]; rfl
end Go.Ev
namespace Go.Ev
open Go.Proofs
set_option maxRecDepth 100000
set_option linter.unusedSimpArgs false
/-! ### copies -/
structure Rd where
  ch : Int
  ln : Int
  wd : Int
  kind : Int
  word : ByteArray
def rdV (r : Rd) : AV := .agg [.v (.int .i64 r.ch), .v (.int .i64 r.ln), .v (.int .i64 r.wd), .v (.int .u8 r.kind), .v (.string r.word)]
def RdsA (l : List Rd) (x : AV) : Prop := SlOf 5 (l.map rdV) x
theorem rds_get {l : List Rd} {i : Nat} {r : Rd} (h : l[i]? = some r) : (l.map rdV)[i]? = some (rdV r) := by rw [List.getElem?_map, h]; rfl
/-- the two may stand one behind the other -/
def pairB (a b : Rd) : Bool := !((eqP a.ch a.ln a.wd b.ch b.ln b.wd && !decide (a.kind = 2)) || decide (0 < cmpP a.ch a.ln a.wd b.ch b.ln b.wd))
def ordB : List Rd → Bool
  | a :: b :: r => pairB a b && ordB (b :: r)
  | _ => true
theorem ordB_drop (l : List Rd) (i : Nat) (a b : Rd) (h1 : l[i]? = some a) (h2 : l[i + 1]? = some b) : ordB (l.drop i) = (pairB a b && ordB (l.drop (i + 1))) := by
  obtain ⟨hi, rfl⟩ := List.getElem?_eq_some_iff.1 h1
  obtain ⟨hi2, rfl⟩ := List.getElem?_eq_some_iff.1 h2
  rw [List.drop_eq_getElem_cons hi, List.drop_eq_getElem_cons hi2]; rfl
theorem bin_neq8 (x y : Operand) (m n : Int) : binA Tryz.prog .neq 5 x y (.v (.int .u8 m)) (.v (.int .u8 n)) = some (.v (.bool (!decide (m = n)))) := bin_neq m n
set_option maxHeartbeats 2000000 in
theorem ans81 {e : Exts} (he : Quiet e) (l : List Rd) (x : AV) (hx : RdsA l x) (hn : l.length < 2 ^ 63) : Ans (Cx e) 81 [x] (.v (.bool (ordB l))) := by
  have hx : SlOf 5 (l.map rdV) x := hx
  unfold Ans
  rw [fn_step (fn_81 e) (show Tryz.f81.body = some _ from rfl)]
  simp -implicitDefEqProofs only [Tryz.f81, go_sem, ↓reduceIte, Int.reduceEq, Int.reduceLT, Int.reduceLE, List.reduceReplicate, intA, setT_nil, setT_cons]
  refine Lp_rule (P := fun μ a H => ∃ j, 1 ≤ j ∧ (j ≤ l.length ∨ j = 1) ∧ l.length + 1 = j + μ ∧ a = ⟨39, [(0, x), (2, .v (.bool false)), (3, intA j)], []⟩ ∧ H = ⟨[], 0⟩ ∧ ordB l = ordB (l.drop (j - 1))) ?_ l.length _ _ ⟨1, by omega, by omega, by omega, rfl, rfl, by simp⟩
  rintro μ _ _ ⟨j, hj1, hj2, hj3, rfl, rfl, ho⟩
  by_cases hlt : (j : Int) < (l.length : Int)
  · obtain ⟨a, ha⟩ := at_lt l (j - 1) (by omega)
    obtain ⟨b, hb⟩ := at_lt l j (by omega)
    have hw1 : IntKind.i64.wrap ((j : Int) - 1) = ((j - 1 : Nat) : Int) := by rw [wrap_in _ (by omega) (by omega)]; omega
    have hw2 := wrap_succ j (by omega)
    have hia := hx.idx (rds_get ha)
    have hib := hx.idx (rds_get hb)
    unfold rdV at hia hib
    rw [ordB_drop l (j - 1) a b ha (by rw [show j - 1 + 1 = j by omega]; exact hb), show j - 1 + 1 = j by omega] at ho
    have hc := call85 he a.ch a.ln a.wd b.ch b.ln b.wd
    simp -implicitDefEqProofs only [go_sem, ↓reduceIte, Int.reduceEq, Int.reduceLT, Int.reduceLE, List.reduceReplicate, intA, setT_nil, setT_cons, hx.len, List.length_map, hlt, hw1, hw2]
    refine wp_drawX [([], [], false), ([], [], false), ([], [], false), ([], [], false), ([], [], false), ([], [], false), ([], [], false), ([], [], false), ([4], [], false), ([4, 8], [], false), ([4, 8, 9], [], false), ([8], [9, 10], false), ([], [9, 10], false)] (by kernel_rfl) (by kernel_rfl) ?_
    have hd : ordB l = ordB (l.drop j) ∨ (ordB l = false ∧ pairB a b = false) := by
      rw [ho]; cases pairB a b
      · right; exact ⟨Bool.false_and _, rfl⟩
      · left; exact Bool.true_and _
    have hpb : pairB a b = !((eqP a.ch a.ln a.wd b.ch b.ln b.wd && !decide (a.kind = 2)) || decide (0 < cmpP a.ch a.ln a.wd b.ch b.ln b.wd)) := rfl
    cases h1 : eqP a.ch a.ln a.wd b.ch b.ln b.wd
    · cases h3 : decide (0 < cmpP a.ch a.ln a.wd b.ch b.ln b.wd)
      · rw [h1, h3] at hpb
        rw [hpb] at ho
        simp -implicitDefEqProofs only [go_sem, ↓reduceIte, Int.reduceEq, Int.reduceLT, Int.reduceLE, List.reduceReplicate, intA, setT_nil, setT_cons, hia, hib, hw1, hw2, eq32, h1, hc, h3, trim_at, hx.bound]
        exact ⟨μ - 1, by omega, j + 1, by omega, by omega, by omega, rfl, rfl, by rw [ho, Nat.add_sub_cancel]; rfl⟩
      · rw [h1, h3] at hpb
        rw [hpb] at ho
        simp -implicitDefEqProofs only [go_sem, ↓reduceIte, Int.reduceEq, Int.reduceLT, Int.reduceLE, List.reduceReplicate, intA, setT_nil, setT_cons, hia, hib, hw1, hw2, eq32, h1, hc, h3]
        rw [ho]; rfl
    · cases h2 : decide (a.kind = 2)
      · rw [h1, h2] at hpb
        rw [hpb] at ho
        simp -implicitDefEqProofs only [go_sem, ↓reduceIte, Int.reduceEq, Int.reduceLT, Int.reduceLE, List.reduceReplicate, intA, setT_nil, setT_cons, hia, hib, hw1, hw2, eq32, h1, bin_neq8, h2]
        rw [ho]; rfl
      · cases h3 : decide (0 < cmpP a.ch a.ln a.wd b.ch b.ln b.wd)
        · rw [h1, h2, h3] at hpb
          rw [hpb] at ho
          simp -implicitDefEqProofs only [go_sem, ↓reduceIte, Int.reduceEq, Int.reduceLT, Int.reduceLE, List.reduceReplicate, intA, setT_nil, setT_cons, hia, hib, hw1, hw2, eq32, h1, bin_neq8, h2, hc, h3, trim_at, hx.bound]
          exact ⟨μ - 1, by omega, j + 1, by omega, by omega, by omega, rfl, rfl, by rw [ho, Nat.add_sub_cancel]; rfl⟩
        · rw [h1, h2, h3] at hpb
          rw [hpb] at ho
          simp -implicitDefEqProofs only [go_sem, ↓reduceIte, Int.reduceEq, Int.reduceLT, Int.reduceLE, List.reduceReplicate, intA, setT_nil, setT_cons, hia, hib, hw1, hw2, eq32, h1, bin_neq8, h2, hc, h3]
          rw [ho]; rfl
  · have hend : ordB (l.drop (j - 1)) = true := by
      have : (l.drop (j - 1)).length ≤ 1 := by rw [List.length_drop]; omega
      match hq : l.drop (j - 1), this with
      | [], _ => rfl
      | [a], _ => rfl
    simp -implicitDefEqProofs only [go_sem, ↓reduceIte, Int.reduceEq, Int.reduceLT, Int.reduceLE, List.reduceReplicate, intA, setT_nil, setT_cons, hx.len, List.length_map, hlt]
    rw [ho, hend]
theorem call81 {e : Exts} (he : Quiet e) (l : List Rd) (x : AV) (hx : RdsA l x) (hn : l.length < 2 ^ 63) (me : FuncId) (d : Option Tmp) (H : Heap) : callA (Cx e) (lim (Cx e)) me 81 d [x] H = some (.v (.bool (ordB l)), H) :=
  (ans81 he l x hx hn).call (ext_81 he) (pure_81 _ _ _) (by simp only [boundL_cons, SlOf.bound hx, boundL_nil]; rfl) H
end Go.Ev
namespace Go.Ev
open Go.Proofs
set_option maxRecDepth 100000
set_option linter.unusedSimpArgs false
theorem str_eqB (u w : ByteArray) : bytesEq u.data.toList w.data.toList = decide (u = w) := by
  rw [bytesEq_iff, Bool.eq_iff_iff]
  simp only [decide_eq_true_eq]
  exact (str_ext u w).symm
theorem bin_seq {P : Program} {t : TypeId} (x y : Operand) (u w : ByteArray) : binA P .eql t x y (.v (.string u)) (.v (.string w)) = some (.v (.bool (decide (u = w)))) := by
  rw [← str_eqB]; rfl
theorem bin_sne {P : Program} {t : TypeId} (x y : Operand) (u w : ByteArray) : binA P .neq t x y (.v (.string u)) (.v (.string w)) = some (.v (.bool (!decide (u = w)))) := by
  rw [← str_eqB]; rfl
def emp : ByteArray := ⟨#[]⟩
def at0 (l : Line) (i : Int) : ByteArray := (l[i.toNat]?).getD emp
/-- what readings of a kind have to be like -/
def fits1 (l : Line) (r : Rd) : Bool := decide (0 ≤ r.wd ∧ r.wd < l.length) && decide (r.word = emp)
def fits2 (l : Line) (r : Rd) : Bool := withinB 0 l.length [r.wd] && wordB r.word
def fits3 (l : Line) (r : Rd) : Bool := decide (0 ≤ r.wd ∧ r.wd < l.length) && wordB r.word && !decide (r.word = at0 l r.wd)
set_option maxHeartbeats 2000000 in
theorem ans112 {e : Exts} (he : Quiet e) (l : Line) (x : AV) (hx : LineA l x) (hl : l.length < 2 ^ 63) (r : Rd) : Ans (Cx e) 112 [x, rdV r] (.v (.bool (fits1 l r))) := by
  have hx : SlOf 1 (strs l) x := hx
  have hc := call65 he r.wd l.length hl
  unfold Ans fits1
  rw [fn_step (fn_112 e) (show Tryz.f112.body = some _ from rfl)]
  cases h1 : decide (0 ≤ r.wd ∧ r.wd < l.length)
  · rw [h1] at hc
    simp -implicitDefEqProofs only [Tryz.f112, rdV, go_sem, ↓reduceIte, Int.reduceEq, Int.reduceLT, Int.reduceLE, List.reduceReplicate, intA, setT_nil, setT_cons, hx.len, strs_len, hc]
  · rw [h1] at hc
    simp -implicitDefEqProofs only [Tryz.f112, rdV, go_sem, ↓reduceIte, Int.reduceEq, Int.reduceLT, Int.reduceLE, List.reduceReplicate, intA, setT_nil, setT_cons, hx.len, strs_len, hc, bin_seq]
    rfl
set_option maxHeartbeats 2000000 in
theorem ans114 {e : Exts} (he : Quiet e) (l : Line) (x : AV) (hx : LineA l x) (_hl : l.length < 2 ^ 63) (r : Rd) (hr : r.word.size < 2 ^ 63) : Ans (Cx e) 114 [x, rdV r] (.v (.bool (fits2 l r))) := by
  have hx : SlOf 1 (strs l) x := hx
  have hc := call69 he 0 (l.length : Int) [r.wd] (by simp) (.vs 1 [.v (.int .i64 r.wd)] (some 1)) (Or.inr ⟨_, rfl⟩)
  unfold intA at hc
  have hw := call49 he r.word hr
  unfold Ans fits2
  rw [fn_step (fn_114 e) (show Tryz.f114.body = some _ from rfl)]
  cases h1 : withinB 0 l.length [r.wd]
  · rw [h1] at hc
    simp -implicitDefEqProofs only [Tryz.f114, rdV, go_sem, ↓reduceIte, Int.reduceEq, Int.reduceLT, Int.reduceLE, List.reduceReplicate, intA, setT_nil, setT_cons, hx.len, strs_len, hc]
  · rw [h1] at hc
    simp -implicitDefEqProofs only [Tryz.f114, rdV, go_sem, ↓reduceIte, Int.reduceEq, Int.reduceLT, Int.reduceLE, List.reduceReplicate, intA, setT_nil, setT_cons, hx.len, strs_len, hc, hw]
set_option maxHeartbeats 2000000 in
theorem ans116 {e : Exts} (he : Quiet e) (l : Line) (x : AV) (hx : LineA l x) (hl : l.length < 2 ^ 63) (r : Rd) (hr : r.word.size < 2 ^ 63) : Ans (Cx e) 116 [x, rdV r] (.v (.bool (fits3 l r))) := by
  have hx : SlOf 1 (strs l) x := hx
  have hc := callI65 he r.wd l.length hl
  have hw : ∀ (me : FuncId) (d : Option Tmp), callI (Cx e) me 49 d [.v (.string r.word)] = some (.v (.bool (wordB r.word))) := fun me d => (ans49 he r.word hr).callI (ext_49 he) (pure_49 _ _ _) rfl
  unfold Ans fits3
  rw [fn_step (fn_116 e) (show Tryz.f116.body = some _ from rfl)]
  simp -implicitDefEqProofs only [Tryz.f116, rdV, go_sem, ↓reduceIte, Int.reduceEq, Int.reduceLT, Int.reduceLE, List.reduceReplicate, intA, setT_nil, setT_cons]
  refine wp_draw (by kernel_rfl) ?_
  by_cases h1 : 0 ≤ r.wd ∧ r.wd < l.length
  · rw [decide_eq_true h1] at hc ⊢
    obtain ⟨w, hwn⟩ : ∃ n : Nat, r.wd = n := ⟨r.wd.toNat, by omega⟩
    obtain ⟨s, hs⟩ := at_lt l w (by omega)
    have hi := hx.idx (strs_get hs)
    rw [hwn] at hc ⊢
    have ha : at0 l w = s := by unfold at0; rw [Int.toNat_natCast, hs]; rfl
    cases h2 : wordB r.word
    · rw [h2] at hw
      simp -implicitDefEqProofs only [go_sem, ↓reduceIte, Int.reduceEq, Int.reduceLT, Int.reduceLE, List.reduceReplicate, intA, setT_nil, setT_cons, hx.len, hx.lenI, strs_len, hc, hw]
    · rw [h2] at hw
      simp -implicitDefEqProofs only [go_sem, ↓reduceIte, Int.reduceEq, Int.reduceLT, Int.reduceLE, List.reduceReplicate, intA, setT_nil, setT_cons, hx.len, hx.lenI, strs_len, hc, hw, hi, bin_sne, ha]
  · rw [decide_eq_false h1] at hc ⊢
    simp -implicitDefEqProofs only [go_sem, ↓reduceIte, Int.reduceEq, Int.reduceLT, Int.reduceLE, List.reduceReplicate, intA, setT_nil, setT_cons, hx.len, hx.lenI, strs_len, hc]
def fnV (f : Nat) : AV := .fn (.func f) [] []
def kindsV : AV := .agg [.v .nilFunc, .v .nilFunc, fnV 112, fnV 113, fnV 114, fnV 115, fnV 116, fnV 117]
theorem ans93 {e : Exts} : Ans (Cx e) 93 [] kindsV := by
  unfold Ans
  rw [fn_step (fn_93 e) (show Tryz.f93.body = some _ from rfl)]
  simp -implicitDefEqProofs only [Tryz.f93, go_sem, ↓reduceIte, Int.reduceEq, Int.reduceLT, Int.reduceLE, List.reduceReplicate, intA, setT_nil, setT_cons]
  rfl
end Go.Ev
/- Appending to slices of this seat's types. Made by program. -/
namespace Go.Ev
open Go.Proofs
set_option maxRecDepth 1000000
@[go_sem] theorem app_22 (H : Heap) (slot : Nat) (s x : AV) : appendA Tryz.prog H slot [22, 22] [s, x] = appG 46 2 32 H slot s (cellsFrom H 2 x) := app_eq2 (by kernel_rfl) und_22 (by kernel_rfl) (by kernel_rfl) (by decide) (by decide) H slot s x
@[go_sem] theorem app_41 (H : Heap) (slot : Nat) (s x : AV) : appendA Tryz.prog H slot [41, 41] [s, x] = appG 9 1 16 H slot s (cellsFrom H 1 x) := app_eq2 (by kernel_rfl) und_41 (by kernel_rfl) (by kernel_rfl) (by decide) (by decide) H slot s x
@[go_sem] theorem app_44 (H : Heap) (slot : Nat) (s x : AV) : appendA Tryz.prog H slot [44, 44] [s, x] = appG 41 1 24 H slot s (cellsFrom H 1 x) := app_eq2 (by kernel_rfl) und_44 (by kernel_rfl) (by kernel_rfl) (by decide) (by decide) H slot s x
@[go_sem] theorem app_47 (H : Heap) (slot : Nat) (s x : AV) : appendA Tryz.prog H slot [47, 47] [s, x] = appG 32 3 24 H slot s (cellsFrom H 3 x) := app_eq2 (by kernel_rfl) und_47 (by kernel_rfl) (by kernel_rfl) (by decide) (by decide) H slot s x
@[go_sem] theorem app_51 (H : Heap) (slot : Nat) (s x : AV) : appendA Tryz.prog H slot [51, 51] [s, x] = appG 65 5 48 H slot s (cellsFrom H 5 x) := app_eq2 (by kernel_rfl) und_51 (by kernel_rfl) (by kernel_rfl) (by decide) (by decide) H slot s x
@[go_sem] theorem app_69 (H : Heap) (slot : Nat) (s x : AV) : appendA Tryz.prog H slot [69, 69] [s, x] = appG 53 2 32 H slot s (cellsFrom H 2 x) := app_eq2 (by kernel_rfl) und_69 (by kernel_rfl) (by kernel_rfl) (by decide) (by decide) H slot s x
@[go_sem] theorem app_133 (H : Heap) (slot : Nat) (s x : AV) : appendA Tryz.prog H slot [133, 133] [s, x] = appG 3 1 8 H slot s (cellsFrom H 1 x) := app_eq2 (by kernel_rfl) und_133 (by kernel_rfl) (by kernel_rfl) (by decide) (by decide) H slot s x
end Go.Ev
namespace Go.Ev
open Go.Proofs
set_option maxRecDepth 100000
set_option linter.unusedSimpArgs false
attribute [local irreducible] Wp WpS
/-! ### fit -/
def fitOne (t : Txt) (r : Rd) : Bool := match lineAt t r.ch r.ln with | none => false | some l => !decide (l.length = 0) && withinB 1 3 [r.kind] && (if r.kind = 1 then fits1 l r else if r.kind = 2 then fits2 l r else fits3 l r)
structure RdF (r : Rd) : Prop where
  lo : 0 ≤ r.kind
  hi : r.kind < 256
  word : r.word.size < 2 ^ 63
theorem conv_u8 (n : Int) (h0 : 0 ≤ n) (h1 : n < 256) : convA Tryz.prog 5 3 (.v (.int .u8 n)) = some (.v (.int .i64 n)) := by
  have : convA Tryz.prog 5 3 (.v (.int .u8 n)) = some (.v (.int .i64 (IntKind.i64.wrap n))) := by kernel_rfl
  rw [this, wrap_in n (by omega) (by omega)]
theorem slLen_none : slLen (.v (.slice none 0 0)) = some (.v (.int .i64 0)) := rfl
theorem cast4 : ((4 : Nat) : Int) = 4 := rfl
theorem rdV_bound (r : Rd) : bound (rdV r) = 0 := rfl
theorem callI112 {e : Exts} (he : Quiet e) (l : Line) (x : AV) (hx : LineA l x) (hl : l.length < 2 ^ 63) (r : Rd) (me : FuncId) (d : Option Tmp) : callI (Cx e) me 112 d [x, rdV r] = some (.v (.bool (fits1 l r))) :=
  (ans112 he l x hx hl r).callI (ext_112 he) (pure_112 _ _ _) (by simp only [boundL_cons, SlOf.bound hx, rdV_bound, boundL_nil]; rfl)
theorem callI114 {e : Exts} (he : Quiet e) (l : Line) (x : AV) (hx : LineA l x) (hl : l.length < 2 ^ 63) (r : Rd) (hr : r.word.size < 2 ^ 63) (me : FuncId) (d : Option Tmp) : callI (Cx e) me 114 d [x, rdV r] = some (.v (.bool (fits2 l r))) :=
  (ans114 he l x hx hl r hr).callI (ext_114 he) (pure_114 _ _ _) (by simp only [boundL_cons, SlOf.bound hx, rdV_bound, boundL_nil]; rfl)
theorem callI116 {e : Exts} (he : Quiet e) (l : Line) (x : AV) (hx : LineA l x) (hl : l.length < 2 ^ 63) (r : Rd) (hr : r.word.size < 2 ^ 63) (me : FuncId) (d : Option Tmp) : callI (Cx e) me 116 d [x, rdV r] = some (.v (.bool (fits3 l r))) :=
  (ans116 he l x hx hl r hr).callI (ext_116 he) (pure_116 _ _ _) (by simp only [boundL_cons, SlOf.bound hx, rdV_bound, boundL_nil]; rfl)
theorem callI69 {e : Exts} (he : Quiet e) (lo hi n : Int) (me : FuncId) (d : Option Tmp) : callI (Cx e) me 69 d [.agg [.v (.int .i64 lo), .v (.int .i64 hi)], .vs 1 [.v (.int .i64 n)] (some 1)] = some (.v (.bool (withinB lo hi [n]))) :=
  (ans69 lo hi [n] (by simp) (.vs 1 [.v (.int .i64 n)] (some 1)) (Or.inr ⟨_, rfl⟩)).callI (ext_69 he) (pure_69 _ _ _) rfl
theorem call93 {e : Exts} (he : Quiet e) (me : FuncId) (d : Option Tmp) (H : Heap) : callA (Cx e) (lim (Cx e)) me 93 d [] H = some (.agg [.v .nilFunc, .v .nilFunc, .fn (.func 112) [] [], .fn (.func 113) [] [], .fn (.func 114) [] [], .fn (.func 115) [] [], .fn (.func 116) [] [], .fn (.func 117) [] []], H) :=
  ans93.call (ext_93 he) (pure_93 _ _ _) rfl H
set_option maxHeartbeats 1000000 in
theorem ans80 {e : Exts} (he : Quiet e) (t : Txt) (ht : Fits t) (ch : AV) (xs : List AV) (hch : SlOf 2 xs ch) (hall : All2 ChapA t xs) (l : List Rd) (x : AV) (hx : RdsA l x) (hn : l.length < 2 ^ 63) (hrd : ∀ r ∈ l, RdF r) : Ans (Cx e) 80 [.agg [ch], x] (.v (.bool (l.all (fitOne t)))) := by
  have hx : SlOf 5 (l.map rdV) x := hx
  unfold Ans
  rw [fn_step (fn_80 e) (show Tryz.f80.body = some _ from rfl)]
  simp -implicitDefEqProofs only [Tryz.f80, go_sem, ↓reduceIte, Int.reduceEq, Int.reduceLT, Int.reduceLE, List.reduceReplicate, intA, setT_nil, setT_cons, hch.cells, hch.flat, hch.bound, call93 he, hx.len, List.length_map]
  refine Lp_rule (P := fun μ a H => ∃ j, j + μ = l.length ∧ a = ⟨44, [(0, .agg [ch]), (1, x), (2, .ptr 0 0 0), (4, .v (.bool false)), (5, .ptr 1 0 0), (10, x), (11, intA l.length), (12, intA j)], []⟩ ∧ H = ⟨[some (.cells 0 0 79 1 false [ch]), some (.cells 0 0 148 1 false [.v .nilFunc, .v .nilFunc, .fn (.func 112) [] [], .fn (.func 113) [] [], .fn (.func 114) [] [], .fn (.func 115) [] [], .fn (.func 116) [] [], .fn (.func 117) [] []])], 0⟩ ∧ l.all (fitOne t) = (l.drop j).all (fitOne t)) ?_ l.length _ _ ⟨0, by omega, rfl, rfl, by simp⟩
  rintro μ _ _ ⟨j, hj, rfl, rfl, ho⟩
  cases μ with
  | zero =>
    obtain rfl : j = l.length := by omega
    rw [List.drop_of_length_le (Nat.le_refl _)] at ho
    simp -implicitDefEqProofs only [go_sem, ↓reduceIte, Int.reduceEq, Int.reduceLT, Int.reduceLE, List.reduceReplicate, intA, setT_nil, setT_cons, Int.lt_irrefl]
    rw [ho]; rfl
  | succ μ =>
    obtain ⟨r, hr⟩ := at_lt l j (by omega)
    have hrf := hrd r (List.mem_of_getElem? hr)
    have hlt : (j : Int) < (l.length : Int) := by omega
    have hw := wrap_succ j (by omega)
    have hir := hx.idx (rds_get hr)
    unfold rdV at hir
    rw [drop_all (fitOne t) l j r hr] at ho
    obtain ⟨y, hy, hc45, -⟩ := call45 he t ht ch xs hch hall r.ch r.ln r.wd
    have hcv := conv_u8 r.kind hrf.lo hrf.hi
    have h69 := callI69 he 1 3 r.kind
    cases hL : lineAt t r.ch r.ln with
    | none =>
      have hfo : fitOne t r = false := by unfold fitOne; rw [hL]
      rw [hfo, Bool.false_and] at ho
      rw [hL] at hy
      simp only [LineO] at hy
      subst hy
      simp -implicitDefEqProofs only [go_sem, ↓reduceIte, Int.reduceEq, Int.reduceLT, Int.reduceLE, List.reduceReplicate, intA, setT_nil, setT_cons, hlt, hw, hir, hch.cells, hc45]
      refine wp_drawX [([], [], false), ([], [], false), ([], [], false), ([], [], false), ([], [], false), ([], [], false), ([], [], false), ([], [], false), ([], [], false), ([], [8], false), ([], [], false), ([], [], false), ([], [], false), ([], [], false), ([], [8], false), ([], [], false), ([], [], false), ([], [8], false), ([], [], false), ([14, 17], [8], false), ([], [8], false), ([], [], false), ([], [], false)] (by kernel_rfl) (by kernel_rfl) ?_
      simp -implicitDefEqProofs only [go_sem, ↓reduceIte, Int.reduceEq, Int.reduceLT, Int.reduceLE, List.reduceReplicate, intA, setT_nil, setT_cons, slLen_none, ho]
    | some ln =>
      rw [hL] at hy
      have hy : SlOf 1 (strs ln) y := hy
      obtain ⟨cp, hcm, hlm⟩ := lineAt_mem hL
      have hll := ht.words cp hcm ln hlm
      cases hz : decide (ln.length = 0)
      · have hz' : decide ((ln.length : Int) = 0) = false := by simpa using hz
        cases hk : withinB 1 3 [r.kind]
        · have hfo : fitOne t r = false := by unfold fitOne; rw [hL]; simp only [hz, hk, Bool.and_false, Bool.false_and]
          rw [hfo, Bool.false_and] at ho
          rw [hk] at h69
          simp -implicitDefEqProofs only [go_sem, ↓reduceIte, Int.reduceEq, Int.reduceLT, Int.reduceLE, List.reduceReplicate, intA, setT_nil, setT_cons, hlt, hw, hir, hch.cells, hy.cells, hy.flat, hc45]
          refine wp_drawX [([], [], false), ([], [], false), ([], [], false), ([], [], false), ([], [], false), ([], [], false), ([], [], false), ([], [], false), ([], [], false), ([], [8], false), ([], [], false), ([], [], false), ([], [], false), ([], [], false), ([], [8], false), ([], [], false), ([], [], false), ([], [8], false), ([], [], false), ([14, 17], [8], false), ([], [8], false), ([], [], false), ([], [], false)] (by kernel_rfl) (by kernel_rfl) ?_
          simp -implicitDefEqProofs only [go_sem, ↓reduceIte, Int.reduceEq, Int.reduceLT, Int.reduceLE, List.reduceReplicate, intA, setT_nil, setT_cons, hy.len, hy.lenI, hy.flat, strs_len, hz', hcv, h69, ho]
        · rw [hk] at h69
          have hfo : fitOne t r = (if r.kind = 1 then fits1 ln r else if r.kind = 2 then fits2 ln r else fits3 ln r) := by unfold fitOne; rw [hL]; simp only [hz, hk, Bool.not_false, Bool.true_and]
          have hk3 : r.kind = 1 ∨ r.kind = 2 ∨ r.kind = 3 := by
            simp only [withinB, List.all_cons, List.all_nil, Bool.and_true, Bool.and_eq_true, decide_eq_true_eq] at hk; omega
          rcases hk3 with hk1 | hk1 | hk1
          · have hfn := callI112 he ln y hy hll r
            unfold rdV at hfn
            rw [hk1] at hir hcv h69 hfn
            rw [if_pos hk1] at hfo
            rw [hfo] at ho
            cases hf : fits1 ln r
            · rw [hf] at hfn ho
              rw [Bool.false_and] at ho
              simp -implicitDefEqProofs only [go_sem, ↓reduceIte, Int.reduceEq, Int.reduceLT, Int.reduceLE, List.reduceReplicate, intA, setT_nil, setT_cons, hlt, hw, hir, hch.cells, hy.cells, hy.flat, hc45]
              refine wp_drawX [([], [], false), ([], [], false), ([], [], false), ([], [], false), ([], [], false), ([], [], false), ([], [], false), ([], [], false), ([], [], false), ([], [8], false), ([], [], false), ([], [], false), ([], [], false), ([], [], false), ([], [8], false), ([], [], false), ([], [], false), ([], [8], false), ([], [], false), ([14, 17], [8], false), ([], [8], false), ([], [], false), ([], [], false)] (by kernel_rfl) (by kernel_rfl) ?_
              simp -implicitDefEqProofs only [go_sem, ↓reduceIte, Int.reduceEq, Int.reduceLT, Int.reduceLE, List.reduceReplicate, intA, setT_nil, setT_cons, hy.len, hy.lenI, hy.flat, strs_len, hz', hcv, h69, hfn, ho, cast4, Int.reduceToNat]
            · rw [hf] at hfn ho
              rw [Bool.true_and] at ho
              simp -implicitDefEqProofs only [go_sem, ↓reduceIte, Int.reduceEq, Int.reduceLT, Int.reduceLE, List.reduceReplicate, intA, setT_nil, setT_cons, hlt, hw, hir, hch.cells, hy.cells, hy.flat, hc45]
              refine wp_drawX [([], [], false), ([], [], false), ([], [], false), ([], [], false), ([], [], false), ([], [], false), ([], [], false), ([], [], false), ([], [], false), ([], [8], false), ([], [], false), ([], [], false), ([], [], false), ([], [], false), ([], [8], false), ([], [], false), ([], [], false), ([], [8], false), ([], [], false), ([14, 17], [8], false), ([], [8], false), ([], [], false), ([], [], false)] (by kernel_rfl) (by kernel_rfl) ?_
              simp -implicitDefEqProofs only [go_sem, ↓reduceIte, Int.reduceEq, Int.reduceLT, Int.reduceLE, List.reduceReplicate, intA, setT_nil, setT_cons, hy.len, hy.lenI, hy.flat, strs_len, hz', hcv, h69, hfn, cast4, Int.reduceToNat, trim_at, hx.bound, hch.bound, hw]
              exact ⟨μ, by omega, j + 1, by omega, rfl, rfl, ho⟩
          · have hfn := callI114 he ln y hy hll r hrf.word
            unfold rdV at hfn
            rw [hk1] at hir hcv h69 hfn
            rw [if_neg (by omega), if_pos hk1] at hfo
            rw [hfo] at ho
            cases hf : fits2 ln r
            · rw [hf] at hfn ho
              rw [Bool.false_and] at ho
              simp -implicitDefEqProofs only [go_sem, ↓reduceIte, Int.reduceEq, Int.reduceLT, Int.reduceLE, List.reduceReplicate, intA, setT_nil, setT_cons, hlt, hw, hir, hch.cells, hy.cells, hy.flat, hc45]
              refine wp_drawX [([], [], false), ([], [], false), ([], [], false), ([], [], false), ([], [], false), ([], [], false), ([], [], false), ([], [], false), ([], [], false), ([], [8], false), ([], [], false), ([], [], false), ([], [], false), ([], [], false), ([], [8], false), ([], [], false), ([], [], false), ([], [8], false), ([], [], false), ([14, 17], [8], false), ([], [8], false), ([], [], false), ([], [], false)] (by kernel_rfl) (by kernel_rfl) ?_
              simp -implicitDefEqProofs only [go_sem, ↓reduceIte, Int.reduceEq, Int.reduceLT, Int.reduceLE, List.reduceReplicate, intA, setT_nil, setT_cons, hy.len, hy.lenI, hy.flat, strs_len, hz', hcv, h69, hfn, ho, cast4, Int.reduceToNat]
            · rw [hf] at hfn ho
              rw [Bool.true_and] at ho
              simp -implicitDefEqProofs only [go_sem, ↓reduceIte, Int.reduceEq, Int.reduceLT, Int.reduceLE, List.reduceReplicate, intA, setT_nil, setT_cons, hlt, hw, hir, hch.cells, hy.cells, hy.flat, hc45]
              refine wp_drawX [([], [], false), ([], [], false), ([], [], false), ([], [], false), ([], [], false), ([], [], false), ([], [], false), ([], [], false), ([], [], false), ([], [8], false), ([], [], false), ([], [], false), ([], [], false), ([], [], false), ([], [8], false), ([], [], false), ([], [], false), ([], [8], false), ([], [], false), ([14, 17], [8], false), ([], [8], false), ([], [], false), ([], [], false)] (by kernel_rfl) (by kernel_rfl) ?_
              simp -implicitDefEqProofs only [go_sem, ↓reduceIte, Int.reduceEq, Int.reduceLT, Int.reduceLE, List.reduceReplicate, intA, setT_nil, setT_cons, hy.len, hy.lenI, hy.flat, strs_len, hz', hcv, h69, hfn, cast4, Int.reduceToNat, trim_at, hx.bound, hch.bound, hw]
              exact ⟨μ, by omega, j + 1, by omega, rfl, rfl, ho⟩
          · have hfn := callI116 he ln y hy hll r hrf.word
            unfold rdV at hfn
            rw [hk1] at hir hcv h69 hfn
            rw [if_neg (by omega), if_neg (by omega)] at hfo
            rw [hfo] at ho
            cases hf : fits3 ln r
            · rw [hf] at hfn ho
              rw [Bool.false_and] at ho
              simp -implicitDefEqProofs only [go_sem, ↓reduceIte, Int.reduceEq, Int.reduceLT, Int.reduceLE, List.reduceReplicate, intA, setT_nil, setT_cons, hlt, hw, hir, hch.cells, hy.cells, hy.flat, hc45]
              refine wp_drawX [([], [], false), ([], [], false), ([], [], false), ([], [], false), ([], [], false), ([], [], false), ([], [], false), ([], [], false), ([], [], false), ([], [8], false), ([], [], false), ([], [], false), ([], [], false), ([], [], false), ([], [8], false), ([], [], false), ([], [], false), ([], [8], false), ([], [], false), ([14, 17], [8], false), ([], [8], false), ([], [], false), ([], [], false)] (by kernel_rfl) (by kernel_rfl) ?_
              simp -implicitDefEqProofs only [go_sem, ↓reduceIte, Int.reduceEq, Int.reduceLT, Int.reduceLE, List.reduceReplicate, intA, setT_nil, setT_cons, hy.len, hy.lenI, hy.flat, strs_len, hz', hcv, h69, hfn, ho, cast4, Int.reduceToNat]
            · rw [hf] at hfn ho
              rw [Bool.true_and] at ho
              simp -implicitDefEqProofs only [go_sem, ↓reduceIte, Int.reduceEq, Int.reduceLT, Int.reduceLE, List.reduceReplicate, intA, setT_nil, setT_cons, hlt, hw, hir, hch.cells, hy.cells, hy.flat, hc45]
              refine wp_drawX [([], [], false), ([], [], false), ([], [], false), ([], [], false), ([], [], false), ([], [], false), ([], [], false), ([], [], false), ([], [], false), ([], [8], false), ([], [], false), ([], [], false), ([], [], false), ([], [], false), ([], [8], false), ([], [], false), ([], [], false), ([], [8], false), ([], [], false), ([14, 17], [8], false), ([], [8], false), ([], [], false), ([], [], false)] (by kernel_rfl) (by kernel_rfl) ?_
              simp -implicitDefEqProofs only [go_sem, ↓reduceIte, Int.reduceEq, Int.reduceLT, Int.reduceLE, List.reduceReplicate, intA, setT_nil, setT_cons, hy.len, hy.lenI, hy.flat, strs_len, hz', hcv, h69, hfn, cast4, Int.reduceToNat, trim_at, hx.bound, hch.bound, hw]
              exact ⟨μ, by omega, j + 1, by omega, rfl, rfl, ho⟩
      · have hz' : decide ((ln.length : Int) = 0) = true := by simpa using hz
        have hfo : fitOne t r = false := by unfold fitOne; rw [hL]; simp only [hz, Bool.not_true, Bool.false_and]
        rw [hfo, Bool.false_and] at ho
        simp -implicitDefEqProofs only [go_sem, ↓reduceIte, Int.reduceEq, Int.reduceLT, Int.reduceLE, List.reduceReplicate, intA, setT_nil, setT_cons, hlt, hw, hir, hch.cells, hy.cells, hy.flat, hc45]
        refine wp_drawX [([], [], false), ([], [], false), ([], [], false), ([], [], false), ([], [], false), ([], [], false), ([], [], false), ([], [], false), ([], [], false), ([], [8], false), ([], [], false), ([], [], false), ([], [], false), ([], [], false), ([], [8], false), ([], [], false), ([], [], false), ([], [8], false), ([], [], false), ([14, 17], [8], false), ([], [8], false), ([], [], false), ([], [], false)] (by kernel_rfl) (by kernel_rfl) ?_
        simp -implicitDefEqProofs only [go_sem, ↓reduceIte, Int.reduceEq, Int.reduceLT, Int.reduceLE, List.reduceReplicate, intA, setT_nil, setT_cons, hy.len, hy.lenI, hy.flat, strs_len, hz', ho]
end Go.Ev
namespace Go.Ev
open Go.Proofs
set_option maxRecDepth 100000
set_option linter.unusedSimpArgs false
attribute [local irreducible] Wp WpS
/-! ### the readings of a line -/
def atLine (ch ln wd : Int) (r : Rd) : Bool := eqP r.ch r.ln 0 ch ln wd
def rdCells (l : List Rd) : List AV := l.flatMap fun r => (rdV r).cells
def ofV : List Rd → AV
  | [] => .v (.slice none 0 0)
  | r :: l => .vs 5 ((r :: l).map rdV) none
def Of77 (x : AV) (n : Nat) (ch ln wd : Int) (j : Nat) (f : List Rd) (a : AAct) (H : Heap) : Prop :=
  (f = [] ∧ a = ⟨31, [(0, x), (1, .agg [intA ch, intA ln, intA wd]), (3, .ptr 0 0 0), (4, .v (.slice none 0 0)), (5, .v (.slice none 0 0)), (9, x), (10, intA n), (11, intA j)], []⟩ ∧ H = ⟨[some (.cells 0 0 32 1 false [intA ch, intA ln, intA wd])], 0⟩) ∨
  ∃ c1 c2 v, f ≠ [] ∧ a = ⟨31, [(0, x), (1, .agg [intA ch, intA ln, intA wd]), (3, .ptr 0 0 0), (4, .v (.slice none 0 0)), (5, .sl 3 v 0 f.length none), (9, x), (10, intA n), (11, intA j)], []⟩ ∧ H = ⟨[some (.cells 0 0 32 1 false [intA ch, intA ln, intA wd]), some (.cells 0 0 65 1 false c1), some (.cells 0 0 32 1 false c2), some (.cells v 0 65 5 true (rdCells f))], 0⟩
theorem bound_sl (b v o n : Nat) (c : Option Nat) : bound (.sl b v o n c) = b + 1 := rfl
theorem trim_not (l : List (Option AObj)) (k n : Nat) (vs : List AV) (ms : List Nat) (h : decide (boundL vs ≤ n) = false) : (Heap.mk l k).trim n vs ms = ⟨l, k⟩ := by
  have h := of_decide_eq_false h
  unfold Heap.trim
  rw [if_neg]
  rw [Bool.and_eq_true, Bool.and_eq_true, Bool.and_eq_true, Nat.ble_eq]
  exact fun g => h g.1.1.1
theorem rdCells_cons (r : Rd) (f : List Rd) : rdCells (r :: f) = (rdV r).cells ++ rdCells f := rfl
theorem rdCells_len : ∀ f : List Rd, (rdCells f).length = f.length * 5
  | [] => rfl
  | r :: f => by rw [rdCells_cons, List.length_append, rdCells_len f, List.length_cons]; show 5 + _ = _; omega
theorem rdCells_append (f g : List Rd) : rdCells (f ++ g) = rdCells f ++ rdCells g := List.flatMap_append
theorem chunk_rds : ∀ f : List Rd, chunk 5 f.length (rdCells f) = f.map rdV
  | [] => rfl
  | r :: f => by
    rw [rdCells_cons, List.length_cons, List.map_cons, ← chunk_rds f]; rfl
theorem freeze_rds (H : Heap) (b v : Nat) (f : List Rd) (hf : f ≠ []) (hk : H.lock = 0) (hr : H.row b v = some (0, 65, 5, true, rdCells f)) : freezeV H 1000000 (.sl b v 0 f.length none) = some (ofV f) := by
  have : ofV f = .vs 5 (f.map rdV) none := by cases f with | nil => exact absurd rfl hf | cons r f => rfl
  rw [this, ← chunk_rds f]
  unfold freezeV
  simp only [hr, hk]
  rw [if_neg (by omega), if_pos ⟨by rw [rdCells_len]; omega, by omega⟩, if_pos trivial, List.drop_zero, List.take_of_length_le (by rw [rdCells_len]; omega)]
set_option maxHeartbeats 1000000 in
theorem ans77 {e : Exts} (_he : Quiet e) (l : List Rd) (x : AV) (hx : RdsA l x) (hn : l.length < 2 ^ 33) (ch ln wd : Int) : Ans (Cx e) 77 [x, .agg [intA ch, intA ln, intA wd]] (ofV (l.filter (atLine ch ln wd))) := by
  have hx : SlOf 5 (l.map rdV) x := hx
  unfold Ans
  rw [fn_step (fn_77 e) (show Tryz.f77.body = some _ from rfl)]
  simp -implicitDefEqProofs only [Tryz.f77, go_sem, ↓reduceIte, Int.reduceEq, Int.reduceLT, Int.reduceLE, List.reduceReplicate, intA, setT_nil, setT_cons, hx.len, List.length_map]
  refine Lp_rule (P := fun μ a H => ∃ j, j + μ = l.length ∧ Of77 x l.length ch ln wd j ((l.take j).filter (atLine ch ln wd)) a H) ?_ l.length _ _ ⟨0, by omega, Or.inl ⟨rfl, rfl, rfl⟩⟩
  rintro μ _ _ ⟨j, hj, ⟨hf, rfl, rfl⟩ | ⟨c1, c2, v, hf, rfl, rfl⟩⟩
  · cases μ with
    | zero =>
      obtain rfl : j = l.length := by omega
      rw [List.take_of_length_le (Nat.le_refl _)] at hf
      rw [hf]
      simp -implicitDefEqProofs only [go_sem, ↓reduceIte, Int.reduceEq, Int.reduceLT, Int.reduceLE, List.reduceReplicate, intA, setT_nil, setT_cons, Int.lt_irrefl, ofV]
    | succ μ =>
      obtain ⟨r, hr⟩ := at_lt l j (by omega)
      have hlt : (j : Int) < (l.length : Int) := by omega
      have hw := wrap_succ j (by omega)
      have hir := hx.idx (rds_get hr)
      unfold rdV at hir
      have ht : (l.take (j + 1)).filter (atLine ch ln wd) = (l.take j).filter (atLine ch ln wd) ++ [r].filter (atLine ch ln wd) := by
        rw [List.take_add_one, hr, List.filter_append]; rfl
      cases h1 : eqP r.ch r.ln 0 ch ln wd
      · simp -implicitDefEqProofs only [go_sem, ↓reduceIte, Int.reduceEq, Int.reduceLT, Int.reduceLE, List.reduceReplicate, intA, setT_nil, setT_cons, hlt, hw, hir, eq32, h1, trim_at, hx.bound]
        exact ⟨μ, by omega, j + 1, by omega, Or.inl ⟨by rw [ht, hf]; simp [atLine, h1], rfl, rfl⟩⟩
      · have hf48 : fitsA 48 1 = true := by decide
        simp -implicitDefEqProofs only [go_sem, ↓reduceIte, Int.reduceEq, Int.reduceLT, Int.reduceLE, List.reduceReplicate, intA, setT_nil, setT_cons, hlt, hw, hir, eq32, h1, trim_at, hx.bound, hf48, List.flatMap_cons, List.flatMap_nil, trim_not, bound_sl]
        exact ⟨μ, by omega, j + 1, by omega, Or.inr ⟨_, _, 0, by rw [ht, hf]; simp [atLine, h1], by rw [ht, hf]; simp [atLine, h1, intA], by rw [ht, hf]; simp [atLine, h1, intA, rdCells, rdV, AV.cells]; exact ⟨rfl, rfl⟩⟩⟩
  · cases μ with
    | zero =>
      obtain rfl : j = l.length := by omega
      rw [List.take_of_length_le (Nat.le_refl _)] at hf
      simp -implicitDefEqProofs only [go_sem, ↓reduceIte, Int.reduceEq, Int.reduceLT, Int.reduceLE, List.reduceReplicate, intA, setT_nil, setT_cons, Int.lt_irrefl]
      exact freeze_rds _ 3 v _ hf rfl (by simp [Heap.row, Heap.get])
    | succ μ =>
      obtain ⟨r, hr⟩ := at_lt l j (by omega)
      have hlt : (j : Int) < (l.length : Int) := by omega
      have hw := wrap_succ j (by omega)
      have hir := hx.idx (rds_get hr)
      unfold rdV at hir
      have ht : (l.take (j + 1)).filter (atLine ch ln wd) = (l.take j).filter (atLine ch ln wd) ++ [r].filter (atLine ch ln wd) := by
        rw [List.take_add_one, hr, List.filter_append]; rfl
      have hfl : ((l.take j).filter (atLine ch ln wd)).length ≤ l.length := Nat.le_trans (List.length_filter_le _ _) (by rw [List.length_take]; omega)
      generalize (l.take j).filter (atLine ch ln wd) = f at *
      cases h1 : eqP r.ch r.ln 0 ch ln wd
      · simp -implicitDefEqProofs only [go_sem, ↓reduceIte, Int.reduceEq, Int.reduceLT, Int.reduceLE, List.reduceReplicate, intA, setT_nil, setT_cons, hlt, hw, hir, eq32, h1, trim_at, hx.bound, bound_sl]
        exact ⟨μ, by omega, j + 1, by omega, Or.inr ⟨c1, c2, v, by rw [ht]; simp [hf], by rw [ht]; simp [atLine, h1, intA], by rw [ht]; simp [atLine, h1, intA]⟩⟩
      · simp -implicitDefEqProofs only [go_sem, ↓reduceIte, Int.reduceEq, Int.reduceLT, Int.reduceLE, List.reduceReplicate, intA, setT_nil, setT_cons, hlt, hw, hir, eq32, h1, trim_at, hx.bound, bound_sl, List.flatMap_cons, List.flatMap_nil]
        rw [appTo_own (m := 0) (e' := 65) (cs := rdCells f) (by simp [Heap.row, Heap.get]) (by rw [rdCells_len]) (Nat.zero_le _) (by unfold fitsA; exact decide_eq_true (by omega)) (by omega) (by omega)]
        simp -implicitDefEqProofs only [go_sem, ↓reduceIte, Int.reduceEq, Int.reduceLT, Int.reduceLE, List.reduceReplicate, intA, setT_nil, setT_cons, trim_at, hx.bound, bound_sl]
        exact ⟨μ, by omega, j + 1, by omega, Or.inr ⟨c1, c2, v + 1, by rw [ht]; simp [hf], by rw [ht]; simp [atLine, h1, intA], by rw [ht]; simp [atLine, h1, intA, rdCells_append, rdCells, rdV, AV.cells]⟩⟩
end Go.Ev
namespace Go.Ev
open Go.Proofs
set_option maxRecDepth 100000
set_option linter.unusedSimpArgs false
attribute [local irreducible] Wp WpS
/-! ### readers of lines -/
theorem slice_from {P : Program} {t et sz : Nat} (hu : P.underlying t = some (.slice et)) (hs : sizeT P et = some sz) {xs : List AV} {x : AV} (h : SlOf sz xs x) (j : Nat) (hj : j ≤ xs.length) : ∃ y, sliceI P t x (some (.v (.int .i64 j))) none none = some y ∧ SlOf sz (xs.drop j) y := by
  rcases h with ⟨rfl, rfl⟩ | ⟨cap, rfl⟩
  · have : j = 0 := by simpa using hj
    subst this
    refine ⟨.v (.slice none 0 0), ?_, Or.inl ⟨rfl, rfl⟩⟩
    unfold sliceI sliceA
    simp [hu, hs, boundA]
  · have h1 : (0 : Int) ≤ (j : Int) ∧ (j : Int) ≤ (xs.length : Int) := by omega
    refine ⟨.vs sz (xs.drop j) (capOf none xs.length j cap), ?_, Or.inr ⟨_, rfl⟩⟩
    unfold sliceI sliceA
    simp [hu, hs, boundA, h1]
theorem ltB_hi (N k : Nat) : ltB N (N + (k + 1)) = true := by unfold ltB; simp
/-- what is left behind: the base, and what nothing leads to -/
def rawE (H : Heap) (w : AV) (Y : Heap) : PostO := fun v H' => v = w ∧ ∃ F, H'.trim H.size [v] [] = Y.plus F
theorem callA_rawE {C : Cfg} {me f : FuncId} {d : Option Tmp} {args : List AV} {H Y : Heap} {w : AV} (hx : C.ext f = none) (hp : C.pure me f d = false) (h : Fn' C f args H (rawE H w Y)) : ∃ F, callA C (lim C) me f d args H = some (w, Y.plus F) := by
  unfold Fn' at h
  rw [bindO_iff] at h
  obtain ⟨o, h1, h2⟩ := h
  have hk : callKind C me f d args = 0 := by unfold callKind; rw [hp]; rfl
  cases o with
  | ret v H' =>
    obtain ⟨rfl, F, hF⟩ := h2
    refine ⟨F, ?_⟩
    unfold callA callB
    rw [hx]
    simp only [hk, h1, hF]
  | _ => exact h2.elim
theorem rawE_at {X Y : Heap} {N : Nat} (hN : X.size = N) (hNY : Y.size = N) (E : List (Option AObj)) (w v : AV) (h : v = w) : AtO (rawE X w Y) v (Y.plus E) := by
  refine ⟨h, ?_⟩
  subst hNY
  obtain ⟨G, hG⟩ := trim_plus (H := Y) [] E [v] [] (n := X.size) (by simp [hN])
  rw [List.nil_append] at hG
  exact ⟨_, hG⟩
theorem rawE_far {X Y : Heap} {E : List (Option AObj)} {N : Nat} (hN : X.size = N) (w v : AV) (h : v = w) (hv : N < bound v) : AtO (rawE X w Y) v (Y.plus E) := by
  refine ⟨h, E, ?_⟩
  unfold Heap.trim
  rw [if_neg]
  rw [Bool.and_eq_true, Bool.and_eq_true, Bool.and_eq_true, Nat.ble_eq]
  have : boundL [v] = bound v := by show Nat.max (bound v) 0 = _; exact Nat.max_eq_left (Nat.zero_le _)
  rw [this]
  exact fun g => by have := g.1.1.1; omega
theorem impure_95 (e : Exts) (h : FuncId) (d : Option Tmp) : (Cx e).pure h 95 d = false := by simp [Cx, pureF, impF, impC]
theorem impure_94 (e : Exts) (h : FuncId) (d : Option Tmp) : (Cx e).pure h 94 d = false := by simp [Cx, pureF, impF, impC]
set_option maxHeartbeats 1000000 in
theorem call95_all {e : Exts} (he : Quiet e) (ws : List ByteArray) (lx : AV) (hl : SlOf 1 (strs ws) lx) (k : Nat) (hk : k ≤ ws.length) (dv : AV) (hdf : dv.flat = true) (hdc : dv.cells = [dv]) :
    ∃ ly, SlOf 1 (strs (ws.drop k)) ly ∧ ∀ (X : Heap) (N : Nat), X.size = N → X.lock ≤ N → ∀ me d, ∃ F, callA (Cx e) (lim (Cx e)) me 95 d [.agg [lx, dv], intA k] X = some (.agg [ly, dv], X.plus F) := by
  obtain ⟨ly, hs, hly⟩ := slice_from und_41 size_9 hl k (by rw [strs_len]; exact hk)
  have hly : SlOf 1 (strs (ws.drop k)) ly := by unfold strs; rw [List.map_drop]; exact hly
  refine ⟨ly, hly, fun X N hN hlk me d => callA_rawE (ext_95 he) (impure_95 _ _ _) ?_⟩
  rw [fn_step (fn_95 e) (show Tryz.f95.body = some _ from rfl)]
  generalize hKK : rawE X (.agg [ly, dv]) X = KK
  rw [← plus_nil X]
  simp -implicitDefEqProofs only [Tryz.f95, go_sem, ↓reduceIte, Int.reduceEq, Int.reduceLT, Int.reduceLE, List.reduceReplicate, intA, setT_nil, setT_cons, sizeP hN, putP0 hN, putP hN, settleP0 hN, settleP hN, hl.flat, hl.bound, hdf, List.length_nil, Nat.add_zero]
  refine wp_drawX [([], [], false), ([], [], false), ([], [], false), ([], [], false), ([], [], false), ([1, 3], [], false), ([], [], false), ([], [], false)] (by kernel_rfl) (by kernel_rfl) ?_
  simp -implicitDefEqProofs only [go_sem, ↓reduceIte, Int.reduceEq, Int.reduceLT, Int.reduceLE, List.reduceReplicate, intA, setT_nil, setT_cons, sizeP hN, putP0 hN, putP hN, settleP0 hN, settleP hN, rowP0 hN, rowP hN, storeP0 hN hlk, storeP hN hlk, hl.flat, hl.bound, hdf, hs, ltB_hi, hly.cells, hly.flat, hly.bound, hdc]
  rw [← hKK]
  exact rawE_at hN hN _ _ _ rfl
end Go.Ev
namespace Go.Ev
open Go.Proofs
set_option maxRecDepth 100000
set_option linter.unusedSimpArgs false
attribute [local irreducible] Wp WpS
theorem n25 (N : Nat) : N + 2 + 5 = N + 7 := rfl
theorem n71 (N : Nat) : N + 7 + 1 = N + 8 := rfl
theorem cells_of {sz : Nat} {xs : List AV} {x : AV} (h : SlOf sz xs x) (H : Heap) : cellsFrom H sz x = some (xs.length, xs.flatMap AV.cells) := by
  rcases h with ⟨rfl, rfl⟩ | ⟨cap, rfl⟩
  · rfl
  · rw [cells_vs', if_pos rfl]
theorem SlOf.objs {sz : Nat} {xs : List AV} {x : AV} (h : SlOf sz xs x) : objsOf x = [] := by rcases h with ⟨rfl, rfl⟩ | ⟨cap, rfl⟩ <;> rfl
theorem strs_cells : ∀ vs : List ByteArray, (strs vs).flatMap AV.cells = strs vs
  | [] => rfl
  | v :: vs => by unfold strs at *; rw [List.map_cons, List.flatMap_cons]; have := strs_cells vs; unfold strs at this; rw [this]; rfl
theorem strs_flat (vs : List ByteArray) : (strs vs).all AV.flat = true := by unfold strs; rw [List.all_map]; exact List.all_eq_true.2 fun _ _ => rfl
theorem strs_bound : ∀ vs : List ByteArray, boundL (strs vs) = 0
  | [] => rfl
  | v :: vs => by show Nat.max 0 (boundL (strs vs)) = 0; rw [strs_bound vs]; rfl
theorem strs_append (a b : List ByteArray) : strs (a ++ b) = strs a ++ strs b := by unfold strs; exact List.map_append
theorem rawE_far0 {X Y : Heap} {N : Nat} (hN : X.size = N) (w v : AV) (h : v = w) (hv : N < bound v) : AtO (rawE X w Y) v Y := by
  have := rawE_far (X := X) (Y := Y) (E := []) hN w v h hv
  rwa [plus_nil] at this
set_option maxHeartbeats 1000000 in
theorem call94_nil {e : Exts} (he : Quiet e) (X : Heap) (N : Nat) (hN : X.size = N) (hlk : X.lock ≤ N) (lx : AV) (ls : List ByteArray) (hl : SlOf 1 (strs ls) lx) (vs : List ByteArray) (sx : AV) (hs : SlOf 1 (strs vs) sx) (hv : vs = []) (me : FuncId) (d : Option Tmp) :
    ∃ F, callA (Cx e) (lim (Cx e)) me 94 d [.agg [lx, (.v (.slice none 0 0))], sx] X = some (.agg [lx, (.v (.slice none 0 0))], X.plus F) := by
  refine callA_rawE (ext_94 he) (impure_94 _ _ _) ?_
  rw [fn_step (fn_94 e) (show Tryz.f94.body = some _ from rfl)]
  subst hv
  generalize hKK : rawE X (.agg [lx, (.v (.slice none 0 0))]) X = KK
  rw [← plus_nil X]
  simp -implicitDefEqProofs only [Tryz.f94, go_sem, ↓reduceIte, Int.reduceEq, Int.reduceLT, Int.reduceLE, List.reduceReplicate, intA, setT_nil, setT_cons, sizeP hN, putP0 hN, putP hN, settleP0 hN, settleP hN, hl.flat, hl.bound, List.length_nil, Nat.add_zero]
  refine wp_drawX [([], [], false), ([], [], false), ([], [], false), ([1], [], false), ([], [], false), ([1], [], false), ([], [], false), ([], [5], false)] (by kernel_rfl) (by kernel_rfl) ?_
  simp -implicitDefEqProofs only [go_sem, ↓reduceIte, Int.reduceEq, Int.reduceLT, Int.reduceLE, List.reduceReplicate, intA, setT_nil, setT_cons, sizeP hN, putP0 hN, putP hN, settleP0 hN, settleP hN, rowP0 hN, rowP hN, storeP0 hN hlk, storeP hN hlk, hl.flat, hl.bound, ltB_hi, hl.cells, hs.objs, cells_of hs, strs_cells, strs_flat, strs_bound, strs_len, List.length_nil]
  rw [← hKK]
  exact rawE_at hN hN _ _ _ rfl
set_option maxHeartbeats 1000000 in
theorem call94_new {e : Exts} (he : Quiet e) (X : Heap) (N : Nat) (hN : X.size = N) (hlk : X.lock ≤ N) (lx : AV) (ls : List ByteArray) (hl : SlOf 1 (strs ls) lx) (vs : List ByteArray) (sx : AV) (hs : SlOf 1 (strs vs) sx) (hv : vs ≠ []) (hn : vs.length < 2 ^ 33) (me : FuncId) (d : Option Tmp) :
    ∃ F, callA (Cx e) (lim (Cx e)) me 94 d [.agg [lx, (.v (.slice none 0 0))], sx] X = some (.agg [lx, .sl (N + 7) 0 0 vs.length none], (X.plus [some (.cells 0 0 151 1 false [lx, .v (.slice none 0 0)]), some (.cells 0 (N + 8) 151 1 false [lx, .sl (N + 7) 0 0 vs.length none]), none, none, none, none, none, some (.cells 0 0 9 1 true (strs vs)), none, none]).plus F) := by
  refine callA_rawE (ext_94 he) (impure_94 _ _ _) ?_
  rw [fn_step (fn_94 e) (show Tryz.f94.body = some _ from rfl)]
  have hv0 : vs.length ≠ 0 := fun h => hv (List.length_eq_zero_iff.1 h)
  have hf : fitsA 16 vs.length = true := by unfold fitsA; exact decide_eq_true (by omega)
  generalize hKK : rawE X (.agg [lx, .sl (N + 7) 0 0 vs.length none]) (X.plus [some (.cells 0 0 151 1 false [lx, .v (.slice none 0 0)]), some (.cells 0 (N + 8) 151 1 false [lx, .sl (N + 7) 0 0 vs.length none]), none, none, none, none, none, some (.cells 0 0 9 1 true (strs vs)), none, none]) = KK
  rw [← plus_nil X]
  simp -implicitDefEqProofs only [Tryz.f94, go_sem, ↓reduceIte, Int.reduceEq, Int.reduceLT, Int.reduceLE, List.reduceReplicate, intA, setT_nil, setT_cons, sizeP hN, putP0 hN, putP hN, settleP0 hN, settleP hN, hl.flat, hl.bound, List.length_nil, Nat.add_zero]
  refine wp_drawX [([], [], false), ([], [], false), ([], [], false), ([1], [], false), ([], [], false), ([1], [], false), ([], [], false), ([], [5], false)] (by kernel_rfl) (by kernel_rfl) ?_
  simp -implicitDefEqProofs only [go_sem, ↓reduceIte, Int.reduceEq, Int.reduceLT, Int.reduceLE, List.reduceReplicate, intA, setT_nil, setT_cons, sizeP hN, putP0 hN, putP hN, settleP0 hN, settleP hN, rowP0 hN, rowP hN, storeP0 hN hlk, storeP hN hlk, hl.flat, hl.bound, ltB_hi, hl.cells, hs.objs, cells_of hs, strs_cells, strs_flat, strs_bound, strs_len, hv0, hf, n25, n71, bound_sl]
  rw [← hKK]
  exact rawE_far0 hN _ _ rfl (by simp only [bound, boundL, hl.bound]; exact Nat.lt_of_lt_of_le (by omega : N < N + 7 + 1) (Nat.le_trans (Nat.le_max_left _ _) (Nat.le_max_right _ _)))
set_option maxHeartbeats 1000000 in
theorem call94_same {e : Exts} (he : Quiet e) (X : Heap) (N : Nat) (hN : X.size = N) (hlk : X.lock ≤ N) (lx : AV) (ls : List ByteArray) (hl : SlOf 1 (strs ls) lx) (vs : List ByteArray) (sx : AV) (hs : SlOf 1 (strs vs) sx) (ds : List ByteArray) (b v : Nat) (hb : b < N) (_hr : X.row b v = some (0, 9, 1, true, strs ds)) (hv : vs = []) (me : FuncId) (d : Option Tmp) :
    ∃ F, callA (Cx e) (lim (Cx e)) me 94 d [.agg [lx, (.sl b v 0 ds.length none)], sx] X = some (.agg [lx, (.sl b v 0 ds.length none)], X.plus F) := by
  refine callA_rawE (ext_94 he) (impure_94 _ _ _) ?_
  rw [fn_step (fn_94 e) (show Tryz.f94.body = some _ from rfl)]
  subst hv
  have hb1 : ltB b (N + 2) = true := by unfold ltB; simp; omega
  have hb2 : (N == b) = false := by simp; omega
  generalize hKK : rawE X (.agg [lx, (.sl b v 0 ds.length none)]) X = KK
  rw [← plus_nil X]
  simp -implicitDefEqProofs only [Tryz.f94, go_sem, ↓reduceIte, Int.reduceEq, Int.reduceLT, Int.reduceLE, List.reduceReplicate, intA, setT_nil, setT_cons, sizeP hN, putP0 hN, putP hN, settleP0 hN, settleP hN, hl.flat, hl.bound, List.length_nil, Nat.add_zero]
  refine wp_drawX [([], [], false), ([], [], false), ([], [], false), ([1], [], false), ([], [], false), ([1], [], false), ([], [], false), ([], [5], false)] (by kernel_rfl) (by kernel_rfl) ?_
  simp -implicitDefEqProofs only [go_sem, ↓reduceIte, Int.reduceEq, Int.reduceLT, Int.reduceLE, List.reduceReplicate, intA, setT_nil, setT_cons, sizeP hN, putP0 hN, putP hN, settleP0 hN, settleP hN, rowP0 hN, rowP hN, storeP0 hN hlk, storeP hN hlk, hl.flat, hl.bound, ltB_hi, hl.cells, hs.objs, cells_of hs, strs_cells, strs_flat, strs_bound, strs_len, List.length_nil, hb1, hb2, appTo_none]
  rw [← hKK]
  exact rawE_at hN hN _ _ _ rfl
set_option maxHeartbeats 1000000 in
theorem call94_more {e : Exts} (he : Quiet e) (X : Heap) (N : Nat) (hN : X.size = N) (hlk : X.lock ≤ N) (lx : AV) (ls : List ByteArray) (hl : SlOf 1 (strs ls) lx) (vs : List ByteArray) (sx : AV) (hs : SlOf 1 (strs vs) sx) (ds : List ByteArray) (b v : Nat) (hb : b < N) (hr : X.row b v = some (0, 9, 1, true, strs ds)) (hk0 : X.lock ≤ b) (hv : vs ≠ []) (hn : ds.length + vs.length < 2 ^ 33) (me : FuncId) (d : Option Tmp) :
    ∃ F, callA (Cx e) (lim (Cx e)) me 94 d [.agg [lx, (.sl b v 0 ds.length none)], sx] X = some (.agg [lx, (.sl b (v + 1) 0 (ds.length + vs.length) none)], (X.put b (.cells (v + 1) 0 9 1 true (strs (ds ++ vs)))).plus F) := by
  refine callA_rawE (ext_94 he) (impure_94 _ _ _) ?_
  rw [fn_step (fn_94 e) (show Tryz.f94.body = some _ from rfl)]
  have hv0 : 0 < vs.length := Nat.pos_of_ne_zero fun h => hv (List.length_eq_zero_iff.1 h)
  have hb1 : ltB b (N + 2) = true := by unfold ltB; simp; omega
  have hb2 : (N == b) = false := by simp; omega
  generalize hY : (X.put b (.cells (v + 1) 0 9 1 true (strs (ds ++ vs)))) = Y
  generalize hKK : rawE X (.agg [lx, (.sl b (v + 1) 0 (ds.length + vs.length) none)]) Y = KK
  rw [← plus_nil X]
  simp -implicitDefEqProofs only [Tryz.f94, go_sem, ↓reduceIte, Int.reduceEq, Int.reduceLT, Int.reduceLE, List.reduceReplicate, intA, setT_nil, setT_cons, sizeP hN, putP0 hN, putP hN, settleP0 hN, settleP hN, hl.flat, hl.bound, List.length_nil, Nat.add_zero]
  refine wp_drawX [([], [], false), ([], [], false), ([], [], false), ([1], [], false), ([], [], false), ([1], [], false), ([], [], false), ([], [5], false)] (by kernel_rfl) (by kernel_rfl) ?_
  simp -implicitDefEqProofs only [go_sem, ↓reduceIte, Int.reduceEq, Int.reduceLT, Int.reduceLE, List.reduceReplicate, intA, setT_nil, setT_cons, sizeP hN, putP0 hN, putP hN, settleP0 hN, settleP hN, rowP0 hN, rowP hN, storeP0 hN hlk, storeP hN hlk, hl.flat, hl.bound, ltB_hi, hl.cells, hs.objs, cells_of hs, strs_cells, strs_flat, strs_bound, strs_len, hb1, hb2]
  have hrp : ∀ E, (X.plus E).row b v = some (0, 9, 1, true, strs ds) := fun E => by rw [rowLo (by omega)]; exact hr
  rw [appTo_own (m := 0) (e' := 9) (cs := strs ds) (hrp _) (by rw [strs_len, Nat.mul_one]) hk0 (by unfold fitsA; exact decide_eq_true (by omega)) hv0 (by omega)]
  rw [putLo (by omega), strs_bound, ← strs_append]
  have hNY : (X.put b (.cells (v + 1) (Nat.max 0 0) 9 1 true (strs (ds ++ vs)))).size = N := by rw [put_sizeI _ (by omega)]; exact hN
  have hlY : (X.put b (.cells (v + 1) (Nat.max 0 0) 9 1 true (strs (ds ++ vs)))).lock ≤ N := hlk
  change X.put b (.cells (v + 1) (Nat.max 0 0) 9 1 true (strs (ds ++ vs))) = _ at hY
  rw [hY] at hNY hlY ⊢
  simp -implicitDefEqProofs only [go_sem, ↓reduceIte, Int.reduceEq, Int.reduceLT, Int.reduceLE, List.reduceReplicate, intA, setT_nil, setT_cons, sizeP hNY, putP0 hNY, putP hNY, settleP0 hNY, settleP hNY, rowP0 hNY, rowP hNY, storeP0 hNY hlY, storeP hNY hlY, hl.flat, hl.bound, bound_sl]
  rw [← hKK]
  exact rawE_at hN hNY _ _ _ rfl
end Go.Ev
namespace Go.Ev
open Go.Proofs
set_option maxRecDepth 100000
set_option linter.unusedSimpArgs false
attribute [local irreducible] Wp WpS
def rowOf : AV → Option Nat
  | .sl b _ _ _ _ => some b
  | _ => none
/-- what was read, and where it lies -/
def DoneR (X : Heap) (ds : List ByteArray) (dv : AV) : Prop :=
  (ds = [] ∧ dv = .v (.slice none 0 0)) ∨ ∃ b v, X.lock ≤ b ∧ b < X.size ∧ dv = .sl b v 0 ds.length none ∧ X.row b v = some (0, 9, 1, true, strs ds)
structure Turned (X Y : Heap) (dv dv' : AV) (ds' : List ByteArray) : Prop where
  lock : Y.lock = X.lock
  size : X.size ≤ Y.size
  same : ∀ i, i < X.size → rowOf dv ≠ some i → Y.get i = X.get i
  done : DoneR Y ds' dv'
  row : rowOf dv' = rowOf dv ∨ ∃ i, rowOf dv' = some i ∧ X.size ≤ i
theorem row_put_same {H : Heap} {b v m e sz : Nat} {g : Bool} {cs : List AV} (hb : b < H.size) : (H.put b (.cells v m e sz g cs)).row b v = some (m, e, sz, g, cs) := by
  unfold Heap.row
  rw [put_get_eq _ (by omega)]
  simp
theorem call94_any {e : Exts} (he : Quiet e) (X : Heap) (hlk : X.lock ≤ X.size) (lx : AV) (ls : List ByteArray) (hl : SlOf 1 (strs ls) lx) (ds : List ByteArray) (dv : AV) (hd : DoneR X ds dv) (vs : List ByteArray) (sx : AV) (hs : SlOf 1 (strs vs) sx) (hn : ds.length + vs.length < 2 ^ 33) (me : FuncId) (d : Option Tmp) :
    ∃ dv' Y, callA (Cx e) (lim (Cx e)) me 94 d [.agg [lx, dv], sx] X = some (.agg [lx, dv'], Y) ∧ Turned X Y dv dv' (ds ++ vs) := by
  rcases hd with ⟨rfl, rfl⟩ | ⟨b, v, hb0, hb, rfl, hr⟩
  · by_cases hv : vs = []
    · obtain ⟨F, hF⟩ := call94_nil he X _ rfl hlk lx ls hl vs sx hs hv me d
      refine ⟨_, _, hF, rfl, by rw [plus_size]; omega, fun i hi _ => plus_get F hi, Or.inl ⟨by rw [hv]; rfl, rfl⟩, Or.inl rfl⟩
    · obtain ⟨F, hF⟩ := call94_new he X _ rfl hlk lx ls hl vs sx hs hv (by simpa using hn) me d
      rw [plus_plus] at hF
      refine ⟨_, _, hF, rfl, by rw [plus_size]; omega, fun i hi _ => plus_get _ hi, Or.inr ⟨X.size + 7, 0, by show X.lock ≤ _; omega, by rw [plus_size]; simp, rfl, ?_⟩, Or.inr ⟨X.size + 7, rfl, by omega⟩⟩
      rw [rowP rfl]; rfl
  · by_cases hv : vs = []
    · obtain ⟨F, hF⟩ := call94_same he X _ rfl hlk lx ls hl vs sx hs ds b v hb hr hv me d
      refine ⟨_, _, hF, rfl, by rw [plus_size]; omega, fun i hi _ => plus_get F hi, Or.inr ⟨b, v, hb0, by rw [plus_size]; omega, by rw [hv, List.append_nil], ?_⟩, Or.inl rfl⟩
      rw [rowLo hb, hr, hv, List.append_nil]
    · obtain ⟨F, hF⟩ := call94_more he X _ rfl hlk lx ls hl vs sx hs ds b v hb hr hb0 hv hn me d
      have hsz := put_sizeI (H := X) (b := b) (.cells (v + 1) 0 9 1 true (strs (ds ++ vs))) hb
      refine ⟨_, _, hF, rfl, by rw [plus_size, hsz]; omega, fun i hi hne => ?_, Or.inr ⟨b, v + 1, hb0, by rw [plus_size, hsz]; omega, by rw [List.length_append], ?_⟩, Or.inl rfl⟩
      · rw [plus_get F (by rw [hsz]; exact hi)]
        exact put_get_ne _ (by omega) fun h => hne (by rw [h]; rfl)
      · rw [rowLo (by rw [hsz]; exact hb)]
        exact row_put_same hb
end Go.Ev
namespace Go.Ev
open Go.Proofs
set_option maxRecDepth 100000
set_option linter.unusedSimpArgs false
attribute [local irreducible] Wp WpS
theorem takeH_get {n i : Nat} {H : Heap} (hi : i < n) : ({ H with objs := H.objs.take n } : Heap).get i = H.get i := by
  unfold Heap.get
  simp only
  rw [List.getElem?_take, if_pos hi]
theorem settle_lo {n i : Nat} {H : Heap} (hi : i < n) : (settleH n H).get i = H.get i := by
  unfold settleH
  split
  · exact takeH_get hi
  · rfl
theorem settle_some {n i : Nat} {H : Heap} {o : AObj} (h : H.get i = some o) : (settleH n H).get i = some o := by
  unfold settleH
  split
  · rename_i ha
    by_cases hi : i < n
    · rw [takeH_get hi]; exact h
    · exfalso
      unfold Heap.get at h
      have h2 : (H.objs.drop n)[i - n]? = some (some o) := by
        rw [List.getElem?_drop, show n + (i - n) = i by omega]
        cases hq : H.objs[i]? with
        | none => rw [hq] at h; exact nomatch h
        | some z => rw [hq] at h; simp only [Option.join] at h; rw [show z = some o from h]
      have := List.all_eq_true.1 ha _ (List.mem_of_getElem? h2)
      exact nomatch this
  · exact h
theorem settle_size' {n : Nat} {H : Heap} (h : n ≤ H.size) : n ≤ (settleH n H).size := by
  unfold settleH
  split
  · unfold Heap.size at *; simp only [List.length_take]; omega
  · exact h
theorem settle_lock {n : Nat} {H : Heap} : (settleH n H).lock = H.lock := by unfold settleH; split <;> rfl
theorem row_of_get {H : Heap} {b v m e sz : Nat} {g : Bool} {cs : List AV} (h : H.row b v = some (m, e, sz, g, cs)) : H.get b = some (.cells v m e sz g cs) := by
  unfold Heap.row at h
  split at h
  · rename_i hq; split at h
    · rename_i hv; subst hv; simp only [Option.some.injEq, Prod.mk.injEq] at h; obtain ⟨rfl, rfl, rfl, rfl, rfl⟩ := h; exact hq
    · exact nomatch h
  · exact nomatch h
theorem get_row {H : Heap} {b v m e sz : Nat} {g : Bool} {cs : List AV} (h : H.get b = some (.cells v m e sz g cs)) : H.row b v = some (m, e, sz, g, cs) := by
  unfold Heap.row; rw [h]; simp
theorem get_size {H : Heap} {b : Nat} {o : AObj} (h : H.get b = some o) : b < H.size := by
  unfold Heap.get at h
  unfold Heap.size
  cases hq : H.objs[b]? with
  | none => rw [hq] at h; exact nomatch h
  | some z => exact (List.getElem?_eq_some_iff.1 hq).1
/-- what was read stays where it lies when another object is laid -/
theorem DoneR.put {X : Heap} {ds : List ByteArray} {dv : AV} (h : DoneR X ds dv) {i : Nat} (o : AObj) (hi : i < X.size) (hne : rowOf dv ≠ some i) : DoneR (X.put i o) ds dv := by
  rcases h with h | ⟨b, v, h1, h2, rfl, h4⟩
  · exact Or.inl h
  · refine Or.inr ⟨b, v, h1, by rw [put_sizeI _ hi]; exact h2, rfl, get_row ?_⟩
    rw [put_get_ne _ (by omega) (fun h => hne (by rw [← h]; rfl))]
    exact row_of_get h4
theorem DoneR.settle {X : Heap} {ds : List ByteArray} {dv : AV} (h : DoneR X ds dv) (n : Nat) : DoneR (settleH n X) ds dv := by
  rcases h with h | ⟨b, v, h1, h2, rfl, h4⟩
  · exact Or.inl h
  · have := settle_some (n := n) (row_of_get h4)
    exact Or.inr ⟨b, v, by rw [settle_lock]; exact h1, get_size this, rfl, get_row this⟩
theorem DoneR.trim {X : Heap} {ds : List ByteArray} {dv : AV} (h : DoneR X ds dv) (n : Nat) (lx : AV) : DoneR (X.trim n [.agg [lx, dv]] []) ds dv := by
  rcases h with h | ⟨b, v, h1, h2, rfl, h4⟩
  · exact Or.inl h
  · unfold Heap.trim
    split
    · rename_i hq
      rw [Bool.and_eq_true, Bool.and_eq_true, Bool.and_eq_true, Nat.ble_eq] at hq
      have hb : b < n := by
        have h5 := hq.1.1.1
        have : b + 1 ≤ boundL [.agg [lx, .sl b v 0 ds.length none]] := by
          simp only [boundL, bound]
          exact Nat.le_trans (Nat.le_trans (Nat.le_max_left _ _) (Nat.le_max_right _ _)) (Nat.le_max_left _ _)
        omega
      have hg := (takeH_get (H := X) hb).trans (row_of_get h4)
      exact Or.inr ⟨b, v, h1, get_size hg, rfl, get_row hg⟩
    · exact Or.inr ⟨b, v, h1, h2, rfl, h4⟩
theorem trim_lo {n i : Nat} {H : Heap} {vs : List AV} {ms : List Nat} (hi : i < n) : (H.trim n vs ms).get i = H.get i := by
  unfold Heap.trim
  split
  · exact takeH_get hi
  · rfl
theorem trim_size' {n : Nat} {H : Heap} {vs : List AV} {ms : List Nat} (h : n ≤ H.size) : n ≤ (H.trim n vs ms).size := by
  unfold Heap.trim
  split
  · unfold Heap.size at *; simp only [List.length_take]; omega
  · exact h
theorem trim_lock {n : Nat} {H : Heap} {vs : List AV} {ms : List Nat} : (H.trim n vs ms).lock = H.lock := by unfold Heap.trim; split <;> rfl
end Go.Ev
namespace Go.Ev
open Go.Proofs
set_option maxRecDepth 100000
set_option linter.unusedSimpArgs false
attribute [local irreducible] Wp WpS
theorem cast1 : ((1 : Nat) : Int) = 1 := rfl
theorem impure_113 (e : Exts) (h : FuncId) (d : Option Tmp) : (Cx e).pure h 113 d = false := by simp [Cx, pureF, impF, impC]
theorem impure_115 (e : Exts) (h : FuncId) (d : Option Tmp) : (Cx e).pure h 115 d = false := by simp [Cx, pureF, impF, impC]
theorem impure_117 (e : Exts) (h : FuncId) (d : Option Tmp) : (Cx e).pure h 117 d = false := by simp [Cx, pureF, impF, impC]
def rawT (H : Heap) (w : AV) (Q : Heap → Prop) : PostO := fun v H' => v = w ∧ Q (H'.trim H.size [v] [])
theorem callA_rawT {C : Cfg} {me f : FuncId} {d : Option Tmp} {args : List AV} {H : Heap} {w : AV} {Q : Heap → Prop} (hx : C.ext f = none) (hp : C.pure me f d = false) (h : Fn' C f args H (rawT H w Q)) : ∃ Y, callA C (lim C) me f d args H = some (w, Y) ∧ Q Y := by
  unfold Fn' at h
  rw [bindO_iff] at h
  obtain ⟨o, h1, h2⟩ := h
  have hk : callKind C me f d args = 0 := by unfold callKind; rw [hp]; rfl
  cases o with
  | ret v H' =>
    obtain ⟨rfl, hQ⟩ := h2
    refine ⟨_, ?_, hQ⟩
    unfold callA callB
    rw [hx]
    simp only [hk, h1]
  | _ => exact h2.elim
theorem DoneR.plus {X : Heap} {ds : List ByteArray} {dv : AV} (h : DoneR X ds dv) (E : List (Option AObj)) : DoneR (X.plus E) ds dv := by
  rcases h with h | ⟨b, v, h1, h2, rfl, h4⟩
  · exact Or.inl h
  · exact Or.inr ⟨b, v, h1, by rw [plus_size]; omega, rfl, by rw [rowLo h2]; exact h4⟩
theorem rawT_plus {X : Heap} {N : Nat} {ds : List ByteArray} {dv ly : AV} (_hN : X.size = N) (h : DoneR X ds dv) (E : List (Option AObj)) : AtO (rawT X (.agg [ly, dv]) fun Y => Turned X Y dv dv ds) (.agg [ly, dv]) (X.plus E) := by
  refine ⟨rfl, ?_⟩
  exact ⟨trim_lock, trim_size' (by rw [plus_size]; omega), fun i hi _ => (trim_lo hi).trans (plus_get E hi), (h.plus E).trim _ _, Or.inl rfl⟩
set_option maxHeartbeats 1000000 in
theorem call113_all {e : Exts} (he : Quiet e) (lx : AV) (ls : List ByteArray) (hl : SlOf 1 (strs ls) lx) (h1 : 1 ≤ ls.length) (dv : AV) (hdf : dv.flat = true) (hdc : dv.cells = [dv]) :
    ∃ ly, SlOf 1 (strs (ls.drop 1)) ly ∧ ∀ (X : Heap) (N : Nat) (_ : X.size = N) (_ : X.lock ≤ N) (ds : List ByteArray) (_ : DoneR X ds dv) (w : ByteArray) (me : FuncId) (d : Option Tmp), ∃ Y, callA (Cx e) (lim (Cx e)) me 113 d [.agg [lx, dv], .v (.string w)] X = some (.agg [ly, dv], Y) ∧ Turned X Y dv dv ds := by
  obtain ⟨ly, hly, hcA⟩ := call95_all he ls lx hl 1 h1 dv hdf hdc
  refine ⟨ly, hly, fun X N hN hlk ds hd w me d => ?_⟩
  rcases hd with ⟨rfl, rfl⟩ | ⟨b, v, hb0, hb, rfl, hr⟩
  · have hd : DoneR X [] (.v (.slice none 0 0)) := Or.inl ⟨rfl, rfl⟩
    have hc := hcA (X.plus [some (.cells 0 0 151 1 false [lx, (.v (.slice none 0 0))]), some (.cells 0 0 151 1 false [.v (.slice none 0 0), .v (.slice none 0 0)])]) (N + 2) (by rw [plus_size, hN]; rfl) (Nat.le_trans hlk (by omega))
    refine callA_rawT (ext_113 he) (impure_113 _ _ _) ?_
    obtain ⟨F, hF⟩ := hc 113 (some 6)
    simp only [intA, cast1] at hF
    rw [fn_step (fn_113 e) (show Tryz.f113.body = some _ from rfl)]
    generalize hKK : rawT X _ _ = KK
    rw [← plus_nil X]
    cases hn : F.all Option.isNone
    · simp -implicitDefEqProofs only [Tryz.f113, go_sem, ↓reduceIte, Int.reduceEq, Int.reduceLT, Int.reduceLE, List.reduceReplicate, intA, setT_nil, setT_cons, sizeP hN, putP0 hN, putP hN, settleP0 hN, settleP hN, rowP0 hN, rowP hN, storeP0 hN hlk, storeP hN hlk, hl.flat, hl.bound, hl.cells, bound_sl, List.length_nil, Nat.add_zero, hF, hly.cells, hly.flat, hly.bound, hn]
      rw [← hKK]; exact rawT_plus hN hd _
    · simp -implicitDefEqProofs only [Tryz.f113, go_sem, ↓reduceIte, Int.reduceEq, Int.reduceLT, Int.reduceLE, List.reduceReplicate, intA, setT_nil, setT_cons, sizeP hN, putP0 hN, putP hN, settleP0 hN, settleP hN, rowP0 hN, rowP hN, storeP0 hN hlk, storeP hN hlk, hl.flat, hl.bound, hl.cells, bound_sl, List.length_nil, Nat.add_zero, hF, hly.cells, hly.flat, hly.bound, hn]
      rw [← hKK]; exact rawT_plus hN hd _
  · have hd : DoneR X ds (.sl b v 0 ds.length none) := Or.inr ⟨b, v, hb0, hb, rfl, hr⟩
    have hc := hcA (X.plus [some (.cells 0 (b + 1) 151 1 false [lx, (.sl b v 0 ds.length none)]), some (.cells 0 0 151 1 false [.v (.slice none 0 0), .v (.slice none 0 0)])]) (N + 2) (by rw [plus_size, hN]; rfl) (Nat.le_trans hlk (by omega))
    refine callA_rawT (ext_113 he) (impure_113 _ _ _) ?_
    obtain ⟨F, hF⟩ := hc 113 (some 6)
    simp only [intA, cast1] at hF
    rw [fn_step (fn_113 e) (show Tryz.f113.body = some _ from rfl)]
    generalize hKK : rawT X _ _ = KK
    rw [← plus_nil X]
    cases hn : F.all Option.isNone
    · simp -implicitDefEqProofs only [Tryz.f113, go_sem, ↓reduceIte, Int.reduceEq, Int.reduceLT, Int.reduceLE, List.reduceReplicate, intA, setT_nil, setT_cons, sizeP hN, putP0 hN, putP hN, settleP0 hN, settleP hN, rowP0 hN, rowP hN, storeP0 hN hlk, storeP hN hlk, hl.flat, hl.bound, hl.cells, bound_sl, List.length_nil, Nat.add_zero, hF, hly.cells, hly.flat, hly.bound, hn]
      rw [← hKK]; exact rawT_plus hN hd _
    · simp -implicitDefEqProofs only [Tryz.f113, go_sem, ↓reduceIte, Int.reduceEq, Int.reduceLT, Int.reduceLE, List.reduceReplicate, intA, setT_nil, setT_cons, sizeP hN, putP0 hN, putP hN, settleP0 hN, settleP hN, rowP0 hN, rowP hN, storeP0 hN hlk, storeP hN hlk, hl.flat, hl.bound, hl.cells, bound_sl, List.length_nil, Nat.add_zero, hF, hly.cells, hly.flat, hly.bound, hn]
      rw [← hKK]; exact rawT_plus hN hd _
theorem DoneR.below {X : Heap} {ds : List ByteArray} {dv : AV} (h : DoneR X ds dv) {i : Nat} (hi : X.size ≤ i) : rowOf dv ≠ some i := by
  rcases h with ⟨_, rfl⟩ | ⟨b, v, h1, h2, rfl, h4⟩
  · exact fun h => nomatch h
  · intro h; simp only [rowOf, Option.some.injEq] at h; omega
theorem Turned.off {X Y : Heap} {dv dv' : AV} {_ds ds' : List ByteArray} (ht : Turned X Y dv dv' ds') {i : Nat} (hi : i < X.size) (hne : rowOf dv ≠ some i) : rowOf dv' ≠ some i := by
  rcases ht.row with h | ⟨j, h, hj⟩
  · rw [h]; exact hne
  · rw [h]; intro h; simp only [Option.some.injEq] at h; omega
theorem turned_end {X Y : Heap} {N : Nat} (hN : X.size = N) {B : List (Option AObj)} (hB : 2 ≤ B.length) {dv dv' ly : AV} {ds ds' : List ByteArray} (hd : DoneR X ds dv) (ht : Turned (X.plus B) Y dv dv' ds') (o : AObj) :
    Turned X ((settleH (N + 2) (Y.put (N + 1) o)).trim N [.agg [ly, dv']] []) dv dv' ds' := by
  have hs : N + 2 ≤ Y.size := by have := ht.size; rw [plus_size, hN] at this; omega
  have hp : (Y.put (N + 1) o).size = Y.size := put_sizeI _ (by omega)
  have hne : rowOf dv' ≠ some (N + 1) := ht.off (_ds := ds) (by rw [plus_size, hN]; omega) (hd.below (by omega))
  refine ⟨?_, ?_, fun i hi hi2 => ?_, ((ht.done.put o (by omega) hne).settle _).trim _ _, ?_⟩
  · rw [trim_lock, settle_lock]; exact ht.lock
  · rw [hN]
    refine trim_size' ?_
    have := settle_size' (n := N + 2) (H := Y.put (N + 1) o) (by omega)
    omega
  · rw [trim_lo (by omega), settle_lo (by omega), put_get_ne _ (by omega) (by omega), ht.same i (by rw [plus_size]; omega) hi2, plus_get _ hi]
  · rcases ht.row with h | ⟨j, h, hj⟩
    · exact Or.inl h
    · exact Or.inr ⟨j, h, by rw [plus_size] at hj; omega⟩
theorem store_get {Y : Heap} {b m e sz : Nat} {g : Bool} {cs xs : List AV} (hg : Y.get b = some (.cells 0 m e sz g cs)) (hlk : Y.lock ≤ b) (hx : xs.length = cs.length) (hf : xs.all AV.flat = true) :
    storeCells Y b 0 0 xs = some (Y.put b (.cells 0 (Nat.max m (boundL xs)) e sz g xs)) := by
  have hs : splice 0 xs cs = xs := by unfold splice; rw [List.take_zero, List.nil_append, Nat.zero_add, hx, List.drop_length, List.append_nil]
  unfold storeCells
  rw [get_row hg]
  simp only [hlk, hf, hx, Nat.zero_add, Nat.le_refl, and_self, if_true, hs]
theorem DoneR.flat {X : Heap} {ds : List ByteArray} {dv : AV} (h : DoneR X ds dv) : dv.flat = true ∧ dv.cells = [dv] := by
  rcases h with ⟨_, rfl⟩ | ⟨b, v, h1, h2, rfl, h4⟩ <;> exact ⟨rfl, rfl⟩
set_option maxHeartbeats 1000000 in
theorem call115_any {e : Exts} (he : Quiet e) (X : Heap) (N : Nat) (hN : X.size = N) (hlk : X.lock ≤ N) (lx : AV) (ls : List ByteArray) (hl : SlOf 1 (strs ls) lx) (ds : List ByteArray) (hn : ds.length + 1 < 2 ^ 33) (dv : AV) (hd : DoneR X ds dv) (w : ByteArray) (me : FuncId) (d : Option Tmp) :
    ∃ dv' Y, callA (Cx e) (lim (Cx e)) me 115 d [.agg [lx, dv], .v (.string w)] X = some (.agg [lx, dv'], Y) ∧ Turned X Y dv dv' (ds ++ [w]) := by
  rcases hd with ⟨rfl, rfl⟩ | ⟨b, v, hb0, hb, rfl, hr⟩
  · have hd : DoneR X [] (.v (.slice none 0 0)) := Or.inl ⟨rfl, rfl⟩
    obtain ⟨dv', Y, hc, ht⟩ := call94_any he (X.plus [some (.cells 0 0 151 1 false [lx, (.v (.slice none 0 0))]), some (.cells 0 0 151 1 false [.v (.slice none 0 0), .v (.slice none 0 0)])]) (by rw [plus_size]; show X.lock ≤ _; omega) lx ls hl _ (.v (.slice none 0 0)) (hd.plus _) [w] (.vs 1 [.v (.string w)] (some 1)) (Or.inr ⟨_, rfl⟩) hn 115 (some 8)
    refine ⟨dv', callA_rawT (ext_115 he) (impure_115 _ _ _) ?_⟩
    have hsz : N + 2 ≤ Y.size := by have := ht.size; rw [plus_size, hN] at this; exact this
    have hg : Y.get (N + 1) = some (.cells 0 0 151 1 false [.v (.slice none 0 0), .v (.slice none 0 0)]) := by
      rw [ht.same (N + 1) (by rw [plus_size, hN]; show N + 1 < N + 2; omega) (hd.below (by omega)), plus_get_hi _ (by omega), show N + 1 - X.size = 1 by omega]; rfl
    have hfl := ht.done.flat
    have hst := store_get (xs := [lx, dv']) hg (by rw [ht.lock]; show X.lock ≤ _; omega) rfl (by simp [hl.flat, hfl.1])
    have hrow := get_row ((settle_lo (n := N + 2) (by omega)).trans (put_get_eq (H := Y) (b := N + 1) (.cells 0 (Nat.max 0 (boundL [lx, dv'])) 151 1 false [lx, dv']) (by omega)))
    have hend0 := turned_end (ly := lx) hN (by exact Nat.le_refl 2) hd ht (.cells 0 (Nat.max 0 (boundL [lx, dv'])) 151 1 false [lx, dv'])
    generalize Y.put (N + 1) (.cells 0 (Nat.max 0 (boundL [lx, dv'])) 151 1 false [lx, dv']) = Z at *
    have hend : AtO (rawT X (.agg [lx, dv']) fun Y => Turned X Y (.v (.slice none 0 0)) dv' _) (.agg [lx, dv']) (settleH (N + 2) Z) := ⟨rfl, by show Turned X (Heap.trim _ X.size _ _) _ _ _; rw [hN]; exact hend0⟩
    rw [fn_step (fn_115 e) (show Tryz.f115.body = some _ from rfl)]
    generalize hKK : rawT X _ _ = KK at *
    rw [← plus_nil X]
    simp -implicitDefEqProofs only [Tryz.f115, go_sem, ↓reduceIte, Int.reduceEq, Int.reduceLT, Int.reduceLE, List.reduceReplicate, intA, setT_nil, setT_cons, sizeP hN, putP0 hN, putP hN, settleP0 hN, settleP hN, rowP0 hN, rowP hN, storeP0 hN hlk, storeP hN hlk, hl.flat, hl.bound, hl.cells, bound_sl, List.length_nil, Nat.add_zero, hc, hfl.1, hfl.2, hst, hrow]
    exact hend
  · have hd : DoneR X ds (.sl b v 0 ds.length none) := Or.inr ⟨b, v, hb0, hb, rfl, hr⟩
    obtain ⟨dv', Y, hc, ht⟩ := call94_any he (X.plus [some (.cells 0 (b + 1) 151 1 false [lx, (.sl b v 0 ds.length none)]), some (.cells 0 0 151 1 false [.v (.slice none 0 0), .v (.slice none 0 0)])]) (by rw [plus_size]; show X.lock ≤ _; omega) lx ls hl _ (.sl b v 0 ds.length none) (hd.plus _) [w] (.vs 1 [.v (.string w)] (some 1)) (Or.inr ⟨_, rfl⟩) hn 115 (some 8)
    refine ⟨dv', callA_rawT (ext_115 he) (impure_115 _ _ _) ?_⟩
    have hsz : N + 2 ≤ Y.size := by have := ht.size; rw [plus_size, hN] at this; exact this
    have hg : Y.get (N + 1) = some (.cells 0 0 151 1 false [.v (.slice none 0 0), .v (.slice none 0 0)]) := by
      rw [ht.same (N + 1) (by rw [plus_size, hN]; show N + 1 < N + 2; omega) (hd.below (by omega)), plus_get_hi _ (by omega), show N + 1 - X.size = 1 by omega]; rfl
    have hfl := ht.done.flat
    have hst := store_get (xs := [lx, dv']) hg (by rw [ht.lock]; show X.lock ≤ _; omega) rfl (by simp [hl.flat, hfl.1])
    have hrow := get_row ((settle_lo (n := N + 2) (by omega)).trans (put_get_eq (H := Y) (b := N + 1) (.cells 0 (Nat.max 0 (boundL [lx, dv'])) 151 1 false [lx, dv']) (by omega)))
    have hend0 := turned_end (ly := lx) hN (by exact Nat.le_refl 2) hd ht (.cells 0 (Nat.max 0 (boundL [lx, dv'])) 151 1 false [lx, dv'])
    generalize Y.put (N + 1) (.cells 0 (Nat.max 0 (boundL [lx, dv'])) 151 1 false [lx, dv']) = Z at *
    have hend : AtO (rawT X (.agg [lx, dv']) fun Y => Turned X Y (.sl b v 0 ds.length none) dv' _) (.agg [lx, dv']) (settleH (N + 2) Z) := ⟨rfl, by show Turned X (Heap.trim _ X.size _ _) _ _ _; rw [hN]; exact hend0⟩
    rw [fn_step (fn_115 e) (show Tryz.f115.body = some _ from rfl)]
    generalize hKK : rawT X _ _ = KK at *
    rw [← plus_nil X]
    simp -implicitDefEqProofs only [Tryz.f115, go_sem, ↓reduceIte, Int.reduceEq, Int.reduceLT, Int.reduceLE, List.reduceReplicate, intA, setT_nil, setT_cons, sizeP hN, putP0 hN, putP hN, settleP0 hN, settleP hN, rowP0 hN, rowP hN, storeP0 hN hlk, storeP hN hlk, hl.flat, hl.bound, hl.cells, bound_sl, List.length_nil, Nat.add_zero, hc, hfl.1, hfl.2, hst, hrow]
    exact hend
set_option maxHeartbeats 1000000 in
theorem call117_all {e : Exts} (he : Quiet e) (lx : AV) (ls : List ByteArray) (hl : SlOf 1 (strs ls) lx) (h1 : 1 ≤ ls.length) (dv : AV) (hdf : dv.flat = true) (hdc : dv.cells = [dv]) :
    ∃ ly, SlOf 1 (strs (ls.drop 1)) ly ∧ ∀ (X : Heap) (N : Nat) (_ : X.size = N) (_ : X.lock ≤ N) (ds : List ByteArray) (_ : ds.length + 1 < 2 ^ 33) (_ : DoneR X ds dv) (w : ByteArray) (me : FuncId) (d : Option Tmp), ∃ dv' Y, callA (Cx e) (lim (Cx e)) me 117 d [.agg [lx, dv], .v (.string w)] X = some (.agg [ly, dv'], Y) ∧ Turned X Y dv dv' (ds ++ [w]) := by
  obtain ⟨ly, hly, hcA⟩ := call95_all he ls lx hl 1 h1 dv hdf hdc
  refine ⟨ly, hly, fun X N hN hlk ds hn hd w me d => ?_⟩
  rcases hd with ⟨rfl, rfl⟩ | ⟨b, v, hb0, hb, rfl, hr⟩
  · have hd : DoneR X [] (.v (.slice none 0 0)) := Or.inl ⟨rfl, rfl⟩
    have hc0 := hcA (X.plus [some (.cells 0 0 151 1 false [lx, (.v (.slice none 0 0))]), some (.cells 0 0 151 1 false [.v (.slice none 0 0), .v (.slice none 0 0)])]) (N + 2) (by rw [plus_size, hN]; rfl) (Nat.le_trans hlk (by omega))
    obtain ⟨F, hF⟩ := hc0 117 (some 6)
    simp only [intA, cast1] at hF
    rw [plus_plus] at hF
    have hF : callA (Cx e) (lim (Cx e)) 117 95 (some 6) [.agg [lx, (.v (.slice none 0 0))], .v (.int .i64 1)] (X.plus [some (.cells 0 0 151 1 false [lx, (.v (.slice none 0 0))]), some (.cells 0 0 151 1 false [.v (.slice none 0 0), .v (.slice none 0 0)])]) = some (.agg [ly, (.v (.slice none 0 0))], X.plus (some (.cells 0 0 151 1 false [lx, (.v (.slice none 0 0))]) :: some (.cells 0 0 151 1 false [.v (.slice none 0 0), .v (.slice none 0 0)]) :: F)) := hF
    obtain ⟨dv', Y, hc, ht⟩ := call94_any he (X.plus (some (.cells 0 0 151 1 false [lx, (.v (.slice none 0 0))]) :: some (.cells 0 0 151 1 false [.v (.slice none 0 0), .v (.slice none 0 0)]) :: F)) (by rw [plus_size]; show X.lock ≤ _; omega) ly (ls.drop 1) hly _ (.v (.slice none 0 0)) (hd.plus _) [w] (.vs 1 [.v (.string w)] (some 1)) (Or.inr ⟨_, rfl⟩) hn 117 (some 9)
    have hB2 : 2 ≤ (some (.cells 0 0 151 1 false [lx, (.v (.slice none 0 0))]) :: some (.cells 0 0 151 1 false [.v (.slice none 0 0), .v (.slice none 0 0)]) :: F).length := by simp
    refine ⟨dv', callA_rawT (ext_117 he) (impure_117 _ _ _) ?_⟩
    have hsz : N + 2 ≤ Y.size := by have := ht.size; rw [plus_size, hN] at this; omega
    have hg : Y.get (N + 1) = some (.cells 0 0 151 1 false [.v (.slice none 0 0), .v (.slice none 0 0)]) := by
      rw [ht.same (N + 1) (by rw [plus_size, hN]; omega) (hd.below (by omega)), plus_get_hi _ (by omega), show N + 1 - X.size = 1 by omega]; rfl
    have hfl := ht.done.flat
    have hst := store_get (xs := [ly, dv']) hg (by rw [ht.lock]; show X.lock ≤ _; omega) rfl (by simp [hly.flat, hfl.1])
    have hrow := get_row ((settle_lo (n := N + 2) (by omega)).trans (put_get_eq (H := Y) (b := N + 1) (.cells 0 (Nat.max 0 (boundL [ly, dv'])) 151 1 false [ly, dv']) (by omega)))
    have hend0 := turned_end (ly := ly) hN hB2 hd ht (.cells 0 (Nat.max 0 (boundL [ly, dv'])) 151 1 false [ly, dv'])
    generalize Y.put (N + 1) (.cells 0 (Nat.max 0 (boundL [ly, dv'])) 151 1 false [ly, dv']) = Z at *
    have hend : AtO (rawT X (.agg [ly, dv']) fun Y => Turned X Y (.v (.slice none 0 0)) dv' _) (.agg [ly, dv']) (settleH (N + 2) Z) := ⟨rfl, by show Turned X (Heap.trim _ X.size _ _) _ _ _; rw [hN]; exact hend0⟩
    rw [fn_step (fn_117 e) (show Tryz.f117.body = some _ from rfl)]
    generalize hKK : rawT X _ _ = KK at *
    rw [← plus_nil X]
    simp -implicitDefEqProofs only [Tryz.f117, go_sem, ↓reduceIte, Int.reduceEq, Int.reduceLT, Int.reduceLE, List.reduceReplicate, intA, setT_nil, setT_cons, sizeP hN, putP0 hN, putP hN, settleP0 hN, settleP hN, rowP0 hN, rowP hN, storeP0 hN hlk, storeP hN hlk, hl.flat, hl.bound, hl.cells, bound_sl, List.length_nil, Nat.add_zero, hF, hc, hly.flat, hly.cells, hfl.1, hfl.2, hst, hrow]
    exact hend
  · have hd : DoneR X ds (.sl b v 0 ds.length none) := Or.inr ⟨b, v, hb0, hb, rfl, hr⟩
    have hc0 := hcA (X.plus [some (.cells 0 (b + 1) 151 1 false [lx, (.sl b v 0 ds.length none)]), some (.cells 0 0 151 1 false [.v (.slice none 0 0), .v (.slice none 0 0)])]) (N + 2) (by rw [plus_size, hN]; rfl) (Nat.le_trans hlk (by omega))
    obtain ⟨F, hF⟩ := hc0 117 (some 6)
    simp only [intA, cast1] at hF
    rw [plus_plus] at hF
    have hF : callA (Cx e) (lim (Cx e)) 117 95 (some 6) [.agg [lx, (.sl b v 0 ds.length none)], .v (.int .i64 1)] (X.plus [some (.cells 0 (b + 1) 151 1 false [lx, (.sl b v 0 ds.length none)]), some (.cells 0 0 151 1 false [.v (.slice none 0 0), .v (.slice none 0 0)])]) = some (.agg [ly, (.sl b v 0 ds.length none)], X.plus (some (.cells 0 (b + 1) 151 1 false [lx, (.sl b v 0 ds.length none)]) :: some (.cells 0 0 151 1 false [.v (.slice none 0 0), .v (.slice none 0 0)]) :: F)) := hF
    obtain ⟨dv', Y, hc, ht⟩ := call94_any he (X.plus (some (.cells 0 (b + 1) 151 1 false [lx, (.sl b v 0 ds.length none)]) :: some (.cells 0 0 151 1 false [.v (.slice none 0 0), .v (.slice none 0 0)]) :: F)) (by rw [plus_size]; show X.lock ≤ _; omega) ly (ls.drop 1) hly _ (.sl b v 0 ds.length none) (hd.plus _) [w] (.vs 1 [.v (.string w)] (some 1)) (Or.inr ⟨_, rfl⟩) hn 117 (some 9)
    have hB2 : 2 ≤ (some (.cells 0 (b + 1) 151 1 false [lx, (.sl b v 0 ds.length none)]) :: some (.cells 0 0 151 1 false [.v (.slice none 0 0), .v (.slice none 0 0)]) :: F).length := by simp
    refine ⟨dv', callA_rawT (ext_117 he) (impure_117 _ _ _) ?_⟩
    have hsz : N + 2 ≤ Y.size := by have := ht.size; rw [plus_size, hN] at this; omega
    have hg : Y.get (N + 1) = some (.cells 0 0 151 1 false [.v (.slice none 0 0), .v (.slice none 0 0)]) := by
      rw [ht.same (N + 1) (by rw [plus_size, hN]; omega) (hd.below (by omega)), plus_get_hi _ (by omega), show N + 1 - X.size = 1 by omega]; rfl
    have hfl := ht.done.flat
    have hst := store_get (xs := [ly, dv']) hg (by rw [ht.lock]; show X.lock ≤ _; omega) rfl (by simp [hly.flat, hfl.1])
    have hrow := get_row ((settle_lo (n := N + 2) (by omega)).trans (put_get_eq (H := Y) (b := N + 1) (.cells 0 (Nat.max 0 (boundL [ly, dv'])) 151 1 false [ly, dv']) (by omega)))
    have hend0 := turned_end (ly := ly) hN hB2 hd ht (.cells 0 (Nat.max 0 (boundL [ly, dv'])) 151 1 false [ly, dv'])
    generalize Y.put (N + 1) (.cells 0 (Nat.max 0 (boundL [ly, dv'])) 151 1 false [ly, dv']) = Z at *
    have hend : AtO (rawT X (.agg [ly, dv']) fun Y => Turned X Y (.sl b v 0 ds.length none) dv' _) (.agg [ly, dv']) (settleH (N + 2) Z) := ⟨rfl, by show Turned X (Heap.trim _ X.size _ _) _ _ _; rw [hN]; exact hend0⟩
    rw [fn_step (fn_117 e) (show Tryz.f117.body = some _ from rfl)]
    generalize hKK : rawT X _ _ = KK at *
    rw [← plus_nil X]
    simp -implicitDefEqProofs only [Tryz.f117, go_sem, ↓reduceIte, Int.reduceEq, Int.reduceLT, Int.reduceLE, List.reduceReplicate, intA, setT_nil, setT_cons, sizeP hN, putP0 hN, putP hN, settleP0 hN, settleP hN, rowP0 hN, rowP hN, storeP0 hN hlk, storeP hN hlk, hl.flat, hl.bound, hl.cells, bound_sl, List.length_nil, Nat.add_zero, hF, hc, hly.flat, hly.cells, hfl.1, hfl.2, hst, hrow]
    exact hend
end Go.Ev
namespace Go.Ev
open Go.Proofs
set_option maxRecDepth 100000
set_option linter.unusedSimpArgs false
attribute [local irreducible] Wp WpS
theorem storeLo {X : Heap} {b m e sz : Nat} {g : Bool} {cs xs : List AV} (hb : b < X.size) (hlk : X.lock ≤ b) (hr : X.row b 0 = some (m, e, sz, g, cs)) (hx : xs.length = cs.length) (hf : xs.all AV.flat = true) (E : List (Option AObj)) :
    storeCells (X.plus E) b 0 0 xs = some ((X.put b (.cells 0 (Nat.max m (boundL xs)) e sz g xs)).plus E) := by
  have hs : splice 0 xs cs = xs := by unfold splice; rw [List.take_zero, List.nil_append, Nat.zero_add, hx, List.drop_length, List.append_nil]
  unfold storeCells
  rw [rowLo hb, hr]
  have hl : (X.plus E).lock ≤ b := hlk
  simp only [hl, hf, hx, Nat.zero_add, Nat.le_refl, and_self, if_true, hs, putLo hb, true_and]
structure Rdr (X : Heap) (N : Nat) (lv dv : AV) (left ds : List ByteArray) : Prop where
  size : X.size = N
  two : 2 ≤ N
  lock : X.lock = 0
  tab : X.row 0 0 = some (0, 148, 1, false, [.v .nilFunc, .v .nilFunc, .fn (.func 112) [] [], .fn (.func 113) [] [], .fn (.func 114) [] [], .fn (.func 115) [] [], .fn (.func 116) [] [], .fn (.func 117) [] []])
  cell : ∃ m, X.row 1 0 = some (m, 151, 1, false, [lv, dv])
  left : SlOf 1 (strs left) lv
  done : DoneR X ds dv
  off : rowOf dv ≠ some 0 ∧ rowOf dv ≠ some 1
/-- how far a line is read, and to what -/
def rdOne (ls : List ByteArray) (st : Nat × List ByteArray) (r : Rd) : Nat × List ByteArray :=
  (if r.kind = 2 then r.wd.toNat else r.wd.toNat + 1, st.2 ++ (ls.drop st.1).take (r.wd.toNat - st.1) ++ if r.kind = 1 then [] else [r.word])
structure RdOk (ls : List ByteArray) (p : Nat) (r : Rd) : Prop where
  lo : (p : Int) ≤ r.wd
  kind : r.kind = 1 ∨ r.kind = 2 ∨ r.kind = 3
  hi : r.wd + (if r.kind = 2 then 0 else 1) ≤ ls.length
def RdsOk (ls : List ByteArray) : Nat → List Rd → Prop
  | _, [] => True
  | p, r :: l => RdOk ls p r ∧ RdsOk ls (if r.kind = 2 then r.wd.toNat else r.wd.toNat + 1) l
theorem chunk_one : ∀ (l : List AV), chunk 1 l.length l = l
  | [] => rfl
  | x :: r => by
    show (if 1 = 1 then (x :: r).headD undefA else _) :: chunk 1 r.length ((x :: r).drop 1) = x :: r
    rw [if_pos rfl, List.drop_one, List.tail_cons, chunk_one r]; rfl
theorem freeze_done {H : Heap} {ds : List ByteArray} {dv : AV} (h : DoneR H ds dv) (hk : H.lock = 0) : ∃ v, freezeV { H with lock := 0 } 1000000 dv = some v ∧ SlOf 1 (strs ds) v := by
  rcases h with ⟨rfl, rfl⟩ | ⟨b, v, h1, h2, rfl, h4⟩
  · exact ⟨_, rfl, Or.inl ⟨rfl, rfl⟩⟩
  · refine ⟨.vs 1 (strs ds) none, ?_, Or.inr ⟨none, rfl⟩⟩
    have hH : ({ H with lock := 0 } : Heap) = H := by cases H; simp only at hk; subst hk; rfl
    rw [hH]
    unfold freezeV
    simp only [h4, hk]
    have hl : (strs ds).length = ds.length := strs_len ds
    rw [if_neg (by omega), if_pos ⟨by omega, by omega⟩, if_pos trivial, List.drop_zero, List.take_of_length_le (by omega)]
    have := chunk_one (strs ds)
    rw [hl] at this
    rw [this]
/-- an answer that is like this -/
def ansP (Q : AV → Prop) : PostO := fun x H => ∃ v, Q v ∧ freezeV { H with lock := 0 } 1000000 x = some v
theorem ans_of_P {C : Cfg} {f : FuncId} {args : List AV} {Q : AV → Prop} (h : Fn' C f args { objs := [], lock := 0 } (ansP Q)) : ∃ v, Q v ∧ Ans C f args v := by
  unfold Fn' at h
  rw [bindO_iff] at h
  obtain ⟨o, h1, h2⟩ := h
  cases o with
  | ret x H =>
    obtain ⟨v, hq, hf⟩ := h2
    exact ⟨v, hq, Ans.iff.2 ⟨x, H, h1, hf⟩⟩
  | _ => exact h2.elim
theorem trim_whole {H : Heap} {n : Nat} (h : H.size ≤ n) (vs : List AV) (ms : List Nat) : H.trim n vs ms = H := by
  unfold Heap.trim
  split
  · unfold Heap.size at h
    rw [List.take_of_length_le h]
  · rfl
def readLineL (ls : List ByteArray) (l : List Rd) : List ByteArray := (l.foldl (rdOne ls) (0, [])).2 ++ ls.drop (l.foldl (rdOne ls) (0, [])).1
end Go.Ev
namespace Go.Ev
open Go.Proofs
set_option maxRecDepth 100000
set_option linter.unusedSimpArgs false
attribute [local irreducible] Wp WpS
/-- a row that is none of a region's own places -/
def Clear (base top : Nat) (dv : AV) : Prop := ∀ i, rowOf dv = some i → i < base ∨ top ≤ i
theorem DoneR.agree {G G' : Heap} {base top : Nat} {ds : List ByteArray} {dv : AV} (h : DoneR G ds dv) (hc : Clear base top dv) (hl : G'.lock = G.lock) (hs : SameOut base top G G') : DoneR G' ds dv := by
  rcases h with h | ⟨b, v, h1, h2, rfl, h4⟩
  · exact Or.inl h
  · have hg : G'.get b = _ := (hs b (hc b rfl)).trans (row_of_get h4)
    exact Or.inr ⟨b, v, by rw [hl]; exact h1, get_size hg, rfl, get_row hg⟩
/-- what a region goes on with behind a call -/
structure Behind (base top : Nat) (G G' : Heap) (dv dv' : AV) (ds' : List ByteArray) : Prop where
  lock : G'.lock = G.lock
  size : G.size ≤ G'.size
  same : ∀ i, i < base → rowOf dv ≠ some i → G'.get i = G.get i
  done : DoneR G' ds' dv'
  clear : Clear base top dv'
  row : rowOf dv' = rowOf dv ∨ ∃ i, rowOf dv' = some i ∧ G.size ≤ i
theorem Behind.off {base top : Nat} {G G' : Heap} {dv dv' : AV} {ds' : List ByteArray} (h : Behind base top G G' dv dv' ds') {i : Nat} (hi : i < G.size) (hne : rowOf dv ≠ some i) : rowOf dv' ≠ some i := by
  rcases h.row with h | ⟨j, h, hj⟩
  · rw [h]; exact hne
  · rw [h]; intro h; simp only [Option.some.injEq] at h; omega
theorem effV_of {e : Exts} {me f : FuncId} {d : Option Tmp} {l : List AV} {base top : Nat} {G : Heap} {cont : AV → Heap → Prop} {ds ds' : List ByteArray} {dv : AV} (hx : (Cx e).ext f = none) (hp : (Cx e).pure me f d = false)
    (hbt : base ≤ top) (hG : top ≤ G.size) (hd : DoneR G ds dv) (hcl : Clear base top dv) (res : AV → AV)
    (hcall : ∀ X : Heap, X.lock = G.lock → X.size = G.size → DoneR X ds dv → ∃ dv' Y, callA (Cx e) (lim (Cx e)) me f d l X = some (res dv', Y) ∧ Turned X Y dv dv' ds')
    (hcont : ∀ dv' G', Behind base top G G' dv dv' ds' → cont (res dv') G') : effV (Cx e) me base top d (.fn (.func f) [] []) l G cont := by
  refine ⟨?_, fun Gh h1 h2 h3 => ?_⟩
  · unfold kind0
    have hk : callKind (Cx e) me f d ([] ++ l ++ []) = 0 := by unfold callKind; rw [hp]; rfl
    simp only [hx, hk]; rfl
  · obtain ⟨dv', Y, hc, ht⟩ := hcall Gh h1 h2 (hd.agree hcl h1 h3)
    refine ⟨res dv', Y, ?_, by have := ht.size; omega, fun G' g1 g2 g3 g4 => ?_⟩
    · unfold callX
      simp only [List.nil_append, List.append_nil]
      exact hc
    · have hcl' : Clear base top dv' := by
        rcases ht.row with h | ⟨j, h, hj⟩
        · unfold Clear; rw [h]; exact hcl
        · intro i hi; rw [h] at hi; simp only [Option.some.injEq] at hi; omega
      refine hcont dv' G' ⟨g1, by rw [g2]; have := ht.size; omega, fun i hi hne => ?_, ht.done.agree hcl' (by rw [g1, ht.lock, h1]) g3, hcl', by rw [← h2]; exact ht.row⟩
      rw [g3 i (Or.inl hi), ht.same i (by omega) hne, h3 i (Or.inl hi)]
end Go.Ev
namespace Go.Ev
open Go.Proofs
set_option maxRecDepth 100000
set_option linter.unusedSimpArgs false
attribute [local irreducible] Wp WpS
set_option maxHeartbeats 1000000 in
theorem ans76 {e : Exts} (he : Quiet e) (ls : List ByteArray) (hls : ls.length < 2 ^ 32) (x : AV) (hx : SlOf 1 (strs ls) x) (l : List Rd) (y : AV) (hy : RdsA l y) (hn : l.length < 2 ^ 32) (hok : RdsOk ls 0 l) : ∃ w, SlOf 1 (strs (readLineL ls l)) w ∧ Ans (Cx e) 76 [x, y] w := by
  refine ans_of_P ?_
  have hy : SlOf 5 (l.map rdV) y := hy
  rw [fn_step (fn_76 e) (show Tryz.f76.body = some _ from rfl)]
  simp -implicitDefEqProofs only [Tryz.f76, go_sem, ↓reduceIte, Int.reduceEq, Int.reduceLT, Int.reduceLE, List.reduceReplicate, intA, setT_nil, setT_cons, hx.cells, hx.flat, hx.bound, hy.len, List.length_map, call93 he]
  refine Lp_rule (P := fun μ a X => ∃ j p ds lv dv N, j + μ = l.length ∧ ds.length ≤ p + j ∧ (l.take j).foldl (rdOne ls) (0, []) = (p, ds) ∧ p ≤ ls.length ∧ RdsOk ls p (l.drop j) ∧ a = ⟨52, [(0, x), (1, y), (4, .v (.slice none 0 0)), (5, .ptr 0 0 0), (6, .ptr 1 0 0), (13, y), (14, intA l.length), (15, intA j)], []⟩ ∧ Rdr X N lv dv (ls.drop p) ds) ?_ l.length _ _ ?_
  · rintro μ _ X ⟨j, p, ds, lv, dv, N, hj, hdl, hfold, hpl, hrs, rfl, hX⟩
    have hN := hX.size
    have hlk : X.lock ≤ N := by rw [hX.lock]; exact Nat.zero_le _
    obtain ⟨m, hcell⟩ := hX.cell
    have hcl : ∀ E, (X.plus E).row 1 0 = some (m, 151, 1, false, [lv, dv]) := fun E => by rw [rowLo (by have := hX.two; omega)]; exact hcell
    have htb := fun E => (rowLo (X := X) (b := 0) (by have := hX.two; omega) E 0).trans hX.tab
    have hlen : ∀ H, lenA Tryz.prog H [41] [lv] = some (.v (.int .i64 ((ls.length - p : Nat) : Int))) := fun H => by
      rw [len_41, hX.left.len, strs_len, List.length_drop]
    cases μ with
    | zero =>
      have hj0 : j = l.length := by omega
      subst hj0
      have hlt : ¬ ((l.length : Int) < (l.length : Int)) := by omega
      have hT := fun vs => trim_whole (H := X) (n := N) (by omega) vs []
      have hpart : ∀ k, rowPart Tryz.prog 151 k (X.row 1 0) = rowPart Tryz.prog 151 k (some (m, 151, 1, false, [lv, dv])) := fun k => by rw [hcell]
      have hpart2 : ∀ k, rowPart Tryz.prog 41 k (X.row 1 0) = rowPart Tryz.prog 41 k (some (m, 151, 1, false, [lv, dv])) := fun k => by rw [hcell]
      have hdl2 : (ls.drop p).length ≤ ls.length - p := by rw [List.length_drop]; exact Nat.le_refl _
      obtain ⟨dv', Y, hc, ht⟩ := call94_any he X (by rw [hX.lock]; exact Nat.zero_le _) lv _ hX.left ds dv hX.done (ls.drop p) lv hX.left (by omega) 76 (some 50)
      rw [← plus_nil X]
      simp -implicitDefEqProofs only [go_sem, ↓reduceIte, Int.reduceEq, Int.reduceLT, Int.reduceLE, List.reduceReplicate, intA, setT_nil, setT_cons, hlt, sizeP hN, putP0 hN, putP hN, settleP0 hN, settleP hN, rowP0 hN, rowP hN, storeP0 hN hlk, storeP hN hlk, hcl, hX.left.cells, hX.left.flat]
      simp -implicitDefEqProofs only [plus_nil, hT, hpart, hpart2, go_sem, ↓reduceIte, Int.reduceEq, Int.reduceLT, Int.reduceLE, List.reduceReplicate, intA, setT_nil, setT_cons, hc, hX.left.cells, hX.left.flat]
      rw [show fieldA Tryz.prog 151 (.agg [lv, dv']) 1 = some dv' by kernel_rfl]
      obtain ⟨v, h1, h2⟩ := freeze_done (ht.done.settle X.size) (by rw [settle_lock, ht.lock, hX.lock])
      refine ⟨v, ?_, h1⟩
      have hr : readLineL ls l = ds ++ ls.drop p := by
        rw [List.take_length] at hfold
        unfold readLineL; rw [hfold]
      rw [hr]; exact h2
    | succ μ =>
      obtain ⟨r, hr⟩ := at_lt l j (by omega)
      have hlt : (j : Int) < (l.length : Int) := by omega
      have hw := wrap_succ j (by omega)
      have hir := hy.idx (rds_get hr)
      unfold rdV at hir
      have hrk : RdOk ls p r := by
        obtain ⟨h, rfl⟩ := List.getElem?_eq_some_iff.1 hr
        rw [List.drop_eq_getElem_cons h] at hrs; exact hrs.1
      have hw1 : IntKind.i64.wrap ((ls.length : Int) - r.wd) = (ls.length : Int) - r.wd := by
        have := hrk.lo; have := hrk.hi; rw [wrap_in _ (by split at * <;> omega) (by split at * <;> omega)]
      have hw2 : IntKind.i64.wrap (((ls.length - p : Nat) : Int) - ((ls.length : Int) - r.wd)) = ((r.wd.toNat - p : Nat) : Int) := by
        have := hrk.lo; have := hrk.hi; rw [wrap_in _ (by split at * <;> omega) (by split at * <;> omega)]; split at * <;> omega
      rw [← plus_nil X]
      simp -implicitDefEqProofs only [go_sem, ↓reduceIte, Int.reduceEq, Int.reduceLT, Int.reduceLE, List.reduceReplicate, intA, setT_nil, setT_cons, hlt, hw, hir, sizeP hN, putP0 hN, putP hN, settleP0 hN, settleP hN, rowP0 hN, rowP hN, storeP0 hN hlk, storeP hN hlk, hcl, hlen, hx.len, strs_len, hw1, hw2]
      have hkept : r.wd.toNat - p ≤ (ls.drop p).length := by rw [List.length_drop]; have := hrk.hi; have := hrk.lo; split at * <;> omega
      obtain ⟨sx, hsx, hsl⟩ := hX.left.slice und_41 size_9 (r.wd.toNat - p) (by rw [strs_len]; exact hkept)
      have hwl : p ≤ r.wd.toNat ∧ r.wd.toNat ≤ ls.length := by have := hrk.hi; have := hrk.lo; split at * <;> omega
      have htk : ((ls.drop p).take (r.wd.toNat - p)).length ≤ r.wd.toNat - p := by rw [List.length_take]; exact Nat.min_le_left _ _
      have hnn2 : (ds ++ (ls.drop p).take (r.wd.toNat - p)).length + 1 < 2 ^ 33 := by rw [List.length_append]; have : j < l.length := by omega
                                                                                      omega
      have hltN : ltB 0 N = true := by unfold ltB; have := hX.two; simp; omega
      have hdone : DoneR X ds dv := hX.done
      have hclear : Clear (N + 1) (N + 1 + 9) dv := fun i hi => Or.inl (by
        by_cases h : i < N + 1
        · exact h
        · exact absurd hi (hdone.below (by omega)))
      have hsl' : SlOf 1 (strs ((ls.drop p).take (r.wd.toNat - p))) sx := by unfold strs; rw [List.map_take]; exact hsl
      have hnn : ds.length + ((ls.drop p).take (r.wd.toNat - p)).length < 2 ^ 33 := by
        have h1 : ((ls.drop p).take (r.wd.toNat - p)).length ≤ r.wd.toNat - p := by rw [List.length_take]; exact Nat.min_le_left _ _
        have h2 : j < l.length := by omega
        omega
      refine wp_drawX [([], [], false), ([], [], false), ([0], [], false), ([], [], false), ([0], [], false), ([], [], true), ([], [], false), ([], [], true), ([], [], false)] (by kernel_rfl) (by kernel_rfl) ?_
      simp -implicitDefEqProofs only [go_sem, ↓reduceIte, Int.reduceEq, Int.reduceLT, Int.reduceLE, List.reduceReplicate, intA, setT_nil, setT_cons, sizeP hN, putP0 hN, putP hN, settleP0 hN, settleP hN, rowP0 hN, rowP hN, storeP0 hN hlk, storeP hN hlk, hcl, hsx, hX.left.flat, hX.left.objs, hltN, List.isEmpty_nil]
      refine effV_of (ds := ds) (ds' := ds ++ (ls.drop p).take (r.wd.toNat - p)) (dv := dv) (ext_94 he) (impure_94 _ _ _) (by omega) (by rw [plus_size, hN]; exact Nat.le_refl _) (hdone.plus _) hclear (fun dv' => .agg [lv, dv']) (fun X' q1 q2 q3 => call94_any he X' (by rw [q1, q2, plus_lock, plus_size]; omega) lv _ hX.left ds dv q3 _ sx hsl' hnn 76 (some 34)) fun dv1 G1 b1 => ?_
      show AtO (contP _ _ _ _ _ _ _ _ _ _ _) _ _
      simp -implicitDefEqProofs only [go_sem, ↓reduceIte, Int.reduceEq, Int.reduceLT, Int.reduceLE, List.reduceReplicate, intA, setT_nil, setT_cons, hcl, List.isEmpty_nil]
      obtain ⟨ly, hly0, hc95⟩ : ∃ ly, SlOf 1 (strs ((ls.drop p).drop (r.wd.toNat - p))) ly ∧ ∀ X' : Heap, X'.lock = G1.lock → X'.size = G1.size → DoneR X' (ds ++ (ls.drop p).take (r.wd.toNat - p)) dv1 → ∃ dv' Y, callA (Cx e) (lim (Cx e)) 76 95 (some 36) [.agg [lv, dv1], intA (r.wd.toNat - p : Nat)] X' = some ((fun dv' => .agg [ly, dv']) dv', Y) ∧ Turned X' Y dv1 dv' (ds ++ (ls.drop p).take (r.wd.toNat - p)) := by
        obtain ⟨ly, h1, h2⟩ := call95_all he (ls.drop p) lv hX.left (r.wd.toNat - p) hkept dv1 b1.done.flat.1 b1.done.flat.2
        refine ⟨ly, h1, fun X' q1 q2 q3 => ?_⟩
        obtain ⟨F, hF⟩ := h2 X' _ rfl (by have := b1.lock; have := b1.size; rw [plus_size, hN] at this; rw [q1, q2, b1.lock]; show X.lock ≤ _; omega) 76 (some 36)
        exact ⟨dv1, _, hF, rfl, by rw [plus_size]; omega, fun i hi _ => plus_get F hi, q3.plus F, Or.inl rfl⟩
      refine effV_of (ds := ds ++ (ls.drop p).take (r.wd.toNat - p)) (dv := dv1) (ext_95 he) (impure_95 _ _ _) (by omega) (by have := b1.size; rw [plus_size, hN] at this; exact this) b1.done b1.clear (fun dv' => .agg [ly, dv']) hc95 fun dv2 G2 b2 => ?_
      show AtO (contP _ _ _ _ _ _ _ _ _ _ _) _ _
      have hsz1 : N + 10 ≤ G1.size := by have h1 := b1.size; rw [plus_size, hN] at h1; exact h1
      have hGs : ∀ i, i < N + 10 → i < (X.plus [some (AObj.cells 0 0 65 1 false [.v (.int .i64 r.ch), .v (.int .i64 r.ln), .v (.int .i64 r.wd), .v (.int .u8 r.kind), .v (.string r.word)]), none, none, none, none, none, none, none, none, none]).size := fun i hi => by rw [plus_size, hN]; exact hi
      have hne1 : rowOf dv1 ≠ some 1 := b1.off (hGs 1 (by have := hX.two; omega)) hX.off.2
      have hne1' : rowOf dv2 ≠ some 1 := b2.off (by have := hX.two; omega) hne1
      have hne0 : rowOf dv1 ≠ some 0 := b1.off (hGs 0 (by omega)) hX.off.1
      have hne0' : rowOf dv2 ≠ some 0 := b2.off (by omega) hne0
      have hneN0 : rowOf dv ≠ some N := hdone.below (by omega)
      have hneN : rowOf dv1 ≠ some N := b1.off (hGs N (by omega)) hneN0
      have hneN' : rowOf dv2 ≠ some N := b2.off (by omega) hneN
      have hg2 : G2.get 1 = some (.cells 0 m 151 1 false [lv, dv]) := by
        rw [b2.same 1 (by have := hX.two; omega) hne1, b1.same 1 (by have := hX.two; omega) hX.off.2, plus_get _ (by have := hX.two; omega)]
        exact row_of_get hcell
      have hst2 := store_get (xs := [ly, dv2]) hg2 (by rw [b2.lock, b1.lock]; show X.lock ≤ 1; rw [hX.lock]; omega) rfl (by simp [hly0.flat, b2.done.flat.1])
      simp -implicitDefEqProofs only [go_sem, ↓reduceIte, Int.reduceEq, Int.reduceLT, Int.reduceLE, List.reduceReplicate, intA, setT_nil, setT_cons, hcl, List.isEmpty_nil, hst2, hltN]
      generalize hZ : settleH (N + 1) (G2.put 1 _) = Z
      have hG2 : N + 10 ≤ G2.size := by
        have h1 := b1.size; have h2 := b2.size
        rw [plus_size, hN] at h1
        have h3 : N + 10 ≤ G1.size := h1
        omega
      have hzl : Z.lock = 0 := by subst hZ; rw [settle_lock]; show G2.lock = 0; rw [b2.lock, b1.lock]; exact hX.lock
      have hz1 : ∃ m', Z.row 1 0 = some (m', 151, 1, false, [ly, dv2]) := by
        subst hZ; exact ⟨_, get_row ((settle_lo (by have := hX.two; omega)).trans (put_get_eq _ (by omega)))⟩
      obtain ⟨m', hz1⟩ := hz1
      have hz0 : Z.row 0 0 = some (0, 148, 1, false, [.v .nilFunc, .v .nilFunc, .fn (.func 112) [] [], .fn (.func 113) [] [], .fn (.func 114) [] [], .fn (.func 115) [] [], .fn (.func 116) [] [], .fn (.func 117) [] []]) := by
        refine get_row ?_
        subst hZ
        rw [settle_lo (by omega), put_get_ne _ (by omega) (by omega), b2.same 0 (by omega) hne0, b1.same 0 (by omega) hX.off.1, plus_get _ (by have := hX.two; omega)]
        exact row_of_get hX.tab
      have hzN : Z.row N 0 = some (0, 65, 1, false, [.v (.int .i64 r.ch), .v (.int .i64 r.ln), .v (.int .i64 r.wd), .v (.int .u8 r.kind), .v (.string r.word)]) := by
        refine get_row ?_
        subst hZ
        rw [settle_lo (by omega), put_get_ne _ (by omega) (by have := hX.two; omega), b2.same N (by omega) hneN, b1.same N (by omega) hneN0, plus_get_hi _ (by omega), hN, Nat.sub_self]
        rfl
      have hzd : DoneR Z (ds ++ (ls.drop p).take (r.wd.toNat - p)) dv2 := by
        subst hZ
        exact (b2.done.put _ (by omega) hne1').settle _
      have hsM : N + 1 ≤ Z.size := by subst hZ; exact settle_size' (by rw [put_sizeI _ (by have := hX.two; omega)]; omega)
      generalize hM : Z.size = M at *
      have hr1 : ∀ E, (Z.plus E).row 1 0 = some (m', 151, 1, false, [ly, dv2]) := fun E => by rw [rowLo (by have := hX.two; omega)]; exact hz1
      have hr0 := fun E => (rowLo (X := Z) (b := 0) (by omega) E 0).trans hz0
      have hrN := fun E => (rowLo (X := Z) (b := N) (by omega) E 0).trans hzN
      have hlt1 : ltB 1 M = true := by unfold ltB; have := hX.two; simp; omega
      have hlt0 : ltB 0 M = true := by unfold ltB; have := hX.two; simp; omega
      have hltNM : ltB N M = true := by unfold ltB; simp; omega
      have hclear2 : Clear M (M + 10) dv2 := fun i hi => Or.inl (by
        by_cases h : i < M
        · exact h
        · exact absurd hi (hzd.below (by omega)))
      have hg3' : ∀ (R : List (Option AObj)) G3 dv3 ds3, Behind M (M + 10) (Z.plus R) G3 dv2 dv3 ds3 → G3.get 1 = some (.cells 0 m' 151 1 false [ly, dv2]) := fun R G3 dv3 ds3 b3 => by
        rw [b3.same 1 (by have := hX.two; omega) hne1', plus_get _ (by have := hX.two; omega)]
        exact row_of_get hz1
      have hdrop := List.drop_eq_getElem_cons (l := l) (i := j) (by omega)
      have hrj : l[j]'(by omega) = r := by have := List.getElem?_eq_getElem (l := l) (i := j) (by omega); rw [hr] at this; exact (Option.some.inj this).symm
      have hrs2 : RdsOk ls (if r.kind = 2 then r.wd.toNat else r.wd.toNat + 1) (l.drop (j + 1)) := by
        rw [hdrop, hrj] at hrs; exact hrs.2
      have hfold2 : (l.take (j + 1)).foldl (rdOne ls) (0, []) = rdOne ls (p, ds) r := by
        rw [List.take_add_one, hr, List.foldl_append, hfold]; rfl
      have hend : ∀ (R : List (Option AObj)) G3 lz dv3 ds3 p3 (W : Heap) (mm : Nat) vs, Behind M (M + 10) (Z.plus R) G3 dv2 dv3 ds3 → SlOf 1 (strs (ls.drop p3)) lz → W = settleH M (G3.put 1 (.cells 0 mm 151 1 false [lz, dv3])) → bound dv3 ≤ mm → rdOne ls (p, ds) r = (p3, ds3) → p3 ≤ ls.length → (if r.kind = 2 then r.wd.toNat else r.wd.toNat + 1) = p3 → ds3.length ≤ p3 + (j + 1) →
          ∃ j' p' ds' lv' dv' N', j' + μ = l.length ∧ ds'.length ≤ p' + j' ∧ (l.take j').foldl (rdOne ls) (0, []) = (p', ds') ∧ p' ≤ ls.length ∧ RdsOk ls p' (l.drop j') ∧ (⟨52, [(0, x), (1, y), (4, .v (.slice none 0 0)), (5, .ptr 0 0 0), (6, .ptr 1 0 0), (13, y), (14, intA l.length), (15, .v (.int .i64 (IntKind.i64.wrap (↑j + 1))))], []⟩ : AAct) = ⟨52, [(0, x), (1, y), (4, .v (.slice none 0 0)), (5, .ptr 0 0 0), (6, .ptr 1 0 0), (13, y), (14, intA l.length), (15, intA j')], []⟩ ∧ Rdr (W.trim N vs []) N' lv' dv' (ls.drop p') ds' := by
        intro R G3 lz dv3 ds3 p3 W mm vs b3 hlz hW hmm hone hp3 hpk hdl3
        have h2 := hX.two
        have hGs3 : M ≤ G3.size := by have := b3.size; rw [plus_size, hM] at this; omega
        have hn1 : rowOf dv3 ≠ some 1 := b3.off (by rw [plus_size, hM]; omega) hne1'
        have hn0 : rowOf dv3 ≠ some 0 := b3.off (by rw [plus_size, hM]; omega) hne0'
        have hps : (G3.put 1 (.cells 0 mm 151 1 false [lz, dv3])).size = G3.size := put_sizeI _ (by omega)
        have hWs : N ≤ W.size := by rw [hW]; have := settle_size' (n := M) (H := G3.put 1 (.cells 0 mm 151 1 false [lz, dv3])) (by omega); omega
        have hW1 : W.get 1 = some (.cells 0 mm 151 1 false [lz, dv3]) := by rw [hW, settle_lo (by omega)]; exact put_get_eq _ (by omega)
        have hWd : DoneR W ds3 dv3 := by rw [hW]; exact (b3.done.put _ (by omega) hn1).settle _
        have hWl : W.lock = 0 := by rw [hW, settle_lock]; show G3.lock = 0; rw [b3.lock]; exact hzl
        refine ⟨j + 1, p3, ds3, lz, dv3, _, by omega, hdl3, by rw [hfold2, hone], hp3, by rw [← hpk]; exact hrs2, by rw [hw]; rfl, rfl, ?_, by rw [trim_lock]; exact hWl, ?_, ⟨mm, ?_⟩, hlz, ?_, ⟨hn0, hn1⟩⟩
        · have := trim_size' (n := N) (vs := vs) (ms := []) hWs; omega
        · refine get_row ?_
          rw [trim_lo (by omega), hW, settle_lo (by omega), put_get_ne _ (by omega) (by omega), b3.same 0 (by omega) hne0', plus_get _ (by omega)]
          exact row_of_get hz0
        · refine get_row ?_
          rw [trim_lo (by omega)]; exact hW1
        · rcases trim_cases W N vs [] with h | ⟨h, hb⟩
          · rw [h]; exact hWd
          · rw [h]
            rcases hWd with ⟨h3, h4⟩ | ⟨b, v, h3, h4, h5, h6⟩
            · exact Or.inl ⟨h3, h4⟩
            · have hbo := boundsOk_getI (b := 1) (o := .cells 0 mm 151 1 false [lz, dv3]) hb (by
                have := takeH_get (n := N) (i := 1) (H := W) (by omega)
                rw [hW1] at this
                unfold Heap.get at this
                cases hq : (W.objs.take N)[1]? with
                | none => rw [hq] at this; exact nomatch this
                | some z => rw [hq] at this; exact congrArg some (show z = some _ from this))
              have hbN : b < N := by
                have : bound dv3 = b + 1 := by rw [h5]; rfl
                have : mm ≤ N := hbo
                omega
              have hg := (takeH_get (n := N) (H := W) hbN).trans (row_of_get h6)
              exact Or.inr ⟨b, v, h3, get_size hg, h5, get_row hg⟩
      rcases hrk.kind with hk1 | hk1 | hk1
      · rw [hk1] at hrN
        refine wp_drawX [([], [], false), ([], [], false), ([], [], false), ([], [], false), ([], [], false), ([1, 4], [], false), ([], [], false), ([1, 4, 5], [], false), ([], [], true), ([], [], false)] (by kernel_rfl) (by kernel_rfl) ?_
        simp -implicitDefEqProofs only [go_sem, ↓reduceIte, Int.reduceEq, Int.reduceLT, Int.reduceLE, List.reduceReplicate, intA, setT_nil, setT_cons, sizeP hM, hM, hr1, hr0, hrN, hlt1, hlt0, hltNM, cast4, Int.reduceToNat, List.isEmpty_nil]
        have hkl : 1 ≤ ((ls.drop p).drop (r.wd.toNat - p)).length := by
          have h1 := hrk.hi; have h2 := hrk.lo; rw [hk1, if_neg (by decide)] at h1; simp only [List.length_drop]; omega
        obtain ⟨lz, hlz, hc⟩ := call113_all he ly _ hly0 hkl dv2 b2.done.flat.1 b2.done.flat.2
        refine effV_of (ds := ds ++ (ls.drop p).take (r.wd.toNat - p)) (ds' := ds ++ (ls.drop p).take (r.wd.toNat - p)) (dv := dv2) (ext_113 he) (impure_113 _ _ _) (by omega) (by rw [plus_size, hM]; exact Nat.le_refl _) (hzd.plus _) hclear2 (fun dv' => .agg [lz, dv']) (fun X' q1 q2 q3 => by
          obtain ⟨Y, h1, h2⟩ := hc X' X'.size rfl (by rw [q1, q2, plus_lock, plus_size, hzl]; omega) _ q3 r.word 76 (some 45)
          exact ⟨dv2, Y, h1, h2⟩) fun dv3 G3 b3 => ?_
        show AtO (contP _ _ _ _ _ _ _ _ _ _ _) _ _
        have hg3 := hg3' _ _ _ _ b3
        have hst3 := store_get (xs := [lz, dv3]) hg3 (by rw [b3.lock]; show Z.lock ≤ 1; omega) rfl (by simp [hlz.flat, b3.done.flat.1])
        simp -implicitDefEqProofs only [go_sem, ↓reduceIte, Int.reduceEq, Int.reduceLT, Int.reduceLE, List.reduceReplicate, intA, setT_nil, setT_cons, hr1, List.isEmpty_nil, hst3, hlt1]
        have hlz' : SlOf 1 (strs (ls.drop (r.wd.toNat + 1))) lz := by
          rw [List.drop_drop, List.drop_drop, show p + (r.wd.toNat - p + 1) = r.wd.toNat + 1 by omega] at hlz; exact hlz
        have hk2 : r.wd.toNat + 1 ≤ ls.length := by have h1 := hrk.hi; have h2 := hrk.lo; rw [hk1, if_neg (by decide)] at h1; omega
        exact ⟨μ, by omega, hend _ G3 lz dv3 _ (r.wd.toNat + 1) _ _ _ b3 hlz' rfl (by (repeat' split) <;> omega) (by unfold rdOne; simp [hk1]) hk2 (by rw [hk1]; rfl) (by rw [List.length_append]; omega)⟩
      · rw [hk1] at hrN
        refine wp_drawX [([], [], false), ([], [], false), ([], [], false), ([], [], false), ([], [], false), ([1, 4], [], false), ([], [], false), ([1, 4, 5], [], false), ([], [], true), ([], [], false)] (by kernel_rfl) (by kernel_rfl) ?_
        simp -implicitDefEqProofs only [go_sem, ↓reduceIte, Int.reduceEq, Int.reduceLT, Int.reduceLE, List.reduceReplicate, intA, setT_nil, setT_cons, sizeP hM, hM, hr1, hr0, hrN, hlt1, hlt0, hltNM, cast4, Int.reduceToNat, List.isEmpty_nil]
        refine effV_of (ds := ds ++ (ls.drop p).take (r.wd.toNat - p)) (ds' := ds ++ (ls.drop p).take (r.wd.toNat - p) ++ [r.word]) (dv := dv2) (ext_115 he) (impure_115 _ _ _) (by omega) (by rw [plus_size, hM]; exact Nat.le_refl _) (hzd.plus _) hclear2 (fun dv' => .agg [ly, dv']) (fun X' q1 q2 q3 =>
          call115_any he X' X'.size rfl (by rw [q1, q2, plus_lock, plus_size, hzl]; omega) ly _ hly0 _ hnn2 dv2 q3 r.word 76 (some 45)) fun dv3 G3 b3 => ?_
        show AtO (contP _ _ _ _ _ _ _ _ _ _ _) _ _
        have hg3 := hg3' _ _ _ _ b3
        have hst3 := store_get (xs := [ly, dv3]) hg3 (by rw [b3.lock]; show Z.lock ≤ 1; omega) rfl (by simp [hly0.flat, b3.done.flat.1])
        simp -implicitDefEqProofs only [go_sem, ↓reduceIte, Int.reduceEq, Int.reduceLT, Int.reduceLE, List.reduceReplicate, intA, setT_nil, setT_cons, hr1, List.isEmpty_nil, hst3, hlt1]
        have hlz' : SlOf 1 (strs (ls.drop r.wd.toNat)) ly := by
          rw [List.drop_drop, show p + (r.wd.toNat - p) = r.wd.toNat by omega] at hly0; exact hly0
        exact ⟨μ, by omega, hend _ G3 ly dv3 _ r.wd.toNat _ _ _ b3 hlz' rfl (by (repeat' split) <;> omega) (by unfold rdOne; simp [hk1]) hwl.2 (by rw [hk1]; rfl) (by rw [List.length_append, List.length_append]; simp only [List.length_singleton]; omega)⟩
      · rw [hk1] at hrN
        refine wp_drawX [([], [], false), ([], [], false), ([], [], false), ([], [], false), ([], [], false), ([1, 4], [], false), ([], [], false), ([1, 4, 5], [], false), ([], [], true), ([], [], false)] (by kernel_rfl) (by kernel_rfl) ?_
        simp -implicitDefEqProofs only [go_sem, ↓reduceIte, Int.reduceEq, Int.reduceLT, Int.reduceLE, List.reduceReplicate, intA, setT_nil, setT_cons, sizeP hM, hM, hr1, hr0, hrN, hlt1, hlt0, hltNM, cast4, Int.reduceToNat, List.isEmpty_nil]
        have hkl : 1 ≤ ((ls.drop p).drop (r.wd.toNat - p)).length := by
          have h1 := hrk.hi; have h2 := hrk.lo; rw [hk1, if_neg (by decide)] at h1; simp only [List.length_drop]; omega
        obtain ⟨lz, hlz, hc⟩ := call117_all he ly _ hly0 hkl dv2 b2.done.flat.1 b2.done.flat.2
        refine effV_of (ds := ds ++ (ls.drop p).take (r.wd.toNat - p)) (ds' := ds ++ (ls.drop p).take (r.wd.toNat - p) ++ [r.word]) (dv := dv2) (ext_117 he) (impure_117 _ _ _) (by omega) (by rw [plus_size, hM]; exact Nat.le_refl _) (hzd.plus _) hclear2 (fun dv' => .agg [lz, dv']) (fun X' q1 q2 q3 =>
          hc X' X'.size rfl (by rw [q1, q2, plus_lock, plus_size, hzl]; omega) _ hnn2 q3 r.word 76 (some 45)) fun dv3 G3 b3 => ?_
        show AtO (contP _ _ _ _ _ _ _ _ _ _ _) _ _
        have hg3 := hg3' _ _ _ _ b3
        have hst3 := store_get (xs := [lz, dv3]) hg3 (by rw [b3.lock]; show Z.lock ≤ 1; omega) rfl (by simp [hlz.flat, b3.done.flat.1])
        simp -implicitDefEqProofs only [go_sem, ↓reduceIte, Int.reduceEq, Int.reduceLT, Int.reduceLE, List.reduceReplicate, intA, setT_nil, setT_cons, hr1, List.isEmpty_nil, hst3, hlt1]
        have hlz' : SlOf 1 (strs (ls.drop (r.wd.toNat + 1))) lz := by
          rw [List.drop_drop, List.drop_drop, show p + (r.wd.toNat - p + 1) = r.wd.toNat + 1 by omega] at hlz; exact hlz
        have hk2 : r.wd.toNat + 1 ≤ ls.length := by have h1 := hrk.hi; have h2 := hrk.lo; rw [hk1, if_neg (by decide)] at h1; omega
        exact ⟨μ, by omega, hend _ G3 lz dv3 _ (r.wd.toNat + 1) _ _ _ b3 hlz' rfl (by (repeat' split) <;> omega) (by unfold rdOne; simp [hk1]) hk2 (by rw [hk1]; rfl) (by rw [List.length_append, List.length_append]; simp only [List.length_singleton]; omega)⟩
  · exact ⟨0, 0, [], x, .v (.slice none 0 0), 2, by omega, by simp, rfl, by omega, hok, rfl, ⟨rfl, by omega, rfl, rfl, ⟨0, rfl⟩, hx, Or.inl ⟨rfl, rfl⟩, ⟨(fun h => nomatch h), (fun h => nomatch h)⟩⟩⟩
end Go.Ev
namespace Go.Ev
open Go.Proofs
set_option maxRecDepth 100000
set_option linter.unusedSimpArgs false
attribute [local irreducible] Wp WpS
/-- chapters that have no lines yet -/
def chId (y : AV) : List AV := match y with | .agg (i :: _) => [i, .v (.slice none 0 0)] | _ => []
abbrev o55 (n : Nat) (cs : List AV) : Option AObj := some (.cells 0 0 n 1 false cs)
theorem chId_len : ∀ {ys : List AV} (_ : ∀ y ∈ ys, ∃ a b, y = .agg [intA a, b]), (ys.flatMap chId).length = ys.length * 2
  | [], _ => rfl
  | y :: r, h => by
    obtain ⟨a, b, rfl⟩ := h y (by simp)
    rw [List.flatMap_cons, List.length_append, chId_len (fun z hz => h z (by simp [hz]))]
    simp [chId]; omega
theorem chId_bound : ∀ {ys : List AV} (_ : ∀ y ∈ ys, ∃ a b, y = .agg [intA a, b]), boundL (ys.flatMap chId) = 0
  | [], _ => rfl
  | y :: r, h => by
    obtain ⟨a, b, rfl⟩ := h y (by simp)
    rw [List.flatMap_cons]
    show Nat.max 0 (Nat.max 0 (boundL (r.flatMap chId))) = 0
    rw [chId_bound (fun z hz => h z (by simp [hz]))]; rfl
theorem trim_no4 (l : List (Option AObj)) (k n b : Nat) (vs : List AV) (ms : List Nat) (o : AObj) (h : l[b]? = some (some o)) (hb : b < n) (ho : n < o.bound) : (Heap.mk l k).trim n vs ms = ⟨l, k⟩ := by
  rcases trim_cases (Heap.mk l k) n vs ms with h1 | ⟨_, h2⟩
  · exact h1
  · have := boundsOk_getI h2 (b := b) (o := o) (by rw [List.getElem?_take, if_pos hb]; exact h)
    omega
end Go.Ev
namespace Go.Ev
open Go.Proofs
set_option maxRecDepth 100000
set_option linter.unusedSimpArgs false
attribute [local irreducible] Wp WpS
/-- a chapter that is being read: its number, its lines so far, and the place of their row -/
structure Cst where
  id : AV
  ls : List AV
  b : Nat
  v : Nat
def Cst.sl (c : Cst) : AV := if c.ls = [] then .v (.slice none 0 0) else .sl c.b c.v 0 c.ls.length none
def Cst.cells (c : Cst) : List AV := [c.id, c.sl]
def rowsC (cs : List Cst) : Fm := cs.flatMap fun c => if c.ls = [] then [] else [(c.b, .cells c.v 0 41 1 true c.ls)]
theorem rowsC_mem {cs : List Cst} {p : Nat × AObj} : p ∈ rowsC cs ↔ ∃ c ∈ cs, c.ls ≠ [] ∧ p = (c.b, .cells c.v 0 41 1 true c.ls) := by
  unfold rowsC
  rw [List.mem_flatMap]
  constructor
  · rintro ⟨c, hc, hp⟩
    by_cases h : c.ls = []
    · rw [if_pos h] at hp; cases hp
    · rw [if_neg h] at hp; exact ⟨c, hc, h, by simpa using hp⟩
  · rintro ⟨c, hc, h, rfl⟩
    exact ⟨c, hc, by rw [if_neg h]; simp⟩
abbrev St55 := List (AV × List AV)
structure Cs55 (s : St55) (cs : List Cst) (m5 : Nat) : Prop where
  st : cs.map (fun c => (c.id, c.ls)) = s
  lo : ∀ c ∈ cs, c.ls ≠ [] → 8 ≤ c.b ∧ c.b < m5
  inj : ∀ (i j : Nat) (c c' : Cst), cs[i]? = some c → cs[j]? = some c' → c.ls ≠ [] → c'.ls ≠ [] → c.b = c'.b → i = j
  fl : ∀ c ∈ cs, ∃ t, c.id = intA t
  lb : ∀ c ∈ cs, boundL c.ls = 0 ∧ c.ls.all AV.flat = true
def base55 (n : Nat) (chv : AV) (id : Int) (rs : AV) (c4 : List AV) (v5 m5 : Nat) (cs : List Cst) : Fm :=
  [(0, .cells 0 0 79 1 false [chv]), (1, .cells 0 0 53 1 false [intA id, rs]), (2, .cells 0 0 24 1 false [.v (.slice none 0 0)]), (3, .cells 0 6 24 1 false [.sl 5 v5 0 n none]), (4, .cells 0 0 46 1 false c4), (5, .cells v5 m5 46 2 true (cs.flatMap Cst.cells))]
def R55 (n : Nat) (chv : AV) (id : Int) (rs : AV) (c4 : List AV) (v5 : Nat) (s : St55) (m : Fm) : Prop := ∃ cs m5, Cs55 s cs m5 ∧ m = base55 n chv id rs c4 v5 m5 cs ++ rowsC cs
def stp55 (wf : Nat → Nat → AV) (s : St55) (x : List AV) : AExit × St55 :=
  match x with
  | [.agg [.v (.int _ i), .v (.int _ k), _], _] => (.normal, s.modify i.toNat fun c => (c.1, c.2 ++ [wf i.toNat k.toNat]))
  | _ => (.normal, s)
theorem R55_anch {n : Nat} {chv : AV} {id : Int} {rs : AV} {c4 : List AV} {v5 : Nat} (s : St55) (m : Fm) (h : R55 n chv id rs c4 v5 s m) : Anch 6 m := by
  obtain ⟨cs, m5, hc, rfl⟩ := h
  rintro k hk ⟨p, hp, hpk⟩
  rcases List.mem_append.1 hp with hp | hp
  · exfalso
    unfold base55 at hp
    simp only [List.mem_cons, List.not_mem_nil, or_false] at hp
    rcases hp with rfl | rfl | rfl | rfl | rfl | rfl <;> simp at hpk <;> omega
  · obtain ⟨c, hcm, hne, rfl⟩ := rowsC_mem.1 hp
    refine ⟨(5, .cells v5 m5 46 2 true (cs.flatMap Cst.cells)), List.mem_append_left _ (by unfold base55; simp), by simp only; omega, ?_⟩
    have := (hc.lo c hcm hne).2
    simp only at hpk
    show k < m5
    omega
theorem R55_free {n : Nat} {chv : AV} {id : Int} {rs : AV} {c4 : List AV} {v5 : Nat} (s : St55) (m : Fm) (h : R55 n chv id rs c4 v5 s m) : ¬ keyIn 6 m ∧ ¬ keyIn 7 m := by
  obtain ⟨cs, m5, hc, rfl⟩ := h
  constructor <;> (
    rintro ⟨p, hp, hpk⟩
    rcases List.mem_append.1 hp with hp | hp
    · unfold base55 at hp
      simp only [List.mem_cons, List.not_mem_nil, or_false] at hp
      rcases hp with rfl | rfl | rfl | rfl | rfl | rfl <;> simp at hpk
    · obtain ⟨c, hcm, hne, rfl⟩ := rowsC_mem.1 hp
      have := (hc.lo c hcm hne).1
      simp only at hpk
      omega)
theorem base55_lt {n : Nat} {chv : AV} {id : Int} {rs : AV} {c4 : List AV} {v5 m5 : Nat} {cs : List Cst} {p : Nat × AObj} (h : p ∈ base55 n chv id rs c4 v5 m5 cs) : p.1 < 5 ∨ p = (5, .cells v5 m5 46 2 true (cs.flatMap Cst.cells)) := by
  unfold base55 at h
  simp only [List.mem_cons, List.not_mem_nil, or_false] at h
  rcases h with rfl | rfl | rfl | rfl | rfl | rfl
  · exact Or.inl (by simp)
  · exact Or.inl (by simp)
  · exact Or.inl (by simp)
  · exact Or.inl (by simp)
  · exact Or.inl (by simp)
  · exact Or.inr rfl
theorem base55_lo {n : Nat} {chv : AV} {id : Int} {rs : AV} {c4 : List AV} {v5 m5 m5' : Nat} {cs cs' : List Cst} {p : Nat × AObj} (h : p ∈ base55 n chv id rs c4 v5 m5 cs) (hp : p.1 < 5) : p ∈ base55 n chv id rs c4 v5 m5' cs' := by
  unfold base55 at h ⊢
  simp only [List.mem_cons, List.not_mem_nil, or_false] at h ⊢
  rcases h with h | h | h | h | h | h
  · exact Or.inl h
  · exact Or.inr (Or.inl h)
  · exact Or.inr (Or.inr (Or.inl h))
  · exact Or.inr (Or.inr (Or.inr (Or.inl h)))
  · exact Or.inr (Or.inr (Or.inr (Or.inr (Or.inl h))))
  · rw [h] at hp; simp at hp
theorem base55_five {n : Nat} {chv : AV} {id : Int} {rs : AV} {c4 : List AV} {v5 m5 : Nat} {cs : List Cst} : (5, AObj.cells v5 m5 46 2 true (cs.flatMap Cst.cells)) ∈ base55 n chv id rs c4 v5 m5 cs := by unfold base55; simp
theorem fin55 {n : Nat} {chv : AV} {id : Int} {rs : AV} {c4 : List AV} {v m5 i : Nat} {s : St55} {cs : List Cst} {c0 : Cst} {X Y W : Heap} {N : Nat} {L' : ALoop} (hXY : ∀ b, b ≠ 7 → Y.get b = X.get b) (hl7 : Y.get 7 = some (.loop L')) (hXN : X.size = N) (hYN : Y.size = N) (hXl : X.lock = 0) (hN : 8 ≤ N)
    (hH : Has (base55 n chv id rs c4 v m5 cs ++ rowsC cs) Y) (hcs : Cs55 s cs m5) (hc0 : cs[i]? = some c0) (b' v' m5' : Nat) (w : AV) (hw : w.flat = true ∧ bound w = 0)
    (hW5 : W.get 5 = some (.cells v m5' 46 2 true ((cs.set i ⟨c0.id, c0.ls ++ [w], b', v'⟩).flatMap Cst.cells))) (hWb : W.get b' = some (.cells v' 0 41 1 true (c0.ls ++ [w]))) (hWo : ∀ b, b < N → b ≠ 5 → b ≠ b' → W.get b = Y.get b)
    (hWl : W.lock = 0) (hWs : N ≤ W.size) (hb : (c0.ls = [] ∧ N ≤ b') ∨ (c0.ls ≠ [] ∧ b' = c0.b)) (hm : m5 ≤ m5') (hbm : b' < m5') :
    ∃ m', R55 n chv id rs c4 v (s.modify i fun c => (c.1, c.2 ++ [w])) m' ∧ Has m' W ∧ loopObj W 7 = some L' ∧ Moves ((7, .loop L') :: (base55 n chv id rs c4 v m5 cs ++ rowsC cs)) X ((7, .loop L') :: m') W := by
  have hcm := List.mem_of_getElem? hc0
  have hi := (List.getElem?_eq_some_iff.1 hc0).1
  have hb8 : 8 ≤ b' := by
    rcases hb with ⟨_, h⟩ | ⟨h, rfl⟩
    · omega
    · exact (hcs.lo c0 hcm h).1
  have hrow : ∀ c ∈ cs, c.ls ≠ [] → c.b < N := fun c hc hne => by
    have := get_ltS (hH _ (List.mem_append_right _ (rowsC_mem.2 ⟨c, hc, hne, rfl⟩)))
    simp only at this; omega
  have hother : ∀ t c, t ≠ i → cs[t]? = some c → c.ls ≠ [] → c.b ≠ b' := by
    intro t c ht hc hne e
    rcases hb with ⟨_, h⟩ | ⟨h, h2⟩
    · have := hrow c (List.mem_of_getElem? hc) hne; omega
    · exact ht (hcs.inj t i c c0 hc hc0 hne h (e.trans h2))
  have hset : ∀ (t : Nat) (c : Cst), (cs.set i ⟨c0.id, c0.ls ++ [w], b', v'⟩)[t]? = some c → (t = i ∧ c = ⟨c0.id, c0.ls ++ [w], b', v'⟩) ∨ (t ≠ i ∧ cs[t]? = some c) := by
    intro t c h
    rw [List.getElem?_set] at h
    by_cases hti : i = t
    · rw [if_pos hti, if_pos (by omega)] at h
      exact Or.inl ⟨hti.symm, (Option.some.inj h).symm⟩
    · rw [if_neg hti] at h; exact Or.inr ⟨fun e => hti e.symm, h⟩
  have hmem : ∀ c ∈ cs.set i ⟨c0.id, c0.ls ++ [w], b', v'⟩, c ∈ cs ∨ c = ⟨c0.id, c0.ls ++ [w], b', v'⟩ := fun c hc => List.mem_or_eq_of_mem_set hc
  have hne' : c0.ls ++ [w] ≠ [] := by simp
  refine ⟨base55 n chv id rs c4 v m5' (cs.set i ⟨c0.id, c0.ls ++ [w], b', v'⟩) ++ rowsC (cs.set i ⟨c0.id, c0.ls ++ [w], b', v'⟩), ⟨_, m5', ⟨?_, ?_, ?_, ?_, ?_⟩, rfl⟩, ?_, ?_, ⟨?_, ?_, ?_, ?_⟩⟩
  · rw [← hcs.st]
    apply List.ext_getElem?
    intro t
    rw [List.getElem?_map, List.getElem?_set, List.getElem?_modify, List.getElem?_map]
    by_cases hti : i = t
    · subst hti; rw [if_pos rfl, if_pos hi, hc0]; simp
    · rw [if_neg hti]; cases cs[t]? <;> simp [hti]
  · intro c hc hne
    rcases hmem c hc with h | rfl
    · have := hcs.lo c h hne; omega
    · exact ⟨hb8, hbm⟩
  · intro t u c c' hc hc' h1 h2 e
    rcases hset t c hc with ⟨rfl, rfl⟩ | ⟨ht, hct⟩ <;> rcases hset u c' hc' with ⟨rfl, rfl⟩ | ⟨hu, hcu⟩
    · rfl
    · exact absurd e.symm (hother u c' hu hcu h2)
    · exact absurd e (hother t c ht hct h1)
    · exact hcs.inj t u c c' hct hcu h1 h2 e
  · intro c hc
    rcases hmem c hc with h | rfl
    · exact hcs.fl c h
    · exact hcs.fl c0 hcm
  · intro c hc
    rcases hmem c hc with h | rfl
    · exact hcs.lb c h
    · have h0 := hcs.lb c0 hcm
      refine ⟨Nat.le_zero.1 (boundL_le.2 fun x hx => ?_), ?_⟩
      · rcases List.mem_append.1 hx with hx | hx
        · exact boundL_le.1 (Nat.le_of_eq h0.1) x hx
        · rw [List.mem_singleton.1 hx, hw.2]; exact Nat.le_refl _
      · rw [List.all_append, h0.2]; simp [hw.1]
  · intro p hp
    rcases List.mem_append.1 hp with hp | hp
    · rcases base55_lt hp with h | rfl
      · rw [hWo p.1 (by omega) (by omega) (by omega)]
        exact hH p (List.mem_append_left _ (base55_lo hp h))
      · exact hW5
    · obtain ⟨c, hc, hne, rfl⟩ := rowsC_mem.1 hp
      obtain ⟨t, ht⟩ := List.getElem?_of_mem hc
      rcases hset t c ht with ⟨rfl, rfl⟩ | ⟨hti, hct⟩
      · exact hWb
      · have hcm2 := List.mem_of_getElem? hct
        have h8 := hcs.lo c hcm2 hne
        rw [hWo c.b (hrow c hcm2 hne) (by omega) (hother t c hti hct hne)]
        exact hH _ (List.mem_append_right _ (rowsC_mem.2 ⟨c, hcm2, hne, rfl⟩))
  · refine get_loopObj ?_
    rw [hWo 7 (by omega) (by omega) (by omega)]; exact hl7
  · rw [hWl, hXl]
  · omega
  · intro b hbN hk
    have h7 : b ≠ 7 := fun e => hk ⟨_, List.mem_cons_self, e.symm⟩
    have h5 : b ≠ 5 := fun e => hk ⟨_, List.mem_cons_of_mem _ (List.mem_append_left _ base55_five), e.symm⟩
    have hbb : b ≠ b' := by
      rcases hb with ⟨_, h⟩ | ⟨h, h2⟩
      · omega
      · exact fun e => hk ⟨_, List.mem_cons_of_mem _ (List.mem_append_right _ (rowsC_mem.2 ⟨c0, hcm, h, rfl⟩)), by simp only; omega⟩
    rw [hWo b (by omega) h5 hbb, hXY b h7]
  · intro p hp
    rcases List.mem_cons.1 hp with rfl | hp
    · exact Or.inl ⟨_, List.mem_cons_self, rfl⟩
    · rcases List.mem_append.1 hp with hp | hp
      · rcases base55_lt hp with h | rfl
        · exact Or.inl ⟨p, List.mem_cons_of_mem _ (List.mem_append_left _ (base55_lo hp h)), rfl⟩
        · exact Or.inl ⟨_, List.mem_cons_of_mem _ (List.mem_append_left _ base55_five), rfl⟩
      · obtain ⟨c, hc, hne, rfl⟩ := rowsC_mem.1 hp
        obtain ⟨t, ht⟩ := List.getElem?_of_mem hc
        rcases hset t c ht with ⟨rfl, rfl⟩ | ⟨hti, hct⟩
        · rcases hb with ⟨_, h⟩ | ⟨h, h2⟩
          · exact Or.inr (by simp only; omega)
          · exact Or.inl ⟨_, List.mem_cons_of_mem _ (List.mem_append_right _ (rowsC_mem.2 ⟨c0, hcm, h, rfl⟩)), h2.symm⟩
        · exact Or.inl ⟨_, List.mem_cons_of_mem _ (List.mem_append_right _ (rowsC_mem.2 ⟨c, List.mem_of_getElem? hct, hne, rfl⟩)), rfl⟩
/-! ### what is handed back -/
def Cst.fz (c : Cst) : AV := if c.ls = [] then .v (.slice none 0 0) else .vs 1 c.ls none
theorem freeze_sl1 {H : Heap} {b v : Nat} {ls : List AV} {k : Nat} (hk : H.lock = 0) (hr : H.row b v = some (0, 41, 1, true, ls)) : freezeV H (k + 1) (.sl b v 0 ls.length none) = some (.vs 1 ls none) := by
  unfold freezeV
  simp only [hr, hk]
  rw [if_neg (by omega), if_pos ⟨by omega, by omega⟩, if_pos trivial, List.drop_zero, List.take_of_length_le (by omega), chunk_one]
theorem freeze_cells {H : Heap} (hk : H.lock = 0) : ∀ (cs : List Cst) (k : Nat), 2 * cs.length + 4 < k → (∀ c ∈ cs, ∃ t, c.id = intA t) → (∀ c ∈ cs, c.ls ≠ [] → H.row c.b c.v = some (0, 41, 1, true, c.ls)) →
    freezeL H k (cs.flatMap Cst.cells) = some (cs.flatMap fun c => [c.id, c.fz])
  | [], k + 1, _, _, _ => rfl
  | c :: r, k, hl, hi, hr => by
    obtain ⟨k', rfl⟩ : ∃ k', k = k' + 1 + 1 + 1 := ⟨k - 3, by simp at hl; omega⟩
    obtain ⟨t, ht⟩ := hi c (by simp)
    have ih := freeze_cells hk r (k' + 1) (by simp at hl; omega) (fun x hx => hi x (by simp [hx])) (fun x hx => hr x (by simp [hx]))
    have h1 : freezeV H (k' + 1 + 1) c.id = some c.id := by rw [ht]; rfl
    have h2 : freezeV H (k' + 1) c.sl = some c.fz := by
      unfold Cst.sl Cst.fz
      by_cases hne : c.ls = []
      · rw [if_pos hne, if_pos hne]; rfl
      · rw [if_neg hne, if_neg hne]; exact freeze_sl1 hk (hr c (by simp) hne)
    rw [List.flatMap_cons, List.flatMap_cons]
    show (match freezeV H (k' + 1 + 1) c.id, freezeL H (k' + 1 + 1) (c.sl :: r.flatMap Cst.cells) with | some y, some ys => some (y :: ys) | _, _ => none) = _
    rw [h1]
    show (match some c.id, (match freezeV H (k' + 1) c.sl, freezeL H (k' + 1) (r.flatMap Cst.cells) with | some y, some ys => some (y :: ys) | _, _ => none) with | some y, some ys => some (y :: ys) | _, _ => none) = _
    rw [h2, ih]; rfl
theorem chunk_two : ∀ cs : List Cst, chunk 2 cs.length (cs.flatMap fun c => [c.id, c.fz]) = cs.map fun c => .agg [c.id, c.fz]
  | [] => rfl
  | c :: r => by
    rw [List.flatMap_cons]
    show (if 2 = 1 then _ else AV.agg (([c.id, c.fz] ++ _).take 2)) :: chunk 2 r.length (([c.id, c.fz] ++ _).drop 2) = _
    rw [if_neg (by omega)]
    show AV.agg [c.id, c.fz] :: chunk 2 r.length (r.flatMap fun c => [c.id, c.fz]) = _
    rw [chunk_two r]; rfl
theorem fz_bound {cs : List Cst} (hi : ∀ c ∈ cs, ∃ t, c.id = intA t) : boundL (cs.flatMap fun c => [c.id, c.fz]) = 0 := by
  refine Nat.le_zero.1 (boundL_le.2 fun x hx => ?_)
  obtain ⟨c, hc, hx⟩ := List.mem_flatMap.1 hx
  rcases List.mem_cons.1 hx with rfl | hx
  · obtain ⟨t, ht⟩ := hi c hc; rw [ht]; exact Nat.le_refl _
  · rw [List.mem_singleton.1 hx]; unfold Cst.fz; split <;> exact Nat.le_refl _
theorem flatMap_eq {α β : Type} {f g : α → List β} : ∀ {l : List α}, (∀ c ∈ l, f c = g c) → l.flatMap f = l.flatMap g
  | [], _ => rfl
  | c :: r, h => by rw [List.flatMap_cons, List.flatMap_cons, h c (by simp), flatMap_eq fun x hx => h x (by simp [hx])]
theorem freeze_copied {H : Heap} {v m5 : Nat} {cs : List Cst} {s : St55} (hk : H.lock = 0) (hcs : Cs55 s cs m5) (hr5 : H.row 5 v = some (m5, 46, 2, true, cs.flatMap Cst.cells)) (hr : ∀ c ∈ cs, c.ls ≠ [] → H.row c.b c.v = some (0, 41, 1, true, c.ls)) (hl : cs.length ≤ 1000) :
    freezeV H 1000000 (.agg [.sl 5 v 0 cs.length none]) = some (.agg [.vs 2 (cs.map fun c => .agg [c.id, c.fz]) none]) := by
  have hlen : (cs.flatMap Cst.cells).length = cs.length * 2 := by
    clear hl hr hr5 hcs
    induction cs with
    | nil => rfl
    | cons c r ih => rw [List.flatMap_cons, List.length_append, ih]; simp [Cst.cells]; omega
  have key : freezeV H 999998 (.sl 5 v 0 cs.length none) = some (.vs 2 (cs.map fun c => .agg [c.id, c.fz]) none) := by
    have hfl := freeze_cells hk cs 999997 (by omega) hcs.fl hr
    show freezeV H (999997 + 1) _ = _
    unfold freezeV
    simp only [hr5, hk]
    rw [if_neg (by omega), if_pos ⟨by omega, by omega⟩, List.drop_zero, List.take_of_length_le (by omega)]
    by_cases hm : m5 = 0
    · rw [if_pos hm]
      have he : cs.flatMap Cst.cells = cs.flatMap fun c => [c.id, c.fz] := by
        refine flatMap_eq fun c hc => ?_
        have : c.ls = [] := Classical.byContradiction fun h => by have := (hcs.lo c hc h).2; omega
        unfold Cst.cells Cst.sl Cst.fz; rw [if_pos this, if_pos this]
      rw [he, chunk_two]
    · rw [if_neg hm, hfl]
      simp only [fz_bound hcs.fl, if_true, chunk_two]
  have e1 : freezeL H 999999 [.sl 5 v 0 cs.length none] = some [.vs 2 (cs.map fun c => .agg [c.id, c.fz]) none] := by
    show (match freezeV H 999998 (.sl 5 v 0 cs.length none), freezeL H 999998 [] with | some y, some ys => some (y :: ys) | _, _ => none) = _
    rw [key]; rfl
  show (freezeL H 999999 [.sl 5 v 0 cs.length none]).map AV.agg = _
  rw [e1]; rfl
end Go.Ev
namespace Go.Ev
open Go.Proofs
set_option maxRecDepth 100000
set_option linter.unusedSimpArgs false
attribute [local irreducible] Wp WpS
def idOf (y : AV) : AV := match y with | .agg (i :: _) => i | _ => .v .nilFunc
def stAt (xs : List AV) (wf : Nat → Nat → AV) (i k : Nat) : St55 := xs.mapIdx fun t y => (idOf y, (List.range (if t < i then (linesOf y).length else if t = i then k else 0)).map (wf t))
theorem cells_set : ∀ {cs : List Cst} {i : Nat} {c0 : Cst}, cs[i]? = some c0 → ∀ (w : AV) (b v : Nat) {x : AV}, x = .sl b v 0 (c0.ls.length + 1) none →
    (cs.flatMap Cst.cells).take (i * 2 + 1) ++ [x] ++ (cs.flatMap Cst.cells).drop (i * 2 + 1 + 1) = (cs.set i ⟨c0.id, c0.ls ++ [w], b, v⟩).flatMap Cst.cells
  | [], _, _, h, _, _, _, _, _ => by simp at h
  | y :: r, 0, c0, h, w, b, v, x, hx => by
    simp at h; subst h; subst hx
    simp [Cst.cells, Cst.sl]
  | y :: r, i + 1, c0, h, w, b, v, x, hx => by
    have ih := cells_set (cs := r) (i := i) (c0 := c0) (by simpa using h) w b v hx
    rw [List.set_cons_succ, List.flatMap_cons, List.flatMap_cons, ← ih]
    rw [show (i + 1) * 2 + 1 = (i * 2 + 1) + 2 by omega]
    show (y.cells ++ _).take _ ++ [x] ++ (y.cells ++ _).drop _ = _
    simp [Cst.cells]
theorem ofV_bound (l : List Rd) : bound (ofV l) = 0 := by cases l <;> rfl
theorem storeLoK {X : Heap} {b v k m e sz : Nat} {g : Bool} {cs : List AV} {x : AV} (hb : b < X.size) (hlk : X.lock ≤ b) (hr : X.row b v = some (m, e, sz, g, cs)) (hx : k + 1 ≤ cs.length) (hf : x.flat = true) (E : List (Option AObj)) :
    storeCells (X.plus E) b v k [x] = some ((X.put b (.cells v (Nat.max m (bound x)) e sz g (splice k [x] cs))).plus E) := by
  unfold storeCells
  rw [rowLo hb, hr]
  have hl : (X.plus E).lock ≤ b := hlk
  have hbl : boundL [x] = bound x := by simp only [boundL]; exact Nat.max_zero _
  simp only [hl, hbl, List.length_singleton, hx, List.all_cons, List.all_nil, hf, Bool.and_true, and_self, if_true, putLo hb]
theorem cells_len : ∀ cs : List Cst, (cs.flatMap Cst.cells).length = 2 * cs.length
  | [] => rfl
  | c :: r => by rw [List.flatMap_cons, List.length_append, cells_len r]; simp [Cst.cells]; omega
theorem cells_get : ∀ {cs : List Cst} {i : Nat} {c : Cst}, cs[i]? = some c → (cs.flatMap Cst.cells)[2 * i + 1]? = some c.sl
  | [], _, _, h => by simp at h
  | x :: r, 0, c, h => by simp at h; subst h; rfl
  | x :: r, i + 1, c, h => by
    rw [List.flatMap_cons, show 2 * (i + 1) + 1 = (2 * i + 1) + 2 by omega, List.getElem?_append_right (by simp [Cst.cells])]
    simpa [Cst.cells] using cells_get (cs := r) (i := i) (by simpa using h)
def okP (xs : List AV) (s : St55) (x : List AV) : Prop := ∃ (i k : Nat) (y z : AV) (c : AV × List AV), xs[i]? = some y ∧ (linesOf y)[k]? = some z ∧ x = [placeA i k 0, z] ∧ s[i]? = some c ∧ c.2.length = k
theorem stAt_get (xs : List AV) (wf : Nat → Nat → AV) (i k t : Nat) : (stAt xs wf i k)[t]? = (xs[t]?).map fun y => (idOf y, (List.range (if t < i then (linesOf y).length else if t = i then k else 0)).map (wf t)) := by
  unfold stAt; rw [List.getElem?_mapIdx]
theorem stp_at {xs : List AV} {wf : Nat → Nat → AV} {i k : Nat} {y : AV} (hy : xs[i]? = some y) (z : AV) : stp55 wf (stAt xs wf i k) [placeA i k 0, z] = (.normal, stAt xs wf i (k + 1)) := by
  unfold stp55 placeA intA
  simp only [Int.toNat_natCast]
  congr 1
  apply List.ext_getElem?
  intro t
  rw [List.getElem?_modify, stAt_get, stAt_get]
  by_cases hti : i = t
  · subst hti; rw [hy]; simp [List.range_succ]
  · cases xs[t]? with
    | none => rfl
    | some w => simp [hti, show ¬ t = i from fun h => hti h.symm]
theorem stAt_next {xs : List AV} {wf : Nat → Nat → AV} {i : Nat} {y : AV} (hy : xs[i]? = some y) : stAt xs wf i (linesOf y).length = stAt xs wf (i + 1) 0 := by
  apply List.ext_getElem?
  intro t
  rw [stAt_get, stAt_get]
  rcases Nat.lt_trichotomy t i with h | h | h
  · simp [h, show t < i + 1 by omega]
  · subst h; rw [hy]; simp
  · cases xs[t]? with
    | none => rfl
    | some w => simp [show ¬ t < i by omega, show ¬ t = i by omega, show ¬ t < i + 1 by omega]
theorem run_line {xs : List AV} {wf : Nat → Nat → AV} {i : Nat} {y : AV} (hy : xs[i]? = some y) (T : List (List AV)) (F : AExit × St55)
    (h : okRun (fun s x => (isGo (stp55 wf s x).1, (stp55 wf s x).2)) (okP xs) T (stAt xs wf i (linesOf y).length) ∧ foldE (stp55 wf) T (stAt xs wf i (linesOf y).length) = F) :
    ∀ (r : List AV) (k : Nat), r = (linesOf y).drop k → k ≤ (linesOf y).length →
      okRun (fun s x => (isGo (stp55 wf s x).1, (stp55 wf s x).2)) (okP xs) (lineIts i k r ++ T) (stAt xs wf i k) ∧ foldE (stp55 wf) (lineIts i k r ++ T) (stAt xs wf i k) = F
  | [], k, hr, hk => by
    have : k = (linesOf y).length := by
      have := congrArg List.length hr
      rw [List.length_drop] at this; simp at this; omega
    subst this; exact h
  | x :: r, k, hr, hk => by
    have hlt : k < (linesOf y).length := by
      have := congrArg List.length hr
      rw [List.length_drop] at this; simp at this; omega
    have hx : (linesOf y)[k]? = some x := by
      rw [List.drop_eq_getElem_cons hlt] at hr
      rw [List.getElem?_eq_getElem hlt, (List.cons.inj hr).1]
    have hr' : r = (linesOf y).drop (k + 1) := by
      rw [List.drop_eq_getElem_cons hlt] at hr; exact (List.cons.inj hr).2
    have ih := run_line hy T F h r (k + 1) hr' hlt
    have hs := stp_at (k := k) (wf := wf) hy x
    refine ⟨⟨⟨i, k, y, x, _, hy, hx, rfl, by rw [stAt_get, hy]; rfl, by simp⟩, fun _ => ?_⟩, ?_⟩
    · show okRun _ _ (lineIts i (k + 1) r ++ T) (stp55 wf (stAt xs wf i k) [placeA i k 0, x]).2
      rw [hs]; exact ih.1
    · show foldE (stp55 wf) ([placeA i k 0, x] :: (lineIts i (k + 1) r ++ T)) _ = _
      rw [foldE_go (by rw [hs]), hs]; exact ih.2
theorem run_chap {xs : List AV} {wf : Nat → Nat → AV} : ∀ (r : List AV) (i : Nat), r = xs.drop i → i ≤ xs.length →
    okRun (fun s x => (isGo (stp55 wf s x).1, (stp55 wf s x).2)) (okP xs) (chapIts i r) (stAt xs wf i 0) ∧ foldE (stp55 wf) (chapIts i r) (stAt xs wf i 0) = (.normal, stAt xs wf xs.length 0)
  | [], i, hr, hi => by
    have : i = xs.length := by
      have := congrArg List.length hr
      rw [List.length_drop] at this; simp at this; omega
    subst this; exact ⟨trivial, rfl⟩
  | y :: r, i, hr, hi => by
    have hlt : i < xs.length := by
      have := congrArg List.length hr
      rw [List.length_drop] at this; simp at this; omega
    rw [List.drop_eq_getElem_cons hlt] at hr
    have hy : xs[i]? = some y := by rw [List.getElem?_eq_getElem hlt, (List.cons.inj hr).1]
    have ih := run_chap (wf := wf) r (i + 1) (List.cons.inj hr).2 hlt
    exact run_line hy (chapIts (i + 1) r) _ (by rw [stAt_next hy]; exact ih) (linesOf y) 0 rfl (Nat.zero_le _)
theorem chId_cs {xs : List AV} (hall : ∀ y ∈ xs, OkCh y) : xs.flatMap chId = (xs.map fun y => (⟨idOf y, [], 0, 0⟩ : Cst)).flatMap Cst.cells := by
  induction xs with
  | nil => rfl
  | cons y r ih =>
    obtain ⟨a, b, c, rfl, -⟩ := hall y (by simp)
    rw [List.flatMap_cons, List.map_cons, List.flatMap_cons, ← ih (fun z hz => hall z (by simp [hz]))]
    rfl
def lnOf (ls : List AV) : AV := if ls = [] then .v (.slice none 0 0) else .vs 1 ls none
def out55 (s : St55) : AV := .agg [.vs 2 (s.map fun c => .agg [c.1, lnOf c.2]) none]
theorem cs0_of {xs : List AV} (hall : ∀ y ∈ xs, OkCh y) (wf : Nat → Nat → AV) : Cs55 (stAt xs wf 0 0) (xs.map fun y => ⟨idOf y, [], 0, 0⟩) 0 := by
  refine ⟨?_, ?_, ?_, ?_, ?_⟩
  · apply List.ext_getElem?
    intro t
    rw [stAt_get, List.map_map, List.getElem?_map]
    cases xs[t]? with
    | none => rfl
    | some w => simp
  · intro c hc h
    obtain ⟨y, hy, rfl⟩ := List.mem_map.1 hc
    exact absurd rfl h
  · intro i j c c' hc _ h
    obtain ⟨y, hy, rfl⟩ := List.mem_map.1 (List.mem_of_getElem? hc)
    exact absurd rfl h
  · intro c hc
    obtain ⟨y, hy, rfl⟩ := List.mem_map.1 hc
    obtain ⟨a, b, d, rfl, -⟩ := hall y hy
    exact ⟨a, rfl⟩
  · intro c hc
    obtain ⟨y, hy, rfl⟩ := List.mem_map.1 hc
    exact ⟨rfl, rfl⟩
theorem rows0 (xs : List AV) : rowsC (xs.map fun y => (⟨idOf y, [], 0, 0⟩ : Cst)) = [] := by
  cases h : rowsC (xs.map fun y => (⟨idOf y, [], 0, 0⟩ : Cst)) with
  | nil => rfl
  | cons p r =>
    obtain ⟨c, hc, hne, -⟩ := rowsC_mem.1 (show p ∈ rowsC _ by rw [h]; simp)
    obtain ⟨y, hy, rfl⟩ := List.mem_map.1 hc
    exact absurd rfl hne
set_option maxHeartbeats 2000000 in
theorem ans55x {e : Exts} (he : Quiet e) (xs : List AV) (ch : AV) (hch : SlOf 2 xs ch) (hall : ∀ y ∈ xs, OkCh y) (hlen : xs.length < 2 ^ 32) (h1 : 1 ≤ xs.length) (id : Int) (l : List Rd) (rs : AV) (hrs : RdsA l rs) (hln : l.length < 2 ^ 32) (wf : Nat → Nat → AV) (hwf : ∀ (i k : Nat) (y z : AV), xs[i]? = some y → (linesOf y)[k]? = some z → Ans (Cx e) 76 [z, ofV (l.filter (atLine i k 0))] (wf i k)) (hwc : ∀ (i k : Nat), (wf i k).flat = true ∧ (wf i k).cells = [wf i k] ∧ bound (wf i k) = 0) (hll : ∀ y ∈ xs, (linesOf y).length < 2 ^ 32) (hlb : ∀ y ∈ xs, ∀ z ∈ linesOf y, bound z = 0) (hx1000 : xs.length ≤ 1000) : Ans (Cx e) 55 [.agg [ch], .agg [intA id, rs]] (out55 (stAt xs wf xs.length 0)) := by
  unfold Ans
  have hrs0 := hrs
  have hrs : SlOf 5 (l.map rdV) rs := hrs
  rw [fn_step (fn_55 e) (show Tryz.f55.body = some _ from rfl)]
  simp -implicitDefEqProofs only [Tryz.f55, go_sem, ↓reduceIte, Int.reduceEq, Int.reduceLT, Int.reduceLE, List.reduceReplicate, intA, setT_nil, setT_cons, hch.cells, hch.flat, hch.bound, hch.len, hrs.cells, hrs.flat, hrs.bound]
  refine Lp_rule (P := fun μ a X => ∃ j, j + μ = xs.length ∧ a = ⟨53, [(0, .agg [ch]), (1, .agg [intA id, rs]), (2, .ptr 0 0 0), (3, .ptr 1 0 0), (4, .ptr 2 0 0), (5, .ptr 3 0 0), (13, ch), (14, intA xs.length), (15, intA j)], []⟩ ∧
    ((j = 0 ∧ X = ⟨[o55 79 [ch], o55 53 [intA id, rs], o55 24 [.v (.slice none 0 0)], o55 24 [.v (.slice none 0 0)]], 0⟩) ∨ ∃ c4 v, 1 ≤ j ∧ X = ⟨[o55 79 [ch], o55 53 [intA id, rs], o55 24 [.v (.slice none 0 0)], some (.cells 0 6 24 1 false [.sl 5 v 0 j none]), some (.cells 0 0 46 1 false c4), some (.cells v 0 46 2 true ((xs.take j).flatMap chId))], 0⟩)) ?_ xs.length _ _ ?_
  · rintro μ _ X ⟨j, hj, rfl, hX⟩
    cases μ with
    | zero =>
      obtain rfl : j = xs.length := by omega
      rcases hX with ⟨h0, -⟩ | ⟨c4, v, hj1, rfl⟩
      · omega
      · simp -implicitDefEqProofs only [go_sem, ↓reduceIte, Int.reduceEq, Int.reduceLT, Int.reduceLE, List.reduceReplicate, intA, setT_nil, setT_cons, Int.lt_irrefl, call64 he ch xs hch, trim_at, hch.bound, hrs.bound, hch.cells, hch.flat]
        refine wp_range2 (yields2_88 ch xs hch hall (by omega)) rfl (R55 xs.length ch id rs c4 v) (stp55 wf) (fun s => s.length = xs.length) (okP xs) (n0 := 6) (k := 0) (Nat.le_refl _) (Nat.zero_le _) ?_ (fun s m h => R55_anch s m h) (fun s m h => R55_free s m h) ?_ ?_ (stAt xs wf 0 0) (base55 xs.length ch id rs c4 v 0 (xs.map fun y => ⟨idOf y, [], 0, 0⟩) ++ rowsC (xs.map fun y => ⟨idOf y, [], 0, 0⟩)) ?_ ?_ ?_ ?_ rfl ?_
        · intro x hx
          obtain ⟨i, y, j, z, -, -, rfl⟩ := chapIts_of _ _ _ hx
          rfl
        · intro s x hs hx _
          obtain ⟨i, k, y, z, c, -, -, rfl, -, -⟩ := hx
          unfold stp55 placeA intA
          simp only [List.length_modify]; exact hs
        · intro L L' s m x X hL hs hx hxl hR hH hd0 hl1 hlk hsz
          obtain ⟨i, k, y, z, c, hy, hz, rfl, hc, hck⟩ := hx
          obtain ⟨cs, m5, hcs, rfl⟩ := hR
          have hsz : 8 ≤ X.size := hsz
          have hl1 : loopObj X 7 = some L := hl1
          have hd0 : X.get 6 = some .dfr := hd0
          generalize hN : X.size = N at *
          have hlkN : X.lock ≤ N := by rw [hlk]; exact Nat.zero_le _
          rw [← plus_nil X]
          simp -implicitDefEqProofs only [placeA, intA, go_sem, ↓reduceIte, Int.reduceEq, Int.reduceLT, Int.reduceLE, List.reduceReplicate, intA, setT_nil, setT_cons, sizeP hN, putP0 hN, putP hN, settleP0 hN, settleP hN, rowP0 hN, rowP hN, storeP0 hN hlkN, storeP hN hlkN]
          refine ⟨rfl, ?_, ?_⟩
          · refine get_loopObj ?_
            rw [plus_get _ (by omega)]; exact loopObj_getI hl1
          · rw [putLo (by omega)]
            have hf := R55_free (n := xs.length) (chv := ch) (id := id) (rs := rs) (c4 := c4) (v5 := v) _ _ ⟨cs, m5, hcs, rfl⟩
            have hH7 := hH.put (.loop L') (b := 7) (by omega) hf.2
            have hN7 : (X.put 7 (.loop L')).size = N := by rw [put_sizeI _ (by omega)]; exact hN
            have hlk7 : (X.put 7 (.loop L')).lock = 0 := hlk
            have hl7 : (X.put 7 (.loop L')).get 7 = some (.loop L') := put_get_eq _ (by omega)
            have hsm7 : ∀ b, b ≠ 7 → (X.put 7 (.loop L')).get b = X.get b := fun b hb => put_get_ne _ (by omega) hb
            generalize X.put 7 (.loop L') = Y at *
            have hlkY : Y.lock ≤ N := by rw [hlk7]; exact Nat.zero_le _
            have h1' : Y.row 1 0 = some (0, 53, 1, false, [intA id, rs]) := get_row (hH7 (1, _) (List.mem_append_left _ (by unfold base55; simp)))
            have h3' : Y.row 3 0 = some (6, 24, 1, false, [.sl 5 v 0 xs.length none]) := get_row (hH7 (3, _) (List.mem_append_left _ (by unfold base55; simp)))
            have h5' : Y.row 5 v = some (m5, 46, 2, true, cs.flatMap Cst.cells) := get_row (hH7 (5, _) (List.mem_append_left _ (by unfold base55; simp)))
            have hi : i < xs.length := (List.getElem?_eq_some_iff.1 hy).1
            have hr1 : ∀ E, (Y.plus E).row 1 0 = some (0, 53, 1, false, [.v (.int .i64 id), rs]) := fun E => by rw [rowLo (by omega)]; exact h1'
            have hr3 : ∀ E, (Y.plus E).row 3 0 = some (6, 24, 1, false, [.sl 5 v 0 xs.length none]) := fun E => by rw [rowLo (by omega)]; exact h3'
            have hr5 : ∀ E, (Y.plus E).row 5 v = some (m5, 46, 2, true, cs.flatMap Cst.cells) := fun E => by rw [rowLo (by omega)]; exact h5'
            have hcl : ∃ c0, cs[i]? = some c0 ∧ c0.id = c.1 ∧ c0.ls = c.2 := by
              have := hcs.st
              rw [← this, List.getElem?_map] at hc
              cases h : cs[i]? with
              | none => rw [h] at hc; exact nomatch hc
              | some c0 => rw [h] at hc; simp only [Option.map_some, Option.some.injEq] at hc; exact ⟨c0, rfl, by rw [← hc], by rw [← hc]⟩
            obtain ⟨c0, hc0, hc1, hc2⟩ := hcl
            have hcell : (cs.flatMap Cst.cells)[2 * i + 1]? = some c0.sl := cells_get hc0
            have hclen : (cs.flatMap Cst.cells).length = 2 * cs.length := cells_len cs
            have hlen5 : cs.length = xs.length := by rw [← hs, ← hcs.st, List.length_map]
            have hii : (0 : Int) ≤ (i : Int) ∧ (i : Int) < ((xs.length : Nat) : Int) := by omega
            have hsx : slIdx 2 (.sl 5 v 0 xs.length none) (.v (.int .i64 (i : Int))) = some (.ptr 5 v (i * 2)) := by
              unfold slIdx
              simp [hii]
            have hcell : (cs.flatMap Cst.cells)[i * 2 + 1]? = some c0.sl := by rw [Nat.mul_comm]; exact hcell
            have hz0 : bound z = 0 := hlb y (List.mem_of_getElem? hy) z (List.mem_of_getElem? hz)
            have hc77 := fun d => (ans77 he l rs hrs0 (by omega) i k 0).callI (me := 55) (d := d) (ext_77 he) (pure_77 _ _ _) (by simp only [boundL_cons, hrs.bound, boundL_nil, intA, bound_agg, bound_v]; rfl)
            have hc76 := fun d => (hwf i k y z hy hz).callI (me := 55) (d := d) (ext_76 he) (pure_76 _ _ _) (by simp only [boundL_cons, hz0, boundL_nil, ofV_bound]; rfl)
            simp only [intA] at hc77
            simp -implicitDefEqProofs only [go_sem, ↓reduceIte, Int.reduceEq, Int.reduceLT, Int.reduceLE, List.reduceReplicate, intA, setT_nil, setT_cons, sizeP hN7, putP0 hN7, putP hN7, settleP0 hN7, settleP hN7, rowP0 hN7, rowP hN7, storeP0 hN7 hlkY, storeP hN7 hlkY, hr1, hr3, hr5, hsx]
            refine wp_drawX [([], [], false), ([], [], false), ([], [], false), ([], [], false), ([], [], false), ([], [], false), ([], [], false), ([4], [], false), ([4, 7], [], false), ([4], [], false), ([4], [], false), ([4], [], false), ([], [11], false), ([], [], false), ([], [], false), ([], [11, 12], false)] (by kernel_rfl) (by kernel_rfl) ?_
            have hnc : nilCk (.ptr 5 v (i * 2)) = some (.ptr 5 v (i * 2)) := rfl
            have hwq := hwc i k
            have hq0 : ltB 5 (N + 1) = true := by unfold ltB; simp; omega
            have hq1 : ltB 0 N = true := by unfold ltB; simp; omega
            have hq2 : ltB N (N + 1) = true := by unfold ltB; simp
            have hq3 : ltB 1 (N + 1) = true := by unfold ltB; simp; omega
            have hq4 : ltB 3 (N + 1) = true := by unfold ltB; simp; omega
            have hfit : fitsA 24 1 = true := by decide
            have hst := fun (x : AV) (hx : x.flat = true) E => storeLoK (X := Y) (b := 5) (v := v) (k := i * 2 + 1) (x := x) (by omega) (by omega) h5' (by rw [hclen]; omega) hx E
            have hst := fun b' v' l' c' E => hst (.sl b' v' 0 l' c') rfl E
            have n13 : N + 1 + 12 = N + 13 := rfl
            by_cases hne : c0.ls = []
            · have hslv : c0.sl = .v (.slice none 0 0) := by unfold Cst.sl; rw [if_pos hne]
              rw [hslv] at hcell
              simp -implicitDefEqProofs only [go_sem, ↓reduceIte, Int.reduceEq, Int.reduceLT, Int.reduceLE, List.reduceReplicate, intA, setT_nil, setT_cons, sizeP hN7, putP0 hN7, putP hN7, settleP0 hN7, settleP hN7, rowP0 hN7, rowP hN7, storeP0 hN7 hlkY, storeP hN7 hlkY, hr1, hr3, hr5, hcell, hc77, hc76, hrs.cells, hrs.flat, hrs.bound, hnc, hwq.1, hwq.2.1, hwq.2.2, hq0, hq1, hq2, hq3, hq4, hfit, hst, List.flatMap_cons, List.flatMap_nil, n13]
              have hmm : ∀ (m5' : Nat), m5' = (if m5 ≤ bound (AV.sl (N + 13) 0 0 1 none) then bound (AV.sl (N + 13) 0 0 1 none) else m5) → N + 13 < m5' ∧ m5 ≤ m5' := fun m5' h => by
                rw [bound_sl] at h; subst h; split <;> omega
              generalize hM5 : (if m5 ≤ bound (AV.sl (N + 13) 0 0 1 none) then bound (AV.sl (N + 13) 0 0 1 none) else m5) = m5' at *
              have hmm := hmm m5' rfl
              have hci := (List.getElem?_eq_some_iff.1 hc0).1
              have hcset : (cs.flatMap Cst.cells).take (i * 2 + 1) ++ [AV.sl (N + 13) 0 0 1 none] ++ (cs.flatMap Cst.cells).drop (i * 2 + 1 + 1) = (cs.set i ⟨c0.id, c0.ls ++ [wf i k], N + 13, 0⟩).flatMap Cst.cells := by
                exact cells_set hc0 (wf i k) (N + 13) 0 (by rw [hne]; rfl)
              rw [hcset]
              have hYN5 : (Y.put 5 (.cells v m5' 46 2 true ((cs.set i ⟨c0.id, c0.ls ++ [wf i k], N + 13, 0⟩).flatMap Cst.cells))).size = N := by rw [put_sizeI _ (by omega)]; exact hN7
              have hstp : stp55 wf s [.agg [.v (.int .i64 (i : Int)), .v (.int .i64 (k : Int)), .v (.int .i64 0)], z] = (.normal, s.modify i fun c => (c.1, c.2 ++ [wf i k])) := by
                unfold stp55; simp only [Int.toNat_natCast]
              rw [hstp, plus_nil]
              refine ⟨rfl, ?_⟩
              refine fin55 hsm7 hl7 hN hN7 hlk hsz hH7 hcs hc0 (N + 13) 0 m5' (wf i k) ⟨hwq.1, hwq.2.2⟩ ?_ ?_ ?_ ?_ ?_ (Or.inl ⟨hne, by omega⟩) hmm.2 hmm.1
              · rw [settle_lo (by omega), plus_get _ (by omega)]; exact put_get_eq _ (by omega)
              · refine settle_some ?_
                rw [plus_get_hi _ (by omega), hYN5, show N + 13 - N = 13 by omega, hne]; rfl
              · intro b hb h5 _
                rw [settle_lo (by omega), plus_get _ (by omega), put_get_ne _ (by omega) h5]
              · rw [settle_lock]; exact hlk7
              · have := settle_size' (n := N + 1) (H := (Y.put 5 (.cells v m5' 46 2 true ((cs.set i ⟨c0.id, c0.ls ++ [wf i k], N + 13, 0⟩).flatMap Cst.cells))).plus [some (.cells 0 0 32 1 false [.v (.int .i64 (i : Int)), .v (.int .i64 (k : Int)), .v (.int .i64 0)]), none, none, none, none, none, none, none, none, none, none, none, none, some (.cells 0 0 41 1 true [wf i k]), none, none, none]) (by rw [plus_size, hYN5]; simp)
                omega
            · have hslv : c0.sl = .sl c0.b c0.v 0 c0.ls.length none := by unfold Cst.sl; rw [if_neg hne]
              rw [hslv] at hcell
              have hcm := List.mem_of_getElem? hc0
              have hlo := hcs.lo c0 hcm hne
              have hgb : Y.get c0.b = some (.cells c0.v 0 41 1 true c0.ls) := hH7 _ (List.mem_append_right _ (rowsC_mem.2 ⟨c0, hcm, hne, rfl⟩))
              have hbN : c0.b < N := by have := get_ltS hgb; omega
              have hrb : ∀ E, (Y.plus E).row c0.b c0.v = some (0, 41, 1, true, c0.ls) := fun E => by rw [rowLo (by omega)]; exact get_row hgb
              have hkl : c0.ls.length < 2 ^ 32 := by
                have h1 := (List.getElem?_eq_some_iff.1 hz).1
                have h2 := hll y (List.mem_of_getElem? hy)
                rw [hc2, hck]; omega
              have happ := fun E slot => appTo_own (H := Y.plus E) (slot := slot) (e := 41) (sz := 1) (b' := 24) (n := 1) (new := [wf i k]) (hrb E) (Nat.mul_one _) (by show Y.lock ≤ _; omega) (by unfold fitsA; exact decide_eq_true (by omega)) (by omega) (by omega)
              have hpl := fun E o => putLo (X := Y) (b := c0.b) (by omega) E o
              have hq5 : ltB c0.b (N + 1) = true := by unfold ltB; simp; omega
              have hsto := fun o (x : AV) (hx : x.flat = true) E => storeLoK (X := Y.put c0.b o) (b := 5) (v := v) (k := i * 2 + 1) (x := x) (by rw [put_sizeI _ (by omega)]; omega) (by show Y.lock ≤ 5; omega) (get_row ((put_get_ne o (by omega) (by omega)).trans (row_of_get h5'))) (by rw [hclen]; omega) hx E
              have hsto := fun o b' v' l' c' E => hsto o (.sl b' v' 0 l' c') rfl E
              simp -implicitDefEqProofs only [go_sem, ↓reduceIte, Int.reduceEq, Int.reduceLT, Int.reduceLE, List.reduceReplicate, intA, setT_nil, setT_cons, sizeP hN7, putP0 hN7, putP hN7, settleP0 hN7, settleP hN7, rowP0 hN7, rowP hN7, storeP0 hN7 hlkY, storeP hN7 hlkY, hr1, hr3, hr5, hcell, hc77, hc76, hrs.cells, hrs.flat, hrs.bound, hnc, hwq.1, hwq.2.1, hwq.2.2, hq0, hq1, hq2, hq3, hq4, hq5, hfit, hst, List.flatMap_cons, List.flatMap_nil, n13, happ, hpl, hsto]
              have hm5 : (if m5 ≤ bound (AV.sl c0.b (c0.v + 1) 0 (c0.ls.length + 1) none) then bound (AV.sl c0.b (c0.v + 1) 0 (c0.ls.length + 1) none) else m5) = m5 := by
                rw [bound_sl]; split <;> omega
              have hcset := cells_set hc0 (wf i k) c0.b (c0.v + 1) rfl
              rw [hm5, hcset]
              have hs1 : (Y.put c0.b (.cells (c0.v + 1) 0 41 1 true (c0.ls ++ [wf i k]))).size = N := by rw [put_sizeI _ (by omega)]; exact hN7
              have hYN5 : ((Y.put c0.b (.cells (c0.v + 1) 0 41 1 true (c0.ls ++ [wf i k]))).put 5 (.cells v m5 46 2 true ((cs.set i ⟨c0.id, c0.ls ++ [wf i k], c0.b, c0.v + 1⟩).flatMap Cst.cells))).size = N := by rw [put_sizeI _ (by omega)]; exact hs1
              have hstp : stp55 wf s [.agg [.v (.int .i64 (i : Int)), .v (.int .i64 (k : Int)), .v (.int .i64 0)], z] = (.normal, s.modify i fun c => (c.1, c.2 ++ [wf i k])) := by
                unfold stp55; simp only [Int.toNat_natCast]
              rw [hstp, plus_nil]
              refine ⟨rfl, ?_⟩
              refine fin55 hsm7 hl7 hN hN7 hlk hsz hH7 hcs hc0 c0.b (c0.v + 1) m5 (wf i k) ⟨hwq.1, hwq.2.2⟩ ?_ ?_ ?_ ?_ ?_ (Or.inr ⟨hne, rfl⟩) (Nat.le_refl _) hlo.2
              · rw [settle_lo (by omega), plus_get _ (by omega)]; exact put_get_eq _ (by omega)
              · rw [settle_lo (by omega), plus_get _ (by omega), put_get_ne _ (by omega) (by omega)]; exact put_get_eq _ (by omega)
              · intro b hb h5 hbb
                rw [settle_lo (by omega), plus_get _ (by omega), put_get_ne _ (by omega) h5, put_get_ne _ (by omega) hbb]
              · rw [settle_lock]; exact hlk7
              · have := settle_size' (n := N + 1) (H := ((Y.put c0.b (.cells (c0.v + 1) 0 41 1 true (c0.ls ++ [wf i k]))).put 5 (.cells v m5 46 2 true ((cs.set i ⟨c0.id, c0.ls ++ [wf i k], c0.b, c0.v + 1⟩).flatMap Cst.cells))).plus [some (.cells 0 0 32 1 false [.v (.int .i64 (i : Int)), .v (.int .i64 (k : Int)), .v (.int .i64 0)]), none, none, none, none, none, none, none, none, none, none, none, none, none, none, none, none]) (by rw [plus_size, hYN5]; simp)
                omega
        · exact (run_chap (wf := wf) xs 0 rfl (Nat.zero_le _)).1
        · unfold stAt; rw [List.length_mapIdx]
        · exact ⟨_, 0, cs0_of hall wf, rfl⟩
        · rw [rows0, List.append_nil]
          intro p hp
          have hcc := chId_cs hall
          rcases base55_lt hp with h | rfl
          · unfold base55 at hp
            simp only [List.mem_cons, List.not_mem_nil, or_false] at hp
            rcases hp with rfl | rfl | rfl | rfl | rfl | rfl
            · rfl
            · rfl
            · rfl
            · rfl
            · rfl
            · simp at h
          · rw [← hcc]; rfl
        · intro m' X hR hH hd0 hd1 hmv hsz
          rw [(run_chap (wf := wf) xs 0 rfl (Nat.zero_le _)).2] at hR ⊢
          obtain ⟨cs, m5, hcs, rfl⟩ := hR
          have hsz : 8 ≤ X.size := hsz
          have hd0 : X.get 6 = some .dfr := hd0
          generalize hN : X.size = N at *
          have hlk : X.lock = 0 := hmv.lock
          have hlkN : X.lock ≤ N := by rw [hlk]; exact Nat.zero_le _
          have h2 : ∀ E, (X.plus E).row 2 0 = some (0, 24, 1, false, [.v (.slice none 0 0)]) := fun E => by rw [rowLo (by omega)]; exact get_row (hH (2, _) (List.mem_append_left _ (by unfold base55; simp)))
          have h3 : ∀ E, (X.plus E).row 3 0 = some (6, 24, 1, false, [.sl 5 v 0 xs.length none]) := fun E => by rw [rowLo (by omega)]; exact get_row (hH (3, _) (List.mem_append_left _ (by unfold base55; simp)))
          have hst := fun (x : AV) (hx : x.flat = true) E => storeLo (X := X) (b := 2) (m := 0) (e := 24) (sz := 1) (g := false) (cs := [.v (.slice none 0 0)]) (xs := [x]) (by omega) (by omega) (by have := h2 []; rwa [plus_nil] at this) rfl (by simp [hx]) E
          have hst := fun b' v' l' c' E => hst (.sl b' v' 0 l' c') rfl E
          rw [← plus_nil X]
          simp -implicitDefEqProofs only [go_sem, ↓reduceIte, Int.reduceEq, Int.reduceLT, Int.reduceLE, List.reduceReplicate, intA, setT_nil, setT_cons, sizeP hN, putP0 hN, putP hN, settleP0 hN, settleP hN, rowP0 hN, rowP hN, storeP0 hN hlkN, storeP hN hlkN, h2, h3, hst]
          generalize hW : settleH N _ = W
          have hwl : W.lock = 0 := by rw [← hW, settle_lock]; exact hlk
          have hwg : ∀ b, b < N → b ≠ 2 → W.get b = X.get b := fun b hb h2 => by
            rw [← hW, settle_lo hb, plus_nil, put_get_ne _ (by omega) h2]
          have hws : N ≤ W.size := by
            rw [← hW]
            refine settle_size' ?_
            rw [plus_nil, put_sizeI _ (by omega)]; omega
          have hw2 : ∃ mm, W.get 2 = some (.cells 0 mm 24 1 false [.sl 5 v 0 xs.length none]) := by
            rw [← hW, settle_lo (by omega), plus_nil]; exact ⟨_, put_get_eq _ (by omega)⟩
          obtain ⟨mm, hw2⟩ := hw2
          have hkill : killAll [6] W = some (W.put 6 .dead) := by
            unfold killAll
            rw [hwg 6 (by omega) (by omega), hd0]
            show (if W.lock ≤ 6 then killAll [] (W.put 6 .dead) else none) = _
            rw [if_pos (by omega)]; rfl
          have hg : ∀ b, b < N → b ≠ 2 → b ≠ 6 → (W.put 6 .dead).get b = X.get b := fun b hb h2 h6 => by
            rw [put_get_ne _ (by omega) h6, hwg b hb h2]
          have hr2 : (W.put 6 .dead).row 2 0 = some (mm, 24, 1, false, [.sl 5 v 0 xs.length none]) := get_row ((put_get_ne _ (by omega) (by omega)).trans hw2)
          have hk6 : (W.put 6 .dead).lock = 0 := hwl
          have hcl : cs.length = xs.length := by
            have := congrArg List.length hcs.st
            rw [List.length_map] at this; rw [this]; unfold stAt; rw [List.length_mapIdx]
          have hr5 : (W.put 6 .dead).row 5 v = some (m5, 46, 2, true, cs.flatMap Cst.cells) := get_row ((hg 5 (by omega) (by omega) (by omega)).trans (hH (5, _) (List.mem_append_left _ base55_five)))
          have hrc : ∀ c ∈ cs, c.ls ≠ [] → (W.put 6 .dead).row c.b c.v = some (0, 41, 1, true, c.ls) := fun c hc hne => by
            have h1 := hH _ (List.mem_append_right _ (rowsC_mem.2 ⟨c, hc, hne, rfl⟩))
            have h2 := hcs.lo c hc hne
            have h3 := get_ltS h1
            simp only at h1 h3
            exact get_row ((hg c.b (by omega) (by omega) (by omega)).trans h1)
          rw [hkill]
          generalize W.put 6 .dead = V at *
          have hfin := freeze_copied hk6 hcs hr5 hrc (by omega)
          rw [hcl] at hfin
          have hout : (AV.agg [.vs 2 (cs.map fun c => .agg [c.id, c.fz]) none]) = out55 (stAt xs wf xs.length 0) := by
            have hst := hcs.st; simp only at hst; unfold out55; rw [← hst, List.map_map]; rfl
          rw [hout] at hfin
          simp -implicitDefEqProofs only [go_sem, ↓reduceIte, Int.reduceEq, Int.reduceLT, Int.reduceLE, List.reduceReplicate, intA, setT_nil, setT_cons, hr2]
          show freezeV { V with lock := 0 } 1000000 _ = _
          have hV : ({ V with lock := 0 } : Heap) = V := by cases V; simp only at hk6; subst hk6; rfl
          rw [hV]; exact hfin
    | succ μ =>
      obtain ⟨y, hy⟩ := at_lt xs j (by omega)
      obtain ⟨cid, l0, lxs, rfl, hl0, hlc, hll⟩ := hall y (List.mem_of_getElem? hy)
      have hlt : (j : Int) < ((xs.length : Nat) : Int) := by omega
      have hw := wrap_succ j (by omega)
      have hix := hch.idx hy
      have ht : (xs.take (j + 1)).flatMap chId = (xs.take j).flatMap chId ++ [intA cid, .v (.slice none 0 0)] := by
        rw [List.take_add_one, hy, List.flatMap_append]; rfl
      have hcl : ((xs.take j).flatMap chId).length = j * 2 := by
        rw [chId_len (fun y hy => by obtain ⟨a, b, c, h, -⟩ := hall y (List.mem_of_mem_take hy); exact ⟨_, _, h⟩), List.length_take]; omega
      have hcb : boundL ((xs.take j).flatMap chId) = 0 := chId_bound (fun y hy => by obtain ⟨a, b, c, h, -⟩ := hall y (List.mem_of_mem_take hy); exact ⟨_, _, h⟩)
      have hf1 : fitsA 32 1 = true := by decide
      rcases hX with ⟨rfl, rfl⟩ | ⟨c4, v, hj1, rfl⟩
      · simp -implicitDefEqProofs only [go_sem, ↓reduceIte, Int.reduceEq, Int.reduceLT, Int.reduceLE, List.reduceReplicate, intA, setT_nil, setT_cons, hlt, hw, hix, hl0.cells, hl0.flat, hl0.bound, List.flatMap_cons, List.flatMap_nil, hf1, bound_sl]
        rw [trim_no4 _ _ 4 3 _ _ _ rfl (by omega) (by show 4 < 6; omega)]
        refine ⟨μ, by omega, 1, by omega, rfl, Or.inr ⟨[intA cid, l0], 0, by omega, ?_⟩⟩
        rw [ht]; rfl
      · simp -implicitDefEqProofs only [go_sem, ↓reduceIte, Int.reduceEq, Int.reduceLT, Int.reduceLE, List.reduceReplicate, intA, setT_nil, setT_cons, hlt, hw, hix, hl0.cells, hl0.flat, hl0.bound, List.flatMap_cons, List.flatMap_nil]
        rw [appTo_own (m := 0) (e' := 46) (cs := (xs.take j).flatMap chId) (by simp [Heap.row, Heap.get]) hcl.symm (Nat.zero_le _) (by unfold fitsA; exact decide_eq_true (by omega)) (by omega) (by omega)]
        simp -implicitDefEqProofs only [go_sem, ↓reduceIte, Int.reduceEq, Int.reduceLT, Int.reduceLE, List.reduceReplicate, intA, setT_nil, setT_cons, bound_sl, trim_at, hch.bound, hrs.bound]
        exact ⟨μ, by omega, j + 1, by omega, rfl, Or.inr ⟨_, v + 1, by omega, by rw [ht]; rfl⟩⟩
  · exact ⟨0, by omega, rfl, Or.inl ⟨rfl, rfl⟩⟩
end Go.Ev
namespace Go.Ev
open Go.Proofs
set_option maxRecDepth 100000
set_option linter.unusedSimpArgs false
attribute [local irreducible] Wp WpS
/-! ### slices that are closed, or lie in memory -/
def SlH (X : Heap) (xs : List AV) (x : AV) : Prop := SlOf 1 xs x ∨ ∃ b v cap m e g cs, x = .sl b v 0 xs.length cap ∧ b < X.size ∧ X.row b v = some (m, e, 1, g, cs) ∧ cs.take xs.length = xs ∧ xs.length ≤ cs.length
theorem SlH.len {X : Heap} {xs : List AV} {x : AV} (h : SlH X xs x) : slLen x = some (.v (.int .i64 xs.length)) := by
  rcases h with h | ⟨b, v, cap, m, e, g, cs, rfl, -⟩
  · exact h.len
  · rfl
theorem SlH.get {X : Heap} {N : Nat} (hN : X.size = N) {xs : List AV} {x : AV} (h : SlH X xs x) {i : Nat} {z : AV} (hz : xs[i]? = some z) (hzc : z.cells = [z]) (k : IntKind) :
    ∃ p, slIdx 1 x (.v (.int k (i : Int))) = some p ∧ (∀ (t : TypeId) E, isAggT Tryz.prog t = some false → sizeT Tryz.prog t = some 1 → loadA Tryz.prog (X.plus E) t p = some z) ∧ ∀ top, N ≤ top → (objsOf p).all (fun c => ltB c top) = true := by
  have hi := (List.getElem?_eq_some_iff.1 hz).1
  rcases h with h | ⟨b, v, cap, m, e, g, cs, rfl, hb, hr, ht, hl⟩
  · refine ⟨.ro z 0, h.idx hz k, fun t E ha hs => ?_, fun _ _ => rfl⟩
    unfold loadA partOf
    rw [ha, hs]
    show z.cells[0]? = some z
    rw [hzc]; rfl
  · refine ⟨.ptr b v (0 + i * 1), ?_, fun t E ha hs => ?_, fun top h => ?_⟩
    · unfold slIdx
      simp; omega
    · have hrow : (X.plus E).row b v = some (m, e, 1, g, cs) := by rw [rowLo hb, hr]
      unfold loadA
      simp only [hrow]
      unfold partOf
      rw [ha, hs]
      simp only
      rw [Nat.zero_add, Nat.mul_one, ← List.getElem?_take_of_lt (j := xs.length) hi, ht, hz]
    · simp only [objsOf, List.all_cons, List.all_nil, Bool.and_true]
      unfold ltB
      simp; omega
theorem SlH.lock {X : Heap} {xs : List AV} {x : AV} (h : SlH X xs x) (k : Nat) : SlH { X with lock := k } xs x := by
  rcases h with h | ⟨b, v, cap, m, e, g, cs, rfl, hb, hr, ht⟩
  · exact Or.inl h
  · exact Or.inr ⟨b, v, cap, m, e, g, cs, rfl, hb, hr, ht⟩
theorem SlH.closed {X : Heap} {xs : List AV} {x : AV} (h : SlH X xs x) (hb : bound x = 0) (Y : Heap) : SlH Y xs x := by
  rcases h with h | ⟨b, v, cap, m, e, g, cs, rfl, -⟩
  · exact Or.inl h
  · simp [bound] at hb
theorem SlH.yld {X : Heap} {xs : List AV} {x : AV} (h : SlH X xs x) : isYld x = false := by
  rcases h with h | ⟨b, v, cap, m, e, g, cs, rfl, -⟩
  · rcases h with ⟨rfl, _⟩ | ⟨c, rfl⟩ <;> rfl
  · rfl
/-- a call that hands back what is no address, on memory that it leaves -/
theorem callA_still {C : Cfg} {me f : FuncId} {d : Option Tmp} {args : List AV} {X : Heap} {w : Value} (hx : C.ext f = none) (hp : C.pure me f d = true) (hy : args.any isYld = false)
    (h1 : boundL args = 0 → Fn' C f args { objs := [], lock := 0 } (fun v _ => v = .v w)) (h2 : Fn' C f args { X with lock := X.size } (fun v _ => v = .v w)) : callA C (lim C) me f d args X = some (.v w, X) := by
  unfold callA callB callKind
  rw [hx]
  simp only [hp, if_true]
  by_cases hb : boundL args = 0
  · have h1 := h1 hb
    unfold Fn' at h1
    rw [bindO_iff] at h1
    obtain ⟨o, h3, h4⟩ := h1
    rw [if_pos (by rw [hb]; rfl)]
    cases o with
    | ret v H => obtain rfl : v = .v w := h4; simp only [h3]; rfl
    | _ => exact h4.elim
  · unfold Fn' at h2
    rw [bindO_iff] at h2
    obtain ⟨o, h3, h4⟩ := h2
    rw [if_neg (fun h => hb (Nat.eq_of_beq_eq_true h)), hy]
    simp only [Bool.false_eq_true, if_false]
    cases o with
    | ret v H => obtain rfl : v = .v w := h4; simp only [h3]; rfl
    | _ => exact h4.elim
end Go.Ev
namespace Go.Ev
open Go.Proofs
set_option maxRecDepth 100000
set_option linter.unusedSimpArgs false
attribute [local irreducible] Wp WpS
theorem drop_eq_cons {α : Type} {xs : List α} {j : Nat} {x : α} (h : xs[j]? = some x) : xs.drop j = x :: xs.drop (j + 1) := by
  obtain ⟨hj, rfl⟩ := List.getElem?_eq_some_iff.1 h
  exact List.drop_eq_getElem_cons hj
theorem trimP0 {X : Heap} {N : Nat} (hN : X.size = N) (vs : List AV) (ms : List Nat) : (X.plus []).trim N vs ms = X.plus [] := by rw [plus_nil, ← hN, trim_size]
theorem isAgg9 : isAggT Tryz.prog 9 = some false := by kernel_rfl
end Go.Ev
namespace Go.Ev
open Go.Proofs Go.Sort
set_option maxRecDepth 100000
set_option linter.unusedSimpArgs false
attribute [local irreducible] Wp WpS
@[go_sem] theorem keepS_10 : Cs.keep 10 = [0, 2, 4, 1, 6, 9, 50, 54, 53, 55, 52, 11, 61, 95, 94, 96, 20, 21, 3, 13, 15, 17, 19, 23, 18, 12, 22, 149, 14, 152, 151, 153, 150, 158, 157, 159, 156, 27, 26, 29, 169, 24, 16, 174, 173, 175, 172, 31, 186, 8] := rfl
@[go_sem] theorem alterS_10 (d : Option Tmp) : Cs.alter 10 d = false := rfl
theorem fnS_10 : Cs.P.funcs[10]? = some Tryz.f10 := Tryz.func10
@[go_sem] theorem keepS_32 : Cs.keep 32 = [0, 2, 7, 17, 1, 21, 24, 23, 25, 22, 6, 10, 31, 8, 4, 5] := rfl
theorem fnS_32 : Cs.P.funcs[32]? = some Tryz.f32 := Tryz.func32
theorem extS_32 : Cs.ext 32 = none := rfl
theorem pureS_32 (h : FuncId) (d : Option Tmp) : Cs.pure h 32 d = true := by simp [Cs, Cx, pureF, impF, impC]
@[go_sem] theorem keepS_60 : Cs.keep 60 = [0, 2] := rfl
theorem fnS_60 : Cs.P.funcs[60]? = some Tryz.f60 := Tryz.func60
theorem extS_60 : Cs.ext 60 = none := rfl
theorem pureS_60 (h : FuncId) (d : Option Tmp) : Cs.pure h 60 d = true := by simp [Cs, Cx, pureF, impF, impC]
@[go_sem] theorem keepS_83 : Cs.keep 83 = [0, 8, 3, 13, 25, 5, 4, 32, 44, 2] := rfl
theorem fnS_83 : Cs.P.funcs[83]? = some Tryz.f83 := Tryz.func83
theorem extS_83 : Cs.ext 83 = none := rfl
theorem pureS_83 (h : FuncId) (d : Option Tmp) : Cs.pure h 83 d = false := by simp [Cs, Cx, pureF, impF, impC]
@[go_sem] theorem keepS_84 : Cs.keep 84 = [0, 5, 1, 4] := rfl
theorem fnS_84 : Cs.P.funcs[84]? = some Tryz.f84 := Tryz.func84
theorem extS_84 : Cs.ext 84 = none := rfl
theorem pureS_84 (h : FuncId) (d : Option Tmp) : Cs.pure h 84 d = false := by simp [Cs, Cx, pureF, impF, impC]
@[go_sem] theorem keepS_96 : Cs.keep 96 = [0, 4, 2] := rfl
@[go_sem] theorem alterS_96 (d : Option Tmp) : Cs.alter 96 d = false := rfl
theorem fnS_96 : Cs.P.funcs[96]? = some Tryz.f96 := Tryz.func96
theorem extS_96 : Cs.ext 96 = none := rfl
theorem pureS_96 (h : FuncId) (d : Option Tmp) : Cs.pure h 96 d = false := by simp [Cs, Cx, pureF, impF, impC]
theorem extS_97 : Cs.ext 97 = none := rfl
theorem pureS_97 (h : FuncId) (d : Option Tmp) : Cs.pure h 97 d = false := by simp [Cs, Cx, pureF, impF, impC]
/-! ### rows of places -/
def clP (ps : List P3) : List AV := (flatE encP ps).map AV.v
theorem clP_cons (p : P3) (ps : List P3) : clP (p :: ps) = [intA p.1, intA p.2.1, intA p.2.2] ++ clP ps := by
  unfold clP flatE encP intA
  simp
theorem clP_append (ps qs : List P3) : clP (ps ++ qs) = clP ps ++ clP qs := by
  unfold clP flatE; simp
theorem clP_len (ps : List P3) : (clP ps).length = ps.length * 3 := by
  unfold clP; rw [List.length_map, flatE_len (k := 3) (fun _ => rfl)]
theorem clP_flat (ps : List P3) : (clP ps).all AV.flat = true := by
  refine List.all_eq_true.2 fun x hx => ?_
  obtain ⟨y, -, rfl⟩ := List.mem_map.1 hx
  rfl
theorem clP_bound (ps : List P3) : boundL (clP ps) = 0 := by
  refine Nat.le_zero.1 (boundL_le.2 fun x hx => ?_)
  obtain ⟨y, -, rfl⟩ := List.mem_map.1 hx
  exact Nat.le_refl _
theorem size32 : sizeT Tryz.prog 32 = some 3 := by kernel_rfl
theorem app47 (H : Heap) (slot : Nat) (s x : AV) : appendA Tryz.prog H slot [47, 47] [s, x] = appG 32 3 24 H slot s (cellsFrom H 3 x) := app_eq2 (by kernel_rfl) (by kernel_rfl) (by kernel_rfl) (by kernel_rfl) (by decide) (by decide) H slot s x
theorem eqNil47 (t : Tmp) (b v o l : Nat) (c : Option Nat) : binA Tryz.prog .eql 47 (.tmp t) (.const (.slice none 0 0)) (.sl b v o l c) (.v (.slice none 0 0)) = some (.v (.bool false)) := by
  unfold binA nilEq
  rw [und_47]; rfl
theorem eqNil47n (t : Tmp) : binA Tryz.prog .eql 47 (.tmp t) (.const (.slice none 0 0)) (.v (.slice none 0 0)) (.v (.slice none 0 0)) = some (.v (.bool true)) := by
  unfold binA nilEq
  rw [und_47]; rfl
theorem appTo_vs0 (e sz b : Nat) (H : Heap) (slot n : Nat) (new : List AV) : appTo e sz b H slot n new (.vs sz [] (some 0)) = if n = 0 then some (.vs sz [] (some 0), H) else if fitsA b n = true then some (.sl slot 0 0 n none, H.put slot (.cells 0 (boundL new) e sz true new)) else none := by
  unfold appTo
  simp only [ne_eq, not_true_eq_false, if_false, List.length_nil, List.flatMap_nil, List.all_nil, Bool.and_true, List.nil_append, Nat.zero_add, if_true]
  rw [show Nat.max (boundL []) (boundL new) = boundL new from Nat.zero_max (boundL new)]
/-- what is left behind, to the object -/
def rawX (H : Heap) (w : AV) (Y : Heap) : PostO := fun v H' => v = w ∧ H'.trim H.size [v] [] = Y
theorem callA_rawX {C : Cfg} {me f : FuncId} {d : Option Tmp} {args : List AV} {H Y : Heap} {w : AV} (hx : C.ext f = none) (hp : C.pure me f d = false) (h : Fn' C f args H (rawX H w Y)) : callA C (lim C) me f d args H = some (w, Y) := by
  unfold Fn' at h
  rw [bindO_iff] at h
  obtain ⟨o, h1, h2⟩ := h
  have hk : callKind C me f d args = 0 := by unfold callKind; rw [hp]; rfl
  cases o with
  | ret v H' =>
    obtain ⟨rfl, hF⟩ := h2
    unfold callA callB
    rw [hx]
    simp only [hk, h1, hF]
  | _ => exact h2.elim
theorem rawX_far {X Y : Heap} {N : Nat} (hN : X.size = N) (w v : AV) (h : v = w) (hv : N < bound v) : AtO (rawX X w Y) v Y := by
  refine ⟨h, ?_⟩
  unfold Heap.trim
  rw [if_neg]
  rw [Bool.and_eq_true, Bool.and_eq_true, Bool.and_eq_true, Nat.ble_eq]
  have : boundL [v] = bound v := by show Nat.max (bound v) 0 = _; exact Nat.max_eq_left (Nat.zero_le _)
  rw [this]
  exact fun g => by have := g.1.1.1; omega
theorem rawX_same {X : Heap} (w v : AV) (h : v = w) : AtO (rawX X w X) v X := ⟨h, trim_size _ _ _⟩
theorem call96_nil (X : Heap) (me : FuncId) (d : Option Tmp) : callA Cs (lim Cs) me 96 d [.v (.slice none 0 0)] X = some (.v (.slice none 0 0), X) := by
  refine callA_rawX extS_96 (pureS_96 _ _) ?_
  rw [fn_step fnS_96 (show Tryz.f96.body = some _ from rfl)]
  generalize hKK : rawX X _ _ = KK
  simp -implicitDefEqProofs only [Tryz.f96, go_sem, ↓reduceIte, Int.reduceEq, Int.reduceLT, Int.reduceLE, List.reduceReplicate, intA, setT_nil, setT_cons, ↓boolP_bool, ↓iteB_true, ↓iteB_false, eqNil47n]
  rw [← hKK]
  exact rawX_same _ _ rfl
set_option maxHeartbeats 1000000 in
theorem call96 {X : Heap} {N : Nat} (hN : X.size = N) (ps : List P3) (h0 : ps ≠ []) (hn : ps.length < 2 ^ 33) (b v : Nat) (hb : b < N) (hr : X.row b v = some (0, 32, 3, true, clP ps)) (me : FuncId) (d : Option Tmp) :
    callA Cs (lim Cs) me 96 d [.sl b v 0 ps.length none] X = some (.sl N 0 0 ps.length none, X.plus [some (.cells 0 0 32 3 true (clP ps))]) := by
  refine callA_rawX extS_96 (pureS_96 _ _) ?_
  rw [fn_step fnS_96 (show Tryz.f96.body = some _ from rfl)]
  have hv0 : ps.length ≠ 0 := fun h => h0 (List.length_eq_zero_iff.1 h)
  have hf : fitsA 24 ps.length = true := by unfold fitsA; exact decide_eq_true (by omega)
  have hrow : ∀ E, (X.plus E).row b v = some (0, 32, 3, true, clP ps) := fun E => by rw [rowLo (by omega), hr]
  have hl3 := clP_len ps
  generalize hKK : rawX X _ _ = KK
  rw [← plus_nil X]
  simp -implicitDefEqProofs only [Tryz.f96, go_sem, ↓reduceIte, Int.reduceEq, Int.reduceLT, Int.reduceLE, List.reduceReplicate, intA, setT_nil, setT_cons, ↓boolP_bool, ↓iteB_true, ↓iteB_false, eqNil47, sizeP hN, putP0 hN, putP hN, settleP0 hN, settleP hN, List.length_nil, Nat.add_zero, app47, hrow, hl3, List.take_of_length_le (Nat.le_of_eq hl3), clP_flat, clP_bound, hv0, hf, appTo_vs0]
  rw [← hKK]
  exact rawX_far hN _ _ rfl (Nat.lt_succ_self _)
/-! ### sorting -/
theorem takeP (ps : List P3) : takeE 3 decP ps.length (clP ps) = some ps := by
  have := takeE_flat codedP [] ps
  rw [List.append_nil] at this
  exact this
theorem antiP' (l : List P3) : antiB ltP eqvP l = true := by rw [← ltF_P]; exact antiP l
def srtP (ps : List P3) : List P3 := sortL ltP ps
theorem srtP_len (ps : List P3) : (srtP ps).length = ps.length := (sortL_perm _ ps).length_eq
theorem call97 {X : Heap} {N : Nat} (hN : X.size = N) (hlk : X.lock ≤ N) (ps : List P3) (h0 : ps ≠ []) (hn : ps.length < 2 ^ 33) (me : FuncId) (d : Option Tmp) :
    callA Cs (lim Cs) me 97 d [.sl N 0 0 ps.length none, .fn (.func 85) [] []] (X.plus [some (.cells 0 0 32 3 true (clP ps))]) = some (.tup [], X.plus [some (.cells 0 0 32 3 true (clP (srtP ps)))]) := by
  have hv0 : ps.length ≠ 0 := fun h => h0 (List.length_eq_zero_iff.1 h)
  have hrow := rowP0 hN [some (.cells 0 0 32 3 true (clP ps))] 0
  have hst := storeP0 hN hlk [some (.cells 0 0 32 3 true (clP ps))] 0 0 (clP (srtP ps))
  have h3 : (clP (srtP ps)).length = (clP ps).length := by rw [clP_len, clP_len, srtP_len]
  have hg : sortH 3 encP decP eqvP cmpPl 85 [.sl N 0 0 ps.length none, .fn (.func 85) [] []] (X.plus [some (.cells 0 0 32 3 true (clP ps))]) = some (.tup [], X.plus [some (.cells 0 0 32 3 true (clP (srtP ps)))]) := by
    unfold sortH
    simp only [if_true, hv0, if_false, hrow, List.getElem?_cons_zero, Option.join_some, objRow_cells]
    rw [if_pos (by omega), List.drop_zero, takeP]
    simp only [ltF_P, antiP', if_true]
    rw [show (flatE encP (sortL ltP ps)).map AV.v = clP (srtP ps) from rfl, hst]
    simp only [List.getElem?_cons_zero, Option.join_some, stP_cells]
    rw [if_pos (show True ∧ 0 + (clP (srtP ps)).length ≤ (clP ps).length ∧ (clP (srtP ps)).all AV.flat = true from ⟨trivial, by omega, clP_flat _⟩)]
    simp only [Option.map_some, sop_zero, clP_bound]
    rw [show splice 0 (clP (srtP ps)) (clP ps) = clP (srtP ps) from by unfold splice; rw [List.take_zero, List.nil_append, Nat.zero_add, h3, List.drop_length, List.append_nil]]
    rfl
  have hk : callKind Cs me 97 d [.sl N 0 0 ps.length none, .fn (.func 85) [] []] = 0 := by unfold callKind; rw [pureS_97]; rfl
  have hl : lim Cs (.call 97 [.sl N 0 0 ps.length none, .fn (.func 85) [] []] (X.plus [some (.cells 0 0 32 3 true (clP ps))])) = some (.ret (.tup []) (X.plus [some (.cells 0 0 32 3 true (clP (srtP ps)))])) := by
    rw [lim_eq]
    have hla : Cs.lay 97 = some (sortH 3 encP decP eqvP cmpPl 85) := rfl
    simp only [taskA, hla, hg, Option.map_some]
  unfold callA
  rw [extS_97]
  unfold callB
  simp only [hk, hl]
  rw [show (X.plus [some (.cells 0 0 32 3 true (clP ps))]).size = (X.plus [some (.cells 0 0 32 3 true (clP (srtP ps)))]).size by rw [sizeP hN, sizeP hN]; rfl, trim_size]
theorem call97_nil (X : Heap) (g : FuncId) (hg : g = 85) (me : FuncId) (d : Option Tmp) : callA Cs (lim Cs) me 97 d [.v (.slice none 0 0), .fn (.func g) [] []] X = some (.tup [], X) := by
  subst hg
  have hk : callKind Cs me 97 d [.v (.slice none 0 0), .fn (.func 85) [] []] = 0 := by unfold callKind; rw [pureS_97]; rfl
  have hl : lim Cs (.call 97 [.v (.slice none 0 0), .fn (.func 85) [] []] X) = some (.ret (.tup []) X) := by
    rw [lim_eq]
    have hla : Cs.lay 97 = some (sortH 3 encP decP eqvP cmpPl 85) := rfl
    simp only [taskA, hla]
    rfl
  unfold callA
  rw [extS_97]
  unfold callB
  simp only [hk, hl]
  rw [trim_size]
/-- in order -/
theorem call84_nil (X : Heap) (me : FuncId) (d : Option Tmp) : callA Cs (lim Cs) me 84 d [.v (.slice none 0 0), .fn (.func 85) [] []] X = some (.v (.slice none 0 0), X) := by
  refine callA_rawX extS_84 (pureS_84 _ _) ?_
  rw [fn_step fnS_84 (show Tryz.f84.body = some _ from rfl)]
  generalize hKK : rawX X _ _ = KK
  simp -implicitDefEqProofs only [Tryz.f84, go_sem, ↓reduceIte, Int.reduceEq, Int.reduceLT, Int.reduceLE, List.reduceReplicate, intA, setT_nil, setT_cons, ↓boolP_bool, ↓iteB_true, ↓iteB_false, call96_nil, call97_nil]
  rw [← hKK]
  exact rawX_same _ _ rfl
theorem call84 {X : Heap} {N : Nat} (hN : X.size = N) (hlk : X.lock ≤ N) (ps : List P3) (h0 : ps ≠ []) (hn : ps.length < 2 ^ 33) (b v : Nat) (hb : b < N) (hr : X.row b v = some (0, 32, 3, true, clP ps)) (me : FuncId) (d : Option Tmp) :
    callA Cs (lim Cs) me 84 d [.sl b v 0 ps.length none, .fn (.func 85) [] []] X = some (.sl N 0 0 ps.length none, X.plus [some (.cells 0 0 32 3 true (clP (srtP ps)))]) := by
  refine callA_rawX extS_84 (pureS_84 _ _) ?_
  rw [fn_step fnS_84 (show Tryz.f84.body = some _ from rfl)]
  have h96 := call96 hN ps h0 hn b v hb hr
  have h97 := call97 hN hlk ps h0 hn
  have hb1 : ltB b N = true := by unfold ltB; simp; omega
  rw [← plus_nil X] at h96 ⊢
  generalize hKK : rawX (X.plus []) _ _ = KK
  simp -implicitDefEqProofs only [Tryz.f84, go_sem, ↓reduceIte, Int.reduceEq, Int.reduceLT, Int.reduceLE, List.reduceReplicate, intA, setT_nil, setT_cons, ↓boolP_bool, ↓iteB_true, ↓iteB_false, h96, h97, sizeP hN, putP0 hN, putP hN, settleP0 hN, settleP hN, List.length_nil, Nat.add_zero]
  rw [← hKK, plus_nil]
  exact rawX_far hN _ _ rfl (Nat.lt_succ_self _)
end Go.Ev
/- Lists in strict order: each once. -/
namespace Go.Ev
section
variable {α : Type} [DecidableEq α]
/-- of those that lie side by side and are the same, one -/
def onceL : List α → List α
  | [] => []
  | x :: r => match r with
    | [] => [x]
    | y :: _ => if x = y then onceL r else x :: onceL r
theorem onceL_cons2 (x y : α) (r : List α) : onceL (x :: y :: r) = if x = y then onceL (y :: r) else x :: onceL (y :: r) := rfl
theorem onceL_mem : ∀ (l : List α) (a : α), a ∈ onceL l ↔ a ∈ l
  | [], a => Iff.rfl
  | [x], a => Iff.rfl
  | x :: y :: r, a => by
    rw [onceL_cons2]
    split
    · rename_i h; subst h
      rw [onceL_mem (x :: r) a]; simp
    · rw [List.mem_cons, onceL_mem (y :: r) a, ← List.mem_cons]
/-- in strict order -/
structure StrictO (lt : α → α → Bool) : Prop where
  irrefl : ∀ a, lt a a = false
  trans : ∀ a b c, lt a b = true → lt b c = true → lt a c = true
  total : ∀ a b, lt a b = false → lt b a = false → a = b
theorem onceL_strict {lt : α → α → Bool} (h : StrictO lt) : ∀ {l : List α}, l.Pairwise (fun a b => lt b a = false) → (onceL l).Pairwise (fun a b => lt a b = true)
  | [], _ => List.Pairwise.nil
  | [x], _ => by simp [onceL]
  | x :: y :: r, hp => by
    rw [onceL_cons2]
    obtain ⟨h1, h2⟩ := List.pairwise_cons.1 hp
    split
    · exact onceL_strict h h2
    · rename_i hne
      refine List.pairwise_cons.2 ⟨fun a ha => ?_, onceL_strict h h2⟩
      have ha' := (onceL_mem _ a).1 ha
      have hyx := h1 y List.mem_cons_self
      have hxy : lt x y = true := by
        cases hc : lt x y with
        | true => rfl
        | false => exact absurd (h.total x y hc hyx) hne
      rcases List.mem_cons.1 ha' with rfl | har
      · exact hxy
      · have hya := (List.pairwise_cons.1 h2).1 a har
        cases hc : lt y a with
        | true => exact h.trans _ _ _ hxy hc
        | false => rw [← h.total y a hc hya]; exact hxy
theorem strict_uniq {β : Type} {lt : β → β → Bool} (h : StrictO lt) : ∀ {l m : List β}, l.Pairwise (fun a b => lt a b = true) → m.Pairwise (fun a b => lt a b = true) → (∀ a, a ∈ l ↔ a ∈ m) → l = m
  | [], [], _, _, _ => rfl
  | [], y :: m, _, _, hm => absurd ((hm y).2 List.mem_cons_self) (by simp)
  | x :: l, [], _, _, hm => absurd ((hm x).1 List.mem_cons_self) (by simp)
  | x :: l, y :: m, h1, h2, hm => by
    obtain ⟨a1, a2⟩ := List.pairwise_cons.1 h1
    obtain ⟨b1, b2⟩ := List.pairwise_cons.1 h2
    have hxy : x = y := by
      rcases List.mem_cons.1 ((hm x).1 List.mem_cons_self) with e | e
      · exact e
      · rcases List.mem_cons.1 ((hm y).2 List.mem_cons_self) with e' | e'
        · exact e'.symm
        · have := h.trans _ _ _ (b1 x e) (a1 y e')
          rw [h.irrefl] at this; cases this
    subst hxy
    rw [strict_uniq h a2 b2 fun a => ?_]
    constructor
    · intro ha
      rcases List.mem_cons.1 ((hm a).1 (List.mem_cons_of_mem _ ha)) with e | e
      · subst e; have := a1 a ha; rw [h.irrefl] at this; cases this
      · exact e
    · intro ha
      rcases List.mem_cons.1 ((hm a).2 (List.mem_cons_of_mem _ ha)) with e | e
      · subst e; have := b1 a ha; rw [h.irrefl] at this; cases this
      · exact e
theorem strict_nodup {β : Type} {lt : β → β → Bool} (h : StrictO lt) {l : List β} (hp : l.Pairwise (fun a b => lt a b = true)) : l.Nodup :=
  hp.imp fun {a b} hab e => by subst e; rw [h.irrefl] at hab; cases hab
/-- how many of one list are in another one, both in strict order -/
theorem nodup_sub_len : ∀ {l m : List α}, l.Nodup → (∀ a ∈ l, a ∈ m) → l.length ≤ m.length
  | [], _, _, _ => Nat.zero_le _
  | x :: l, m, hn, hs => by
    obtain ⟨h1, h2⟩ := List.nodup_cons.1 hn
    have hx := hs x List.mem_cons_self
    have : l.length ≤ (m.erase x).length := nodup_sub_len h2 fun a ha => by
      have hne : a ≠ x := fun e => h1 (e ▸ ha)
      exact (List.mem_erase_of_ne hne).2 (hs a (List.mem_cons_of_mem _ ha))
    rw [List.length_erase_of_mem hx] at this
    have hpos : 0 < m.length := List.length_pos_of_mem hx
    simp only [List.length_cons]; omega
theorem filter_len_eq {l m : List α} (hl : l.Nodup) (hm : m.Nodup) (hs : ∀ a ∈ l, a ∈ m) : (m.filter fun a => decide (a ∈ l)).length = l.length := by
  refine Nat.le_antisymm (nodup_sub_len (hm.filter _) fun a ha => ?_) (nodup_sub_len hl fun a ha => ?_)
  · exact of_decide_eq_true (List.mem_filter.1 ha).2
  · exact List.mem_filter.2 ⟨hs a ha, decide_eq_true ha⟩
/-! the same by steps -/
/-- what is kept of a list that goes on, with the last one -/
theorem onceL_snoc : ∀ (l : List α) (a b : α), onceL (l ++ [a, b]) = if a = b then onceL (l ++ [a]) else onceL (l ++ [a]) ++ [b]
  | [], a, b => by
    show onceL [a, b] = _
    rw [onceL_cons2]
    by_cases h : a = b
    · subst h; simp [onceL]
    · simp [onceL, h]
  | [x], a, b => by
    show onceL (x :: a :: [b]) = if a = b then onceL (x :: a :: []) else onceL (x :: a :: []) ++ [b]
    by_cases h : x = a <;> by_cases h2 : a = b <;> simp [onceL, h, h2]
  | x :: y :: r, a, b => by
    have ih := onceL_snoc (y :: r) a b
    show onceL (x :: y :: (r ++ [a, b])) = if a = b then onceL (x :: y :: (r ++ [a])) else onceL (x :: y :: (r ++ [a])) ++ [b]
    rw [onceL_cons2, onceL_cons2]
    simp only [List.cons_append] at ih
    rw [ih]
    by_cases h : x = y <;> by_cases h2 : a = b <;> simp [h, h2]
theorem onceL_le : ∀ l : List α, (onceL l).length ≤ l.length
  | [] => Nat.le_refl _
  | [x] => Nat.le_refl _
  | x :: y :: r => by
    rw [onceL_cons2]
    have := onceL_le (y :: r)
    split
    · simp only [List.length_cons] at *; omega
    · simp only [List.length_cons] at *; omega
/-- each step of a list that goes on: its element i and the one before -/
theorem onceL_take {l : List α} {i : Nat} {a b : α} (h0 : 0 < i) (ha : l[i - 1]? = some a) (hb : l[i]? = some b) : onceL (l.take (i + 1)) = if a = b then onceL (l.take i) else onceL (l.take i) ++ [b] := by
  have h1 : l.take (i + 1) = l.take (i - 1) ++ [a, b] := by
    rw [List.take_add_one, hb, show i = (i - 1) + 1 by omega, List.take_add_one, ha]
    simp
  have h2 : l.take i = l.take (i - 1) ++ [a] := by
    rw [show i = (i - 1) + 1 by omega, List.take_add_one]
    simp [ha]
  rw [h1, h2, onceL_snoc]
/-- nothing is the same as the one before: all is kept -/
theorem onceL_id : ∀ {l : List α}, (∀ i a b, l[i]? = some a → l[i + 1]? = some b → a ≠ b) → onceL l = l
  | [], _ => rfl
  | [x], _ => rfl
  | x :: y :: r, h => by
    rw [onceL_cons2, if_neg (h 0 x y rfl rfl), onceL_id fun i a b ha hb => h (i + 1) a b (by simpa using ha) (by simpa using hb)]
end
end Go.Ev
namespace Go.Ev
open Go.Proofs Go.Sort
set_option maxRecDepth 100000
set_option linter.unusedSimpArgs false
/-! ### places in doubt -/
theorem strictP : StrictO ltP := by
  refine ⟨fun a => ?_, fun a b c h1 h2 => ?_, fun a b h1 h2 => ?_⟩
  · simp [ltP]
  · simp only [ltP, decide_eq_true_eq] at *; omega
  · simp only [ltP, decide_eq_false_iff_not] at *
    obtain ⟨a1, a2, a3⟩ := a
    obtain ⟨b1, b2, b3⟩ := b
    simp only [Prod.mk.injEq] at *
    omega
def atR (r : Rd) : P3 := (r.ch, r.ln, r.wd)
/-- the places of a copy that are in doubt -/
def dbtL (rs : List Rd) : List P3 := (rs.filter fun r => !decide (r.kind = 2)).map atR
theorem dbtL_len (rs : List Rd) : (dbtL rs).length ≤ rs.length := by
  unfold dbtL; rw [List.length_map]; exact List.length_filter_le _ _
def allD (cs : List (Int × List Rd)) : List P3 := cs.flatMap fun c => dbtL c.2
theorem allD_mem {cs : List (Int × List Rd)} {p : P3} : p ∈ allD cs ↔ ∃ c ∈ cs, p ∈ dbtL c.2 := by
  unfold allD; rw [List.mem_flatMap]
def doubtL (cs : List (Int × List Rd)) : List P3 := onceL (srtP (allD cs))
theorem srtP_mem {l : List P3} {p : P3} : p ∈ srtP l ↔ p ∈ l := (sortL_perm _ l).mem_iff
theorem doubtL_mem {cs : List (Int × List Rd)} {p : P3} : p ∈ doubtL cs ↔ ∃ c ∈ cs, p ∈ dbtL c.2 := by
  unfold doubtL; rw [onceL_mem, srtP_mem, allD_mem]
theorem swoP' : SWO ltP := by rw [← ltF_P]; exact swoP
theorem doubtL_str (cs : List (Int × List Rd)) : (doubtL cs).Pairwise fun a b => ltP a b = true := onceL_strict strictP (sortL_asc swoP' _)
theorem doubtL_nodup (cs : List (Int × List Rd)) : (doubtL cs).Nodup := strict_nodup strictP (doubtL_str cs)
theorem doubtL_same {cs ds : List (Int × List Rd)} (h : ∀ c, c ∈ cs ↔ c ∈ ds) : doubtL cs = doubtL ds :=
  strict_uniq strictP (doubtL_str cs) (doubtL_str ds) fun p => by simp only [doubtL_mem, h]
theorem doubtL_sub {cs ds : List (Int × List Rd)} (h : ∀ c ∈ cs, c ∈ ds) : ∀ p ∈ doubtL cs, p ∈ doubtL ds := fun p hp => by
  obtain ⟨c, hc, hd⟩ := doubtL_mem.1 hp
  exact doubtL_mem.2 ⟨c, h c hc, hd⟩
end Go.Ev
namespace Go.Ev
open Go.Proofs
set_option maxRecDepth 100000
set_option linter.unusedSimpArgs false
attribute [local irreducible] Wp WpS
end Go.Ev
namespace Go.Ev
open Go.Proofs
set_option maxRecDepth 100000
set_option linter.unusedSimpArgs false
attribute [local irreducible] Wp WpS
def greatCB (l : List Rd) : Bool := decide (30 < l.length) || l.any fun r => decide (40 < r.word.size)
theorem any_cons_drop {α : Type} {xs : List α} {j : Nat} {x : α} (h : xs[j]? = some x) (p : α → Bool) : (xs.drop j).any p = (p x || (xs.drop (j + 1)).any p) := by rw [drop_eq_cons h]; rfl
set_option maxHeartbeats 2000000 in
theorem ans56 {e : Exts} (id : Int) (l : List Rd) (x : AV) (hx : RdsA l x) : Ans (Cx e) 56 [.agg [intA id, x]] (.v (.bool (greatCB l))) := by
  have hx : SlOf 5 (l.map rdV) x := hx
  unfold Ans
  rw [fn_step (fn_56 e) (show Tryz.f56.body = some _ from rfl)]
  by_cases hl : 30 < (l.length : Int)
  · have hg : greatCB l = true := by unfold greatCB; rw [decide_eq_true (by omega)]; rfl
    simp -implicitDefEqProofs only [Tryz.f56, go_sem, ↓reduceIte, Int.reduceEq, Int.reduceLT, Int.reduceLE, List.reduceReplicate, intA, setT_nil, setT_cons, hx.len, hx.cells, hx.flat, hx.bound, List.length_map, hl]
    rw [hg]
  · have hg : greatCB l = l.any fun r => decide (40 < r.word.size) := by unfold greatCB; rw [decide_eq_false (by omega)]; rfl
    simp -implicitDefEqProofs only [Tryz.f56, go_sem, ↓reduceIte, Int.reduceEq, Int.reduceLT, Int.reduceLE, List.reduceReplicate, intA, setT_nil, setT_cons, hx.len, hx.cells, hx.flat, hx.bound, List.length_map, hl]
    refine Lp_rule (P := fun μ a' H => ∃ j, j ≤ l.length ∧ l.length = j + μ ∧ a' = ⟨23, [(0, .agg [intA id, x]), (1, .ptr 0 0 0), (2, .v (.bool false)), (7, .v (.bool false)), (3, intA j)], []⟩ ∧ H = ⟨[some (.cells 0 0 53 1 false [intA id, x])], 0⟩ ∧ greatCB l = (l.drop j).any fun r => decide (40 < r.word.size)) ?_ l.length _ _ ⟨0, by omega, by omega, rfl, rfl, hg⟩
    rintro μ _ _ ⟨j, hj1, hj2, rfl, rfl, ho⟩
    by_cases hlt : (j : Int) < (l.length : Int)
    · obtain ⟨r, hr⟩ := at_lt l j (by omega)
      have hw := wrap_succ j (by omega)
      have hi := hx.idx (rds_get hr)
      unfold rdV at hi
      rw [any_cons_drop hr] at ho
      by_cases hs : 40 < (r.word.size : Int)
      · have h0 : greatCB l = true := by rw [ho, decide_eq_true (by omega)]; rfl
        simp -implicitDefEqProofs only [go_sem, ↓reduceIte, Int.reduceEq, Int.reduceLT, Int.reduceLE, List.reduceReplicate, intA, setT_nil, setT_cons, hx.len, List.length_map, hlt, hw, hi, hs]
        rw [h0]
      · have h0 : greatCB l = (l.drop (j + 1)).any fun r => decide (40 < r.word.size) := by rw [ho, decide_eq_false (by omega)]; rfl
        simp -implicitDefEqProofs only [go_sem, ↓reduceIte, Int.reduceEq, Int.reduceLT, Int.reduceLE, List.reduceReplicate, intA, setT_nil, setT_cons, hx.len, List.length_map, hlt, hw, hi, hs, trim_at, hx.bound]
        exact ⟨μ - 1, by omega, j + 1, by omega, by omega, rfl, rfl, h0⟩
    · have h0 : greatCB l = false := by rw [ho, show l.drop j = [] from List.drop_eq_nil_of_le (by omega)]; rfl
      simp -implicitDefEqProofs only [go_sem, ↓reduceIte, Int.reduceEq, Int.reduceLT, Int.reduceLE, List.reduceReplicate, intA, setT_nil, setT_cons, hx.len, List.length_map, hlt]
      rw [h0]
theorem call56 {e : Exts} (he : Quiet e) (id : Int) (l : List Rd) (x : AV) (hx : RdsA l x) (me : FuncId) (d : Option Tmp) (H : Heap) : callA (Cx e) (lim (Cx e)) me 56 d [.agg [.v (.int .i64 id), x]] H = some (.v (.bool (greatCB l)), H) :=
  (ans56 id l x hx).call (ext_56 he) (pure_56 _ _ _) (by simp only [boundL_cons, bound_agg, intA, bound_v, SlOf.bound hx, boundL_nil]; rfl) H
end Go.Ev
namespace Go.Ev
open Go.Proofs
set_option maxRecDepth 100000
set_option linter.unusedSimpArgs false
attribute [local irreducible] Wp WpS
/-- a reading of the reference -/
def readB (t : Txt) (r : Rd) : Bool := match lineAt t r.ch r.ln with | none => false | some l => if r.kind = 1 then fits1 l r else if r.kind = 2 then fits2 l r else if r.kind = 3 then fits3 l r else false
theorem callI61 {e : Exts} (he : Quiet e) (s : ByteArray) (hn : s.size < 2 ^ 63) (me : FuncId) (d : Option Tmp) : callI (Cx e) me 61 d [.v (.string s)] = some (.v (.bool (wordB s))) :=
  (ans61 he s hn).callI (ext_61 he) (pure_61 _ _ _) rfl
theorem bin_eq8 (x y : Operand) (m n : Int) : binA Tryz.prog .eql 5 x y (.v (.int .u8 m)) (.v (.int .u8 n)) = some (.v (.bool (decide (m = n)))) := bin_eql m n
set_option maxHeartbeats 2000000 in
theorem ans78 {e : Exts} (he : Quiet e) (t : Txt) (ht : Fits t) (ch : AV) (xs : List AV) (hch : SlOf 2 xs ch) (hall : All2 ChapA t xs) (r : Rd) (hr : RdF r) : Ans (Cx e) 78 [.agg [ch], rdV r] (.v (.bool (readB t r))) := by
  obtain ⟨y, hy, hc⟩ := call42 he t ht ch xs hch hall r.ch r.ln r.wd
  unfold Ans
  rw [fn_step (fn_78 e) (show Tryz.f78.body = some _ from rfl)]
  cases hL : lineAt t r.ch r.ln with
  | none =>
    rw [hL] at hc hy
    simp only [LineO] at hy
    subst hy
    have hB : readB t r = false := by unfold readB; rw [hL]
    rw [hB]
    simp -implicitDefEqProofs only [Tryz.f78, rdV, go_sem, ↓reduceIte, Int.reduceEq, Int.reduceLT, Int.reduceLE, List.reduceReplicate, intA, setT_nil, setT_cons, hch.cells, hch.flat, hch.bound, hc, Option.isSome_none]
  | some ln =>
    rw [hL] at hc hy
    have hy : SlOf 1 (strs ln) y := hy
    obtain ⟨cp, hcm, hlm⟩ := lineAt_mem hL
    have hll := ht.words cp hcm ln hlm
    have hw1 : IntKind.i64.wrap ((ln.length : Int) - 1) = (ln.length : Int) - 1 := wrap_in _ (by omega) (by omega)
    have h43 := call43 he r.wd 0 ((ln.length : Int) - 1)
    rw [within_len] at h43
    have h43' := call43 he r.wd 0 (ln.length : Int)
    have hi43 := callI43 he r.wd 0 ((ln.length : Int) - 1)
    rw [within_len] at hi43
    have h61 := call61 he r.word hr.word
    have hi61 := callI61 he r.word hr.word
    have hB : readB t r = (if r.kind = 1 then fits1 ln r else if r.kind = 2 then fits2 ln r else if r.kind = 3 then fits3 ln r else false) := by unfold readB; rw [hL]
    rw [hB]
    cases k1 : decide (r.kind = 1)
    · have n1 : ¬ r.kind = 1 := of_decide_eq_false k1
      rw [if_neg n1]
      cases k2 : decide (r.kind = 2)
      · have n2 : ¬ r.kind = 2 := of_decide_eq_false k2
        rw [if_neg n2]
        cases k3 : decide (r.kind = 3)
        · rw [if_neg (of_decide_eq_false k3)]
          simp -implicitDefEqProofs only [Tryz.f78, rdV, go_sem, ↓reduceIte, Int.reduceEq, Int.reduceLT, Int.reduceLE, List.reduceReplicate, intA, setT_nil, setT_cons, hch.cells, hch.flat, hch.bound, hc, Option.isSome_some, hy.cells, hy.flat, hy.bound, bin_eq8, k1, k2, k3]
        · rw [if_pos (of_decide_eq_true k3)]
          unfold fits3
          simp -implicitDefEqProofs only [Tryz.f78, rdV, go_sem, ↓reduceIte, Int.reduceEq, Int.reduceLT, Int.reduceLE, List.reduceReplicate, intA, setT_nil, setT_cons, hch.cells, hch.flat, hch.bound, hc, Option.isSome_some, hy.cells, hy.flat, hy.bound, bin_eq8, k1, k2, k3]
          refine wp_drawX [([], [], false), ([], [], false), ([], [], false), ([], [], false), ([2], [], false), ([], [], false), ([], [], false), ([], [], false), ([], [], false), ([], [], false), ([], [], false), ([], [], false), ([], [], false), ([], [], false), ([], [], false), ([], [], false), ([], [], false), ([], [], false), ([14], [], false), ([], [], false), ([14], [], false), ([], [], false), ([], [], false), ([], [], false)] (by kernel_rfl) (by kernel_rfl) ?_
          by_cases h1 : 0 ≤ r.wd ∧ r.wd < ln.length
          · rw [decide_eq_true h1] at hi43 ⊢
            obtain ⟨w, hwn⟩ : ∃ n : Nat, r.wd = n := ⟨r.wd.toNat, by omega⟩
            obtain ⟨s, hs⟩ := at_lt ln w (by omega)
            have hi := hy.idx (strs_get hs)
            rw [hwn] at hi43 ⊢
            have ha : at0 ln w = s := by unfold at0; rw [Int.toNat_natCast, hs]; rfl
            cases h2 : wordB r.word
            · rw [h2] at hi61
              simp -implicitDefEqProofs only [go_sem, ↓reduceIte, Int.reduceEq, Int.reduceLT, Int.reduceLE, List.reduceReplicate, intA, setT_nil, setT_cons, hy.len, hy.lenI, strs_len, hw1, hi43, hi61]
            · rw [h2] at hi61
              simp -implicitDefEqProofs only [go_sem, ↓reduceIte, Int.reduceEq, Int.reduceLT, Int.reduceLE, List.reduceReplicate, intA, setT_nil, setT_cons, hy.len, hy.lenI, strs_len, hw1, hi43, hi61, hi, bin_sne, ha]
          · rw [decide_eq_false h1] at hi43 ⊢
            simp -implicitDefEqProofs only [go_sem, ↓reduceIte, Int.reduceEq, Int.reduceLT, Int.reduceLE, List.reduceReplicate, intA, setT_nil, setT_cons, hy.len, hy.lenI, strs_len, hw1, hi43]
      · rw [if_pos (of_decide_eq_true k2)]
        unfold fits2
        cases h1 : withinB 0 ln.length [r.wd]
        · rw [h1] at h43'
          simp -implicitDefEqProofs only [Tryz.f78, rdV, go_sem, ↓reduceIte, Int.reduceEq, Int.reduceLT, Int.reduceLE, List.reduceReplicate, intA, setT_nil, setT_cons, hch.cells, hch.flat, hch.bound, hc, Option.isSome_some, hy.cells, hy.flat, hy.bound, hy.len, strs_len, bin_eq8, k1, k2, h43']
        · rw [h1] at h43'
          simp -implicitDefEqProofs only [Tryz.f78, rdV, go_sem, ↓reduceIte, Int.reduceEq, Int.reduceLT, Int.reduceLE, List.reduceReplicate, intA, setT_nil, setT_cons, hch.cells, hch.flat, hch.bound, hc, Option.isSome_some, hy.cells, hy.flat, hy.bound, hy.len, strs_len, bin_eq8, k1, k2, h43', h61]
    · rw [if_pos (of_decide_eq_true k1)]
      unfold fits1
      cases h1 : decide (0 ≤ r.wd ∧ r.wd < ln.length)
      · rw [h1] at h43
        simp -implicitDefEqProofs only [Tryz.f78, rdV, go_sem, ↓reduceIte, Int.reduceEq, Int.reduceLT, Int.reduceLE, List.reduceReplicate, intA, setT_nil, setT_cons, hch.cells, hch.flat, hch.bound, hc, Option.isSome_some, hy.cells, hy.flat, hy.bound, hy.len, strs_len, bin_eq8, k1, hw1, h43]
      · rw [h1] at h43
        simp -implicitDefEqProofs only [Tryz.f78, rdV, go_sem, ↓reduceIte, Int.reduceEq, Int.reduceLT, Int.reduceLE, List.reduceReplicate, intA, setT_nil, setT_cons, hch.cells, hch.flat, hch.bound, hc, Option.isSome_some, hy.cells, hy.flat, hy.bound, hy.len, strs_len, bin_eq8, k1, hw1, h43, bin_seq]
        rfl
end Go.Ev
namespace Go.Ev
open Go.Proofs
set_option maxRecDepth 100000
set_option linter.unusedSimpArgs false
attribute [local irreducible] Wp WpS
/-! ### a line of a copy, by the reference -/
def refI (k n w : Int) (s : List ByteArray × ByteArray) (r : Rd) : List ByteArray × ByteArray :=
  if r.ch = k ∧ r.ln = n ∧ r.wd = w then if r.kind = 2 then (s.1 ++ [r.word], s.2) else (s.1, r.word) else s
def refW (l : Line) (rs : List Rd) (k n : Int) (ds : List ByteArray) (w : Nat) : List ByteArray :=
  let s := rs.foldl (refI k n w) (ds, (l[w]?).getD emp)
  if s.2 = emp then s.1 else s.1 ++ [s.2]
def refLine (l : Line) (rs : List Rd) (k n : Int) : List ByteArray := (List.range (l.length + 1)).foldl (refW l rs k n) []
structure M79 (id : Int) (x : AV) (H : Heap) (ds : List ByteArray) (out : AV) : Prop where
  lock : H.lock = 0
  size : 2 ≤ H.size
  b1 : H.get 1 = some (.cells 0 0 53 1 false [.v (.int .i64 id), x])
  done : DoneR H ds out
theorem M79.row1 {id : Int} {x : AV} {H : Heap} {ds : List ByteArray} {out : AV} (h : M79 id x H ds out) (E : List (Option AObj)) : (H.plus E).row 1 0 = some (0, 53, 1, false, [.v (.int .i64 id), x]) := by
  rw [rowLo (by have := h.size; omega)]; exact get_row h.b1
theorem M79.plus {id : Int} {x : AV} {H : Heap} {ds : List ByteArray} {out : AV} (h : M79 id x H ds out) (E : List (Option AObj)) : M79 id x (H.plus E) ds out :=
  ⟨h.lock, by have := h.size; rw [plus_size]; omega, (plus_get E (by have := h.size; omega)).trans h.b1, h.done.plus E⟩
theorem M79.trim {id : Int} {x : AV} {H : Heap} {ds : List ByteArray} {out : AV} (h : M79 id x H ds out) {n : Nat} (hn : 2 ≤ n) (hn2 : n ≤ H.size) (vs : List AV) (ms : List Nat) (hv : bound out ≤ boundL vs) : M79 id x (H.trim n vs ms) ds out := by
  refine ⟨trim_lock.trans h.lock, Nat.le_trans hn (trim_size' hn2), (trim_lo (by omega)).trans h.b1, ?_⟩
  rcases h.done with hd | ⟨b, v, h1, h2, rfl, h4⟩
  · exact Or.inl hd
  · unfold Heap.trim
    split
    · rename_i hq
      rw [Bool.and_eq_true, Bool.and_eq_true, Bool.and_eq_true, Nat.ble_eq] at hq
      have h5 := hq.1.1.1
      have hb : b < n := by simp only [bound] at hv; omega
      have hg := (takeH_get (H := H) hb).trans (row_of_get h4)
      exact Or.inr ⟨b, v, h1, get_size hg, rfl, get_row hg⟩
    · exact Or.inr ⟨b, v, h1, h2, rfl, h4⟩
theorem M79.more {id : Int} {x : AV} {H : Heap} {ds : List ByteArray} {b v : Nat} (h : M79 id x H ds (.sl b v 0 ds.length none)) (hb : b < H.size) (hr : H.row b v = some (0, 9, 1, true, strs ds)) (s : List ByteArray) (n : Nat) (hn : n = ds.length + s.length) : M79 id x (H.put b (.cells (v + 1) 0 9 1 true (strs (ds ++ s)))) (ds ++ s) (.sl b (v + 1) 0 n none) := by
  have hne : 1 ≠ b := by
    rintro rfl
    have := (row_of_get hr).symm.trans h.b1
    simp at this
  refine ⟨h.lock, by rw [put_sizeI _ hb]; exact h.size, (put_get_ne _ (by have := h.size; omega) hne).trans h.b1, Or.inr ⟨b, v + 1, ?_, by rw [put_sizeI _ hb]; exact hb, by rw [hn, List.length_append], row_put_same hb⟩⟩
  have := h.lock
  show H.lock ≤ b
  omega
theorem M79.new {id : Int} {x : AV} {H : Heap} {ds : List ByteArray} {out : AV} (h : M79 id x H ds out) {N : Nat} (hN : H.size = N) (E : List (Option AObj)) (k : Nat) (ds' : List ByteArray) (hE : E[k]? = some (some (.cells 0 0 9 1 true (strs ds')))) : M79 id x (H.plus E) ds' (.sl (N + k) 0 0 ds'.length none) := by
  have hk := (List.getElem?_eq_some_iff.1 hE).1
  refine ⟨h.lock, by have := h.size; rw [plus_size]; omega, (plus_get E (by have := h.size; omega)).trans h.b1, Or.inr ⟨N + k, 0, ?_, by rw [plus_size]; omega, rfl, ?_⟩⟩
  · have := h.lock
    show H.lock ≤ _
    omega
  · rw [rowP hN, hE]; rfl
theorem le_boundL {v : AV} : ∀ {vs : List AV}, v ∈ vs → bound v ≤ boundL vs
  | a :: r, h => by
    rw [boundL_cons]
    rcases List.mem_cons.1 h with rfl | h
    · exact Nat.le_max_left _ _
    · exact Nat.le_trans (le_boundL h) (Nat.le_max_right _ _)
theorem fitsA1 : fitsA 16 1 = true := by decide
noncomputable def bodyI79 : Code := ((Tryz.f79.body.map loops).getD [])[1]?.getD .skip
def T79 (ch x lx : AV) (id k n w : Int) (b33 : Bool) (out : AV) (own : ByteArray) (i : Int) : List (Tmp × AV) :=
  [(0, .agg [ch]), (1, .agg [.v (.int .i64 id), x]), (2, .v (.int .i64 k)), (3, .v (.int .i64 n)), (4, .ptr 0 0 0), (5, .ptr 1 0 0), (8, .v (.slice none 0 0)), (9, out), (10, lx), (11, .v (.int .i64 w)), (27, .v (.bool true)), (12, .v (.string own)), (33, .v (.bool b33)), (13, .v (.int .i64 i))]
set_option maxHeartbeats 4000000 in
theorem inner79 {e : Exts} (rs : List Rd) (x : AV) (hx : SlOf 5 (rs.map rdV) x) (ch lx : AV) (id k n w : Int) (b33 : Bool) (ds0 : List ByteArray) (own0 : ByteArray) (K : Post)
    (hK : ∀ H out, M79 id x H (rs.foldl (refI k n w) (ds0, own0)).1 out → AtK K (.exit 2) ⟨86, T79 ch x lx id k n w b33 out (rs.foldl (refI k n w) (ds0, own0)).2 rs.length, []⟩ H)
    (X : Heap) (out0 : AV) (hM0 : M79 id x X ds0 out0) (hlen : ds0.length + rs.length < 2 ^ 32) :
    Lp (Cx e) 79 none [0, 1, 2, 3, 4, 5, 8, 9, 10, 11, 27, 12, 33, 13] bodyI79 ⟨86, T79 ch x lx id k n w b33 out0 own0 0, []⟩ X K := by
  refine Lp_ruleQ (P := fun μ a H => ∃ (i : Nat) (s : List ByteArray × ByteArray) (out : AV), i + μ = rs.length ∧ s = (rs.take i).foldl (refI k n w) (ds0, own0) ∧ s.1.length ≤ ds0.length + i ∧ a = ⟨86, T79 ch x lx id k n w b33 out s.2 i, []⟩ ∧ M79 id x H s.1 out) ?_ rs.length _ _ ⟨0, (ds0, own0), out0, by omega, rfl, Nat.le_refl _, rfl, hM0⟩
  rintro Q KK hQ hKK μ _ Y ⟨i, ⟨ds, own⟩, out, hi0, hs, hsl, rfl, hM⟩
  unfold bodyI79 T79
  simp only [Tryz.f79, loops, Option.map_some, Option.getD_some, List.nil_append, List.append_nil, List.cons_append, List.getElem?_cons_zero, List.getElem?_cons_succ]
  obtain ⟨N, hN⟩ : ∃ N, Y.size = N := ⟨_, rfl⟩
  have hlk : Y.lock ≤ N := by have := hM.lock; omega
  have hr1 := hM.row1
  by_cases hlt : (i : Int) < (rs.length : Int)
  · obtain ⟨r, hr⟩ := at_lt rs i (by omega)
    have hw := wrap_succ i (by omega)
    have hir := hx.idx (rds_get hr)
    unfold rdV at hir
    have ht : (rs.take (i + 1)).foldl (refI k n w) (ds0, own0) = refI k n w (ds, own) r := by
      rw [List.take_add_one, hr, List.foldl_append, ← hs]; rfl
    rw [← plus_nil Y]
    have hn2 : 2 ≤ N := by have := hM.size; omega
    have stay : refI k n w (ds, own) r = (ds, own) → ∀ E : List (Option AObj), Again Q μ ⟨86, T79 ch x lx id k n w b33 out own (i + 1 : Nat), []⟩ ((Y.plus E).trim N ((T79 ch x lx id k n w b33 out own (i + 1 : Nat)).map (·.2)) []) := fun hq E =>
      ⟨μ - 1, by omega, hQ _ _ _ ⟨i + 1, (ds, own), out, by omega, (ht.trans hq).symm, by simp only at hsl ⊢; omega, rfl, (hM.plus E).trim hn2 (by rw [plus_size]; omega) _ _ (le_boundL (by simp [T79]))⟩⟩
    cases h1 : decide (r.ch = k)
    · simp -implicitDefEqProofs only [go_sem, ↓reduceIte, Int.reduceEq, Int.reduceLT, Int.reduceLE, List.reduceReplicate, intA, setT_nil, setT_cons, hr1, hx.len, List.length_map, hlt, hw, hir, h1, sizeP hN, putP0 hN, putP hN, settleP0 hN, settleP hN, rowP0 hN, rowP hN, storeP0 hN hlk, storeP hN hlk, List.length_nil, Nat.add_zero]
      exact stay (by unfold refI; rw [if_neg (fun h => of_decide_eq_false h1 h.1)]) _
    cases h2 : decide (r.ln = n)
    · simp -implicitDefEqProofs only [go_sem, ↓reduceIte, Int.reduceEq, Int.reduceLT, Int.reduceLE, List.reduceReplicate, intA, setT_nil, setT_cons, hr1, hx.len, List.length_map, hlt, hw, hir, h1, h2, sizeP hN, putP0 hN, putP hN, settleP0 hN, settleP hN, rowP0 hN, rowP hN, storeP0 hN hlk, storeP hN hlk, List.length_nil, Nat.add_zero]
      exact stay (by unfold refI; rw [if_neg (fun h => of_decide_eq_false h2 h.2.1)]) _
    cases h3 : decide (r.wd = w)
    · simp -implicitDefEqProofs only [go_sem, ↓reduceIte, Int.reduceEq, Int.reduceLT, Int.reduceLE, List.reduceReplicate, intA, setT_nil, setT_cons, hr1, hx.len, List.length_map, hlt, hw, hir, h1, h2, h3, sizeP hN, putP0 hN, putP hN, settleP0 hN, settleP hN, rowP0 hN, rowP hN, storeP0 hN hlk, storeP hN hlk, List.length_nil, Nat.add_zero]
      exact stay (by unfold refI; rw [if_neg (fun h => of_decide_eq_false h3 h.2.2)]) _
    have hat : r.ch = k ∧ r.ln = n ∧ r.wd = w := ⟨of_decide_eq_true h1, of_decide_eq_true h2, of_decide_eq_true h3⟩
    cases h4 : decide (r.kind = 2)
    · have hq : refI k n w (ds, own) r = (ds, r.word) := by unfold refI; rw [if_pos hat, if_neg (of_decide_eq_false h4)]
      simp -implicitDefEqProofs only [go_sem, ↓reduceIte, Int.reduceEq, Int.reduceLT, Int.reduceLE, List.reduceReplicate, intA, setT_nil, setT_cons, hr1, hx.len, List.length_map, hlt, hw, hir, h1, h2, h3, bin_eq8, h4, sizeP hN, putP0 hN, putP hN, settleP0 hN, settleP hN, rowP0 hN, rowP hN, storeP0 hN hlk, storeP hN hlk, List.length_nil, Nat.add_zero]
      exact ⟨μ - 1, by omega, hQ _ _ _ ⟨i + 1, (ds, r.word), out, by omega, (ht.trans hq).symm, by simp only at hsl ⊢; omega, rfl, (hM.plus _).trim hn2 (by rw [plus_size]; omega) _ _ (le_boundL (by simp))⟩⟩
    have hq : refI k n w (ds, own) r = (ds ++ [r.word], own) := by unfold refI; rw [if_pos hat, if_pos (of_decide_eq_true h4)]
    rcases hM.done with ⟨hd, ho⟩ | ⟨b, v, hb1, hb2, ho, hrow⟩
    · simp only at hd ho
      subst hd ho
      simp -implicitDefEqProofs only [go_sem, ↓reduceIte, Int.reduceEq, Int.reduceLT, Int.reduceLE, List.reduceReplicate, intA, setT_nil, setT_cons, hr1, hx.len, List.length_map, hlt, hw, hir, h1, h2, h3, bin_eq8, h4, fitsA1, List.flatMap_cons, List.flatMap_nil, sizeP hN, putP0 hN, putP hN, settleP0 hN, settleP hN, rowP0 hN, rowP hN, storeP0 hN hlk, storeP hN hlk, List.length_nil, Nat.add_zero]
      have hnew := hM.new hN [some (.cells 0 0 65 1 false [.v (.int .i64 r.ch), .v (.int .i64 r.ln), .v (.int .i64 r.wd), .v (.int .u8 r.kind), .v (.string r.word)]), some (.cells 0 0 9 1 true [.v (.string r.word)])] 1 [r.word] rfl
      exact ⟨μ - 1, by omega, hQ _ _ _ ⟨i + 1, ([] ++ [r.word], own), .sl (N + 1) 0 0 1 none, by omega, (ht.trans hq).symm, by simp only [List.nil_append, List.length_cons, List.length_nil] at hsl ⊢; omega, rfl, hnew.trim hn2 (by rw [plus_size]; omega) _ _ (le_boundL (by simp))⟩⟩
    · simp only at ho hrow
      subst ho
      simp -implicitDefEqProofs only [go_sem, ↓reduceIte, Int.reduceEq, Int.reduceLT, Int.reduceLE, List.reduceReplicate, intA, setT_nil, setT_cons, hr1, hx.len, List.length_map, hlt, hw, hir, h1, h2, h3, bin_eq8, h4, List.flatMap_cons, List.flatMap_nil, sizeP hN, putP0 hN, putP hN, settleP0 hN, settleP hN, rowP0 hN, rowP hN, storeP0 hN hlk, storeP hN hlk, List.length_nil, Nat.add_zero]
      have hrp : ∀ E, (Y.plus E).row b v = some (0, 9, 1, true, strs ds) := fun E => by rw [rowLo hb2]; exact hrow
      have hf : fitsA 16 (ds.length + 1) = true := by unfold fitsA; exact decide_eq_true (by simp only at hsl; omega)
      have hmore := hM.more hb2 hrow [r.word] (ds.length + 1) rfl
      rw [appTo_own (m := 0) (e' := 9) (cs := strs ds) (hrp _) (by rw [strs_len, Nat.mul_one]) hb1 hf (by omega) (by omega)]
      rw [putLo hb2]
      have hNY : (Y.put b (.cells (v + 1) (Nat.max 0 0) 9 1 true (strs ds ++ [.v (.string r.word)]))).size = N := by rw [put_sizeI _ hb2]; exact hN
      have hst : strs (ds ++ [r.word]) = strs ds ++ [.v (.string r.word)] := strs_append _ _
      rw [hst] at hmore
      change M79 id x (Y.put b (.cells (v + 1) (Nat.max 0 0) 9 1 true (strs ds ++ [.v (.string r.word)]))) _ _ at hmore
      change bindO (some (AV.sl b (v + 1) 0 (ds.length + 1) none, (Y.put b (.cells (v + 1) (Nat.max 0 0) 9 1 true (strs ds ++ [.v (.string r.word)]))).plus _)) _
      generalize Y.put b (.cells (v + 1) (Nat.max 0 0) 9 1 true (strs ds ++ [.v (.string r.word)])) = Z at hmore hNY ⊢
      simp -implicitDefEqProofs only [go_sem, ↓reduceIte, Int.reduceEq, Int.reduceLT, Int.reduceLE, List.reduceReplicate, intA, setT_nil, setT_cons, sizeP hNY, settleP0 hNY, settleP hNY]
      exact ⟨μ - 1, by omega, hQ _ _ _ ⟨i + 1, (ds ++ [r.word], own), .sl b (v + 1) 0 (ds.length + 1) none, by omega, (ht.trans hq).symm, by simp only [List.length_append, List.length_cons, List.length_nil] at hsl ⊢; omega, rfl, (hmore.plus _).trim hn2 (by rw [plus_size]; omega) _ _ (le_boundL (by simp))⟩⟩
  · obtain rfl : i = rs.length := by omega
    rw [List.take_length] at hs
    have hc := hK Y out (by rw [← hs]; exact hM)
    rw [← hs] at hc
    unfold T79 at hc
    rw [← plus_nil Y] at hc ⊢
    simp -implicitDefEqProofs only [go_sem, ↓reduceIte, Int.reduceEq, Int.reduceLT, Int.reduceLE, List.reduceReplicate, intA, setT_nil, setT_cons, ↓boolP_bool, ↓iteB_true, ↓iteB_false, hr1, hx.len, List.length_map, Int.lt_irrefl, sizeP hN, settleP0 hN, settleP hN, trimP0 hN, List.length_nil, Nat.add_zero]
    exact hKK _ _ _ hc
end Go.Ev
namespace Go.Ev
open Go.Proofs
set_option maxRecDepth 100000
set_option linter.unusedSimpArgs false
attribute [local irreducible] Wp WpS
theorem M79.trim' {id : Int} {x : AV} {H : Heap} {ds : List ByteArray} {out : AV} (h : M79 id x H ds out) {n : Nat} (hn : 2 ≤ n) (vs : List AV) (ms : List Nat) (hv : bound out ≤ boundL vs) : M79 id x (H.trim n vs ms) ds out := by
  by_cases h2 : n ≤ H.size
  · exact h.trim hn h2 vs ms hv
  · rw [trim_whole (by omega)]; exact h
theorem refI_len (k n w : Int) : ∀ (rs : List Rd) (s : List ByteArray × ByteArray), (rs.foldl (refI k n w) s).1.length ≤ s.1.length + rs.length
  | [], s => Nat.le_refl _
  | r :: rs, s => by
    have h := refI_len k n w rs (refI k n w s r)
    have h2 : (refI k n w s r).1.length ≤ s.1.length + 1 := by
      unfold refI; split
      · split
        · simp
        · exact Nat.le_succ _
      · exact Nat.le_succ _
    simp only [List.foldl_cons, List.length_cons]; omega
theorem refW_len (l : Line) (rs : List Rd) (k n : Int) (w : Nat) (ds : List ByteArray) : (refW l rs k n ds w).length ≤ ds.length + rs.length + 1 := by
  have h := refI_len k n w rs (ds, (l[w]?).getD emp)
  unfold refW
  simp only at h ⊢
  split
  · omega
  · rw [List.length_append]; simp only [List.length_cons, List.length_nil]; omega
theorem refs_len (l : Line) (rs : List Rd) (k n : Int) (hrs : rs.length ≤ 1000) : ∀ w : Nat, ((List.range w).foldl (refW l rs k n) []).length ≤ w * 1001
  | 0 => Nat.le_refl _
  | w + 1 => by
    rw [List.range_succ, List.foldl_append]
    have h := refs_len l rs k n hrs w
    have h2 := refW_len l rs k n w ((List.range w).foldl (refW l rs k n) [])
    show (refW l rs k n _ w).length ≤ _
    omega
set_option maxHeartbeats 2000000 in
theorem ans79 {e : Exts} (t : Txt) (ht : Fits t) (ch : AV) (xs : List AV) (hch : SlOf 2 xs ch) (hall : All2 ChapA t xs) (id : Int) (rs : List Rd) (x : AV) (hx : RdsA rs x) (k n : Nat) (cp : Chap) (hk : t[k]? = some cp) (ln : Line) (hn : cp.2[n]? = some ln) (hlen : ln.length ≤ 1000) (hrs : rs.length ≤ 1000) : ∃ v, SlOf 1 (strs (refLine ln rs k n)) v ∧ Ans (Cx e) 79 [.agg [ch], .agg [intA id, x], intA k, intA n] v := by
  have hx : SlOf 5 (rs.map rdV) x := hx
  obtain ⟨z, hz, l, rfl, lxs, hl, hls⟩ := hall.get hk
  obtain ⟨lx, hlx, hll⟩ := hls.get hn
  have hll : SlOf 1 (strs ln) lx := hll
  have hi := hch.idx hz
  unfold intA at hi
  refine ans_of_P ?_
  rw [fn_step (fn_79 e) (show Tryz.f79.body = some _ from rfl)]
  simp -implicitDefEqProofs only [Tryz.f79, go_sem, ↓reduceIte, Int.reduceEq, Int.reduceLT, Int.reduceLE, List.reduceReplicate, intA, setT_nil, setT_cons, hch.cells, hch.flat, hch.bound, hx.cells, hx.flat, hx.bound, hi, hl.cells, hl.idx hlx, hll.cells, hll.flat]
  refine Lp_rule (P := fun μ a H => ∃ w ds out, w + μ = ln.length + 1 ∧ a = ⟨86, [(0, .agg [ch]), (1, .agg [intA id, x]), (2, intA k), (3, intA n), (4, .ptr 0 0 0), (5, .ptr 1 0 0), (8, .v (.slice none 0 0)), (9, out), (10, lx), (11, intA w)], []⟩ ∧ M79 id x H ds out ∧ ds = (List.range w).foldl (refW ln rs k n) []) ?_ (ln.length + 1) _ _ ⟨0, [], .v (.slice none 0 0), by omega, rfl, ⟨rfl, Nat.le_refl _, rfl, Or.inl ⟨rfl, rfl⟩⟩, rfl⟩
  rintro μ _ X ⟨w, ds, out, hw0, rfl, hM, hds⟩
  have hfit := ht.words cp (List.mem_of_getElem? hk) ln (List.mem_of_getElem? hn)
  by_cases hle : (w : Int) ≤ (ln.length : Int)
  · have hw := wrap_succ w (by omega)
    have hds2 : ds.length ≤ w * 1001 := by rw [hds]; exact refs_len ln rs k n hrs w
    have hNx : ds.length + rs.length < 2 ^ 32 := by omega
    have hstep : (List.range (w + 1)).foldl (refW ln rs k n) [] = refW ln rs k n ds w := by rw [List.range_succ, List.foldl_append, ← hds]; rfl
    by_cases hlt : (w : Int) < (ln.length : Int)
    · obtain ⟨s, hs⟩ := at_lt ln w (by omega)
      have hsi := hll.idx (strs_get hs)
      have how : (ln[w]?).getD emp = s := by rw [hs]; rfl
      simp -implicitDefEqProofs only [go_sem, ↓reduceIte, Int.reduceEq, Int.reduceLT, Int.reduceLE, List.reduceReplicate, intA, setT_nil, setT_cons, ↓boolP_bool, ↓iteB_true, ↓iteB_false, hll.len, strs_len, hle, hlt, hsi]
      refine inner79 rs x hx ch lx id k n w true ds s _ ?_ X out hM hNx
      intro Y o2 hM2
      unfold T79
      obtain ⟨N, hN⟩ : ∃ N, Y.size = N := ⟨_, rfl⟩
      have hlk : Y.lock ≤ N := by have := hM2.lock; omega
      have hl2 := refI_len k n w rs (ds, s)
      have hqW : refW ln rs k n ds w = if (rs.foldl (refI k n w) (ds, s)).2 = emp then (rs.foldl (refI k n w) (ds, s)).1 else (rs.foldl (refI k n w) (ds, s)).1 ++ [(rs.foldl (refI k n w) (ds, s)).2] := by unfold refW; rw [how]
      generalize rs.foldl (refI k n w) (ds, s) = st at hM2 hl2 hqW ⊢
      obtain ⟨ds2, own2⟩ := st
      simp only at hM2 hl2 hqW
      rw [← plus_nil Y]
      by_cases he : own2 = ({ data := #[] } : ByteArray)
      · rw [if_pos (show own2 = emp from he)] at hqW
        have he' : decide (own2 = ({ data := #[] } : ByteArray)) = true := decide_eq_true he
        simp -implicitDefEqProofs only [go_sem, ↓reduceIte, Int.reduceEq, Int.reduceLT, Int.reduceLE, List.reduceReplicate, intA, setT_nil, setT_cons, ↓boolP_bool, ↓iteB_true, ↓iteB_false, bin_sne, he', hw, sizeP hN, settleP0 hN, settleP hN, List.length_nil, Nat.add_zero]
        exact ⟨μ - 1, by omega, w + 1, ds2, o2, by omega, rfl, (hM2.plus _).trim' hM.size _ _ (le_boundL (by simp)), by rw [hstep, hqW]⟩
      · rw [if_neg (show ¬ own2 = emp from he)] at hqW
        have he' : decide (own2 = ({ data := #[] } : ByteArray)) = false := decide_eq_false he
        rcases hM2.done with ⟨hd, ho⟩ | ⟨b, v, hb1, hb2, ho, hrow⟩
        · subst hd ho
          simp -implicitDefEqProofs only [go_sem, ↓reduceIte, Int.reduceEq, Int.reduceLT, Int.reduceLE, List.reduceReplicate, intA, setT_nil, setT_cons, ↓boolP_bool, ↓iteB_true, ↓iteB_false, bin_sne, he', hw, fitsA1, List.flatMap_cons, List.flatMap_nil, sizeP hN, putP0 hN, putP hN, settleP0 hN, settleP hN, rowP0 hN, rowP hN, storeP0 hN hlk, storeP hN hlk, List.length_nil, Nat.add_zero]
          have hnew := hM2.new hN [some (.cells 0 0 9 1 true [.v (.string own2)])] 0 [own2] rfl
          exact ⟨μ - 1, by omega, w + 1, [] ++ [own2], .sl N 0 0 1 none, by omega, rfl, hnew.trim' hM.size _ _ (le_boundL (by simp)), by rw [hstep, hqW]⟩
        · subst ho
          have hrp : ∀ E, (Y.plus E).row b v = some (0, 9, 1, true, strs ds2) := fun E => by rw [rowLo hb2]; exact hrow
          have hf : fitsA 16 (ds2.length + 1) = true := by unfold fitsA; exact decide_eq_true (by omega)
          have hmore := hM2.more hb2 hrow [own2] (ds2.length + 1) rfl
          simp -implicitDefEqProofs only [go_sem, ↓reduceIte, Int.reduceEq, Int.reduceLT, Int.reduceLE, List.reduceReplicate, intA, setT_nil, setT_cons, ↓boolP_bool, ↓iteB_true, ↓iteB_false, bin_sne, he', hw, List.flatMap_cons, List.flatMap_nil, sizeP hN, putP0 hN, putP hN, settleP0 hN, settleP hN, rowP0 hN, rowP hN, storeP0 hN hlk, storeP hN hlk, List.length_nil, Nat.add_zero]
          rw [appTo_own (m := 0) (e' := 9) (cs := strs ds2) (hrp _) (by rw [strs_len, Nat.mul_one]) hb1 hf (by omega) (by omega)]
          rw [putLo hb2]
          have hNY : (Y.put b (.cells (v + 1) (Nat.max 0 0) 9 1 true (strs ds2 ++ [.v (.string own2)]))).size = N := by rw [put_sizeI _ hb2]; exact hN
          have hst : strs (ds2 ++ [own2]) = strs ds2 ++ [.v (.string own2)] := strs_append _ _
          rw [hst] at hmore
          change M79 id x (Y.put b (.cells (v + 1) (Nat.max 0 0) 9 1 true (strs ds2 ++ [.v (.string own2)]))) _ _ at hmore
          change bindO (some (AV.sl b (v + 1) 0 (ds2.length + 1) none, (Y.put b (.cells (v + 1) (Nat.max 0 0) 9 1 true (strs ds2 ++ [.v (.string own2)]))).plus _)) _
          generalize Y.put b (.cells (v + 1) (Nat.max 0 0) 9 1 true (strs ds2 ++ [.v (.string own2)])) = Z at hmore hNY ⊢
          simp -implicitDefEqProofs only [go_sem, ↓reduceIte, Int.reduceEq, Int.reduceLT, Int.reduceLE, List.reduceReplicate, intA, setT_nil, setT_cons, ↓boolP_bool, ↓iteB_true, ↓iteB_false, hw, sizeP hNY, settleP0 hNY, settleP hNY]
          exact ⟨μ - 1, by omega, w + 1, ds2 ++ [own2], .sl b (v + 1) 0 (ds2.length + 1) none, by omega, rfl, (hmore.plus _).trim' hM.size _ _ (le_boundL (by simp)), by rw [hstep, hqW]⟩
    · obtain rfl : w = ln.length := by omega
      simp -implicitDefEqProofs only [go_sem, ↓reduceIte, Int.reduceEq, Int.reduceLT, Int.reduceLE, List.reduceReplicate, intA, setT_nil, setT_cons, ↓boolP_bool, ↓iteB_true, ↓iteB_false, hll.len, strs_len, hle, hlt]
      refine inner79 rs x hx ch lx id k n ln.length false ds emp _ ?_ X out hM hNx
      intro Y o2 hM2
      have how : (ln[ln.length]?).getD emp = emp := by rw [List.getElem?_eq_none_iff.2 (Nat.le_refl _)]; rfl
      unfold T79
      obtain ⟨N, hN⟩ : ∃ N, Y.size = N := ⟨_, rfl⟩
      have hlk : Y.lock ≤ N := by have := hM2.lock; omega
      have hl2 := refI_len k n ln.length rs (ds, emp)
      have hqW : refW ln rs k n ds ln.length = if (rs.foldl (refI k n ln.length) (ds, emp)).2 = emp then (rs.foldl (refI k n ln.length) (ds, emp)).1 else (rs.foldl (refI k n ln.length) (ds, emp)).1 ++ [(rs.foldl (refI k n ln.length) (ds, emp)).2] := by unfold refW; rw [how]
      generalize rs.foldl (refI k n ln.length) (ds, emp) = st at hM2 hl2 hqW ⊢
      obtain ⟨ds2, own2⟩ := st
      simp only at hM2 hl2 hqW
      rw [← plus_nil Y]
      by_cases he : own2 = ({ data := #[] } : ByteArray)
      · rw [if_pos (show own2 = emp from he)] at hqW
        have he' : decide (own2 = ({ data := #[] } : ByteArray)) = true := decide_eq_true he
        simp -implicitDefEqProofs only [go_sem, ↓reduceIte, Int.reduceEq, Int.reduceLT, Int.reduceLE, List.reduceReplicate, intA, setT_nil, setT_cons, ↓boolP_bool, ↓iteB_true, ↓iteB_false, bin_sne, he', hw, sizeP hN, settleP0 hN, settleP hN, List.length_nil, Nat.add_zero]
        exact ⟨μ - 1, by omega, ln.length + 1, ds2, o2, by omega, rfl, (hM2.plus _).trim' hM.size _ _ (le_boundL (by simp)), by rw [hstep, hqW]⟩
      · rw [if_neg (show ¬ own2 = emp from he)] at hqW
        have he' : decide (own2 = ({ data := #[] } : ByteArray)) = false := decide_eq_false he
        rcases hM2.done with ⟨hd, ho⟩ | ⟨b, v, hb1, hb2, ho, hrow⟩
        · subst hd ho
          simp -implicitDefEqProofs only [go_sem, ↓reduceIte, Int.reduceEq, Int.reduceLT, Int.reduceLE, List.reduceReplicate, intA, setT_nil, setT_cons, ↓boolP_bool, ↓iteB_true, ↓iteB_false, bin_sne, he', hw, fitsA1, List.flatMap_cons, List.flatMap_nil, sizeP hN, putP0 hN, putP hN, settleP0 hN, settleP hN, rowP0 hN, rowP hN, storeP0 hN hlk, storeP hN hlk, List.length_nil, Nat.add_zero]
          have hnew := hM2.new hN [some (.cells 0 0 9 1 true [.v (.string own2)])] 0 [own2] rfl
          exact ⟨μ - 1, by omega, ln.length + 1, [] ++ [own2], .sl N 0 0 1 none, by omega, rfl, hnew.trim' hM.size _ _ (le_boundL (by simp)), by rw [hstep, hqW]⟩
        · subst ho
          have hrp : ∀ E, (Y.plus E).row b v = some (0, 9, 1, true, strs ds2) := fun E => by rw [rowLo hb2]; exact hrow
          have hf : fitsA 16 (ds2.length + 1) = true := by unfold fitsA; exact decide_eq_true (by omega)
          have hmore := hM2.more hb2 hrow [own2] (ds2.length + 1) rfl
          simp -implicitDefEqProofs only [go_sem, ↓reduceIte, Int.reduceEq, Int.reduceLT, Int.reduceLE, List.reduceReplicate, intA, setT_nil, setT_cons, ↓boolP_bool, ↓iteB_true, ↓iteB_false, bin_sne, he', hw, List.flatMap_cons, List.flatMap_nil, sizeP hN, putP0 hN, putP hN, settleP0 hN, settleP hN, rowP0 hN, rowP hN, storeP0 hN hlk, storeP hN hlk, List.length_nil, Nat.add_zero]
          rw [appTo_own (m := 0) (e' := 9) (cs := strs ds2) (hrp _) (by rw [strs_len, Nat.mul_one]) hb1 hf (by omega) (by omega)]
          rw [putLo hb2]
          have hNY : (Y.put b (.cells (v + 1) (Nat.max 0 0) 9 1 true (strs ds2 ++ [.v (.string own2)]))).size = N := by rw [put_sizeI _ hb2]; exact hN
          have hst : strs (ds2 ++ [own2]) = strs ds2 ++ [.v (.string own2)] := strs_append _ _
          rw [hst] at hmore
          change M79 id x (Y.put b (.cells (v + 1) (Nat.max 0 0) 9 1 true (strs ds2 ++ [.v (.string own2)]))) _ _ at hmore
          change bindO (some (AV.sl b (v + 1) 0 (ds2.length + 1) none, (Y.put b (.cells (v + 1) (Nat.max 0 0) 9 1 true (strs ds2 ++ [.v (.string own2)]))).plus _)) _
          generalize Y.put b (.cells (v + 1) (Nat.max 0 0) 9 1 true (strs ds2 ++ [.v (.string own2)])) = Z at hmore hNY ⊢
          simp -implicitDefEqProofs only [go_sem, ↓reduceIte, Int.reduceEq, Int.reduceLT, Int.reduceLE, List.reduceReplicate, intA, setT_nil, setT_cons, ↓boolP_bool, ↓iteB_true, ↓iteB_false, hw, sizeP hNY, settleP0 hNY, settleP hNY]
          exact ⟨μ - 1, by omega, ln.length + 1, ds2 ++ [own2], .sl b (v + 1) 0 (ds2.length + 1) none, by omega, rfl, (hmore.plus _).trim' hM.size _ _ (le_boundL (by simp)), by rw [hstep, hqW]⟩
  · have hw1 : w = ln.length + 1 := by omega
    have hfin : ds = refLine ln rs k n := by rw [hds, hw1]; rfl
    rw [hfin] at hM
    obtain ⟨v, hv1, hv2⟩ := freeze_done hM.done hM.lock
    simp -implicitDefEqProofs only [go_sem, ↓reduceIte, Int.reduceEq, Int.reduceLT, Int.reduceLE, List.reduceReplicate, intA, setT_nil, setT_cons, ↓boolP_bool, ↓iteB_true, ↓iteB_false, hll.len, strs_len, hle]
    exact ⟨v, hv2, hv1⟩
end Go.Ev
namespace Go.Ev
open Go.Proofs
set_option maxRecDepth 100000
set_option linter.unusedSimpArgs false
attribute [local irreducible] Wp WpS
theorem call78 {e : Exts} (he : Quiet e) (t : Txt) (ht : Fits t) (ch : AV) (xs : List AV) (hch : SlOf 2 xs ch) (hall : All2 ChapA t xs) (r : Rd) (hr : RdF r) (me : FuncId) (d : Option Tmp) (H : Heap) : callA (Cx e) (lim (Cx e)) me 78 d [.agg [ch], rdV r] H = some (.v (.bool (readB t r)), H) :=
  (ans78 he t ht ch xs hch hall r hr).call (ext_78 he) (pure_78 _ _ _) (by simp only [boundL_cons, bound_agg, hch.bound, rdV_bound, boundL_nil]; rfl) H
theorem call79 {e : Exts} (he : Quiet e) (t : Txt) (ht : Fits t) (ch : AV) (xs : List AV) (hch : SlOf 2 xs ch) (hall : All2 ChapA t xs) (id : Int) (rs : List Rd) (x : AV) (hx : RdsA rs x) (k n : Nat) (cp : Chap) (hk : t[k]? = some cp) (ln : Line) (hn : cp.2[n]? = some ln) (hlen : ln.length ≤ 1000) (hrs : rs.length ≤ 1000) :
    ∃ v, SlOf 1 (strs (refLine ln rs k n)) v ∧ ∀ (me : FuncId) (d : Option Tmp) (H : Heap), callA (Cx e) (lim (Cx e)) me 79 d [.agg [ch], .agg [.v (.int .i64 id), x], .v (.int .i64 k), .v (.int .i64 n)] H = some (v, H) := by
  obtain ⟨v, hv, ha⟩ := ans79 (e := e) t ht ch xs hch hall id rs x hx k n cp hk ln hn hlen hrs
  exact ⟨v, hv, fun me d H => ha.call (ext_79 he) (pure_79 _ _ _) (by simp only [boundL_cons, bound_agg, hch.bound, intA, bound_v, SlOf.bound hx, boundL_nil]; rfl) H⟩
/-- for texts without empty lines the two tests of a reading agree -/
theorem fit_read {t : Txt} {r : Rd} (h : ∀ l, lineAt t r.ch r.ln = some l → l.length ≠ 0) : fitOne t r = readB t r := by
  unfold fitOne readB
  cases hL : lineAt t r.ch r.ln with
  | none => rfl
  | some l =>
    have h0 := h l hL
    have hz : decide (l.length = 0) = false := decide_eq_false h0
    simp only [hz, Bool.not_false, Bool.true_and]
    by_cases h1 : r.kind = 1
    · rw [h1]; rfl
    · by_cases h2 : r.kind = 2
      · rw [h2]; rfl
      · by_cases h3 : r.kind = 3
        · rw [h3]; rfl
        · rw [if_neg h1, if_neg h1, if_neg h2, if_neg h2, if_neg h3]
          have : withinB 1 3 [r.kind] = false := by
            simp only [withinB, List.all_cons, List.all_nil, Bool.and_true, Bool.and_eq_false_iff, decide_eq_false_iff_not]; omega
          rw [this]; rfl
end Go.Ev
namespace Go.Ev
open Go.Proofs
set_option maxRecDepth 100000
set_option linter.unusedSimpArgs false
attribute [local irreducible] Wp WpS
/-! ### a copy, by the reference -/
def pairR (p r : Rd) : Bool := !(beforeB (r.ch, r.ln, r.wd) (p.ch, p.ln, p.wd) || (eqP r.ch r.ln r.wd p.ch p.ln p.wd && !decide (p.kind = 2)))
def rdsB (t : Txt) : Option Rd → List Rd → Bool
  | _, [] => true
  | p, r :: l => readB t r && (match p with | none => true | some p => pairR p r) && rdsB t (some r) l
def linesN (rs : List Rd) (k : Nat) : Nat → List Line → Bool
  | _, [] => true
  | n, l :: r => withinB 1 10 [((refLine l rs k n).length : Int)] && linesN rs k (n + 1) r
def chapsN (rs : List Rd) : Nat → Txt → Bool
  | _, [] => true
  | k, c :: r => linesN rs k 0 c.2 && chapsN rs (k + 1) r
def copyB (t : Txt) (id : Int) (rs : List Rd) : Bool := withinB 0 9999 [id] && !decide (20 < (rs.length : Int)) && (rdsB t none rs && chapsN rs 0 t)
set_option maxHeartbeats 4000000 in
theorem ans57 {e : Exts} (he : Quiet e) (t : Txt) (ht : Fits t) (hlen : ∀ c ∈ t, ∀ l ∈ c.2, l.length ≤ 1000) (ch : AV) (xs : List AV) (hch : SlOf 2 xs ch) (hall : All2 ChapA t xs) (id : Int) (rs : List Rd) (x : AV) (hx : RdsA rs x) (hrf : ∀ r ∈ rs, RdF r) : Ans (Cx e) 57 [.agg [ch], .agg [intA id, x]] (.v (.bool (copyB t id rs))) := by
  have hxr := hx
  have hx : SlOf 5 (rs.map rdV) x := hx
  have hfit := ht.chs
  have h43 := call43 he id 0 9999
  unfold Ans
  rw [fn_step (fn_57 e) (show Tryz.f57.body = some _ from rfl)]
  cases h1 : withinB 0 9999 [id]
  · rw [h1] at h43
    have hB : copyB t id rs = false := by unfold copyB; rw [h1]; rfl
    rw [hB]
    simp -implicitDefEqProofs only [Tryz.f57, go_sem, ↓reduceIte, Int.reduceEq, Int.reduceLT, Int.reduceLE, List.reduceReplicate, intA, setT_nil, setT_cons, ↓boolP_bool, ↓iteB_true, ↓iteB_false, hch.cells, hch.flat, hch.bound, hx.cells, hx.flat, hx.bound, hx.len, List.length_map, h43]
  by_cases h20 : 20 < (rs.length : Int)
  · have h2 : decide (20 < (rs.length : Int)) = true := decide_eq_true h20
    rw [h1] at h43
    have hB : copyB t id rs = false := by unfold copyB; rw [h1, h2]; rfl
    rw [hB]
    simp -implicitDefEqProofs only [Tryz.f57, go_sem, ↓reduceIte, Int.reduceEq, Int.reduceLT, Int.reduceLE, List.reduceReplicate, intA, setT_nil, setT_cons, ↓boolP_bool, ↓iteB_true, ↓iteB_false, hch.cells, hch.flat, hch.bound, hx.cells, hx.flat, hx.bound, hx.len, List.length_map, h43, h2]
  have h2 : decide (20 < (rs.length : Int)) = false := decide_eq_false h20
  rw [h1] at h43
  have hB : copyB t id rs = (rdsB t none rs && chapsN rs 0 t) := by unfold copyB; rw [h1, h2]; rfl
  rw [hB]
  simp -implicitDefEqProofs only [Tryz.f57, go_sem, ↓reduceIte, Int.reduceEq, Int.reduceLT, Int.reduceLE, List.reduceReplicate, intA, setT_nil, setT_cons, ↓boolP_bool, ↓iteB_true, ↓iteB_false, hch.cells, hch.flat, hch.bound, hx.cells, hx.flat, hx.bound, hx.len, List.length_map, h43, h2]
  refine Lp_rule (P := fun μ a H => ∃ j, j + μ = rs.length ∧ a = ⟨97, [(0, .agg [ch]), (1, .agg [intA id, x]), (2, .ptr 0 0 0), (3, .ptr 1 0 0), (4, .v (.bool false)), (18, .v (.bool false)), (5, intA j)], []⟩ ∧ H = ⟨[some (.cells 0 0 24 1 false [ch]), some (.cells 0 0 53 1 false [intA id, x])], 0⟩ ∧ rdsB t none rs = rdsB t (if j = 0 then none else rs[j - 1]?) (rs.drop j)) ?_ rs.length _ _ ⟨0, by omega, rfl, rfl, rfl⟩
  rintro μ _ _ ⟨j, hj, rfl, rfl, ho⟩
  by_cases hlt : (j : Int) < (rs.length : Int)
  · obtain ⟨r, hr⟩ := at_lt rs j (by omega)
    have hw := wrap_succ j (by omega)
    have hir := hx.idx (rds_get hr)
    have hc78 := call78 he t ht ch xs hch hall r (hrf r (List.mem_of_getElem? hr))
    unfold rdV at hir hc78
    rw [drop_eq_cons hr] at ho
    cases hrd : readB t r
    · have hf : rdsB t none rs = false := by rw [ho]; unfold rdsB; rw [hrd, Bool.false_and, Bool.false_and]
      rw [hrd] at hc78
      rw [hf, Bool.false_and]
      simp -implicitDefEqProofs only [go_sem, ↓reduceIte, Int.reduceEq, Int.reduceLT, Int.reduceLE, List.reduceReplicate, intA, setT_nil, setT_cons, ↓boolP_bool, ↓iteB_true, ↓iteB_false, trim_at, hx.bound, hch.bound, hx.len, List.length_map, hch.cells, hx.cells, hlt, hw, hir, hc78]
    rw [hrd] at hc78
    cases j with
    | zero =>
      have hf : rdsB t none rs = rdsB t (some r) (rs.drop 1) := by rw [ho]; show (readB t r && true && _) = _; rw [hrd]; rfl
      simp -implicitDefEqProofs only [go_sem, ↓reduceIte, Int.reduceEq, Int.reduceLT, Int.reduceLE, List.reduceReplicate, intA, setT_nil, setT_cons, ↓boolP_bool, ↓iteB_true, ↓iteB_false, trim_at, hx.bound, hch.bound, hx.len, List.length_map, hch.cells, hx.cells, hlt, hw, hir, hc78]
      refine wp_drawX [([], [], false), ([], [], false), ([], [], false), ([], [], false), ([], [], false), ([], [], false), ([4], [], false), ([], [], false), ([], [], false), ([], [], false), ([], [], false), ([4], [], false), ([], [], false), ([], [], false), ([], [], false), ([], [], false), ([], [], false), ([15], [], false), ([], [], false), ([], [], false), ([], [], false), ([], [], false), ([15], [], false), ([], [], false), ([], [], false), ([], [], false), ([], [], false), ([], [], false), ([], [], false), ([], [], false), ([], [], false), ([], [], false), ([], [], false), ([], [], false), ([], [], false), ([], [], false)] (by kernel_rfl) (by kernel_rfl) ?_
      simp -implicitDefEqProofs only [go_sem, ↓reduceIte, Int.reduceEq, Int.reduceLT, Int.reduceLE, List.reduceReplicate, intA, setT_nil, setT_cons, ↓boolP_bool, ↓iteB_true, ↓iteB_false, trim_at, hx.bound, hch.bound, hx.len, List.length_map, hch.cells, hx.cells, hw, Int.natCast_zero, Int.lt_irrefl, decide_false, show IntKind.i64.wrap (0 + 1) = 1 from rfl]
      exact ⟨μ - 1, by omega, 1, by omega, rfl, rfl, by rw [hf, if_neg (by omega)]; show _ = rdsB t rs[0]? _; rw [hr]⟩
    | succ i => 
      obtain ⟨p, hp⟩ := at_lt rs i (by omega)
      have hip := hx.idx (rds_get hp)
      unfold rdV at hip
      have hw1 : IntKind.i64.wrap (((i + 1 : Nat) : Int) - 1) = (i : Int) := by rw [wrap_in _ (by omega) (by omega)]; omega
      have hpos : (0 : Int) < ((i + 1 : Nat) : Int) := by omega
      have hc18 : ∀ (me : FuncId) (d : Option Tmp), callI (Cx e) me 18 d [.agg [.v (.int .i64 r.ch), .v (.int .i64 r.ln), .v (.int .i64 r.wd)], .agg [.v (.int .i64 p.ch), .v (.int .i64 p.ln), .v (.int .i64 p.wd)]] = some (.v (.bool (beforeB (r.ch, r.ln, r.wd) (p.ch, p.ln, p.wd)))) := fun me d => (ans18 r.ch r.ln r.wd p.ch p.ln p.wd).callI (ext_18 he) (pure_18 _ _ _) rfl
      have hf : rdsB t none rs = (pairR p r && rdsB t (some r) (rs.drop (i + 1 + 1))) := by rw [ho, if_neg (by omega), Nat.add_sub_cancel, hp]; show (readB t r && pairR p r && _) = _; rw [hrd]; rfl
      simp -implicitDefEqProofs only [go_sem, ↓reduceIte, Int.reduceEq, Int.reduceLT, Int.reduceLE, List.reduceReplicate, intA, setT_nil, setT_cons, ↓boolP_bool, ↓iteB_true, ↓iteB_false, trim_at, hx.bound, hch.bound, hx.len, List.length_map, hch.cells, hx.cells, hlt, hw, hir, hc78]
      refine wp_drawX [([], [], false), ([], [], false), ([], [], false), ([], [], false), ([], [], false), ([], [], false), ([4], [], false), ([], [], false), ([], [], false), ([], [], false), ([], [], false), ([4], [], false), ([], [], false), ([], [], false), ([], [], false), ([], [], false), ([], [], false), ([15], [], false), ([], [], false), ([], [], false), ([], [], false), ([], [], false), ([15], [], false), ([], [], false), ([], [], false), ([], [], false), ([], [], false), ([], [], false), ([], [], false), ([], [], false), ([], [], false), ([], [], false), ([], [], false), ([], [], false), ([], [], false), ([], [], false)] (by kernel_rfl) (by kernel_rfl) ?_
      cases k1 : beforeB (r.ch, r.ln, r.wd) (p.ch, p.ln, p.wd)
      · cases k2 : eqP r.ch r.ln r.wd p.ch p.ln p.wd
        · have hpr : pairR p r = true := by unfold pairR; rw [k1, k2]; rfl
          rw [k1] at hc18
          simp -implicitDefEqProofs only [go_sem, ↓reduceIte, Int.reduceEq, Int.reduceLT, Int.reduceLE, List.reduceReplicate, intA, setT_nil, setT_cons, ↓boolP_bool, ↓iteB_true, ↓iteB_false, trim_at, hx.bound, hch.bound, hx.len, List.length_map, hch.cells, hx.cells, hw, hw1, hpos, hip, hc18, eq32, k2]
          exact ⟨μ - 1, by omega, i + 1 + 1, by omega, rfl, rfl, by rw [hf, hpr, Bool.true_and, if_neg (by omega), Nat.add_sub_cancel, hr]⟩
        · cases k3 : decide (p.kind = 2)
          · have hpr : pairR p r = false := by unfold pairR; rw [k1, k2, k3]; rfl
            rw [k1] at hc18
            rw [hf, hpr, Bool.false_and, Bool.false_and]
            simp -implicitDefEqProofs only [go_sem, ↓reduceIte, Int.reduceEq, Int.reduceLT, Int.reduceLE, List.reduceReplicate, intA, setT_nil, setT_cons, ↓boolP_bool, ↓iteB_true, ↓iteB_false, trim_at, hx.bound, hch.bound, hx.len, List.length_map, hch.cells, hx.cells, hw, hw1, hpos, hip, hc18, eq32, k2, bin_neq8, k3]
          · have hpr : pairR p r = true := by unfold pairR; rw [k1, k2, k3]; rfl
            rw [k1] at hc18
            simp -implicitDefEqProofs only [go_sem, ↓reduceIte, Int.reduceEq, Int.reduceLT, Int.reduceLE, List.reduceReplicate, intA, setT_nil, setT_cons, ↓boolP_bool, ↓iteB_true, ↓iteB_false, trim_at, hx.bound, hch.bound, hx.len, List.length_map, hch.cells, hx.cells, hw, hw1, hpos, hip, hc18, eq32, k2, bin_neq8, k3]
            exact ⟨μ - 1, by omega, i + 1 + 1, by omega, rfl, rfl, by rw [hf, hpr, Bool.true_and, if_neg (by omega), Nat.add_sub_cancel, hr]⟩
      · have hpr : pairR p r = false := by unfold pairR; rw [k1]; rfl
        rw [k1] at hc18
        rw [hf, hpr, Bool.false_and, Bool.false_and]
        simp -implicitDefEqProofs only [go_sem, ↓reduceIte, Int.reduceEq, Int.reduceLT, Int.reduceLE, List.reduceReplicate, intA, setT_nil, setT_cons, ↓boolP_bool, ↓iteB_true, ↓iteB_false, trim_at, hx.bound, hch.bound, hx.len, List.length_map, hch.cells, hx.cells, hw, hw1, hpos, hip, hc18]
  · have hdone : rdsB t none rs = true := by rw [ho, show rs.drop j = [] from List.drop_eq_nil_of_le (by omega)]; rfl
    rw [hdone, Bool.true_and]
    simp -implicitDefEqProofs only [go_sem, ↓reduceIte, Int.reduceEq, Int.reduceLT, Int.reduceLE, List.reduceReplicate, intA, setT_nil, setT_cons, ↓boolP_bool, ↓iteB_true, ↓iteB_false, trim_at, hx.bound, hch.bound, hx.len, List.length_map, hch.cells, hx.cells, hlt]
    have hj5 : j = rs.length := by omega
    subst hj5
    refine Lp_rule (P := fun μ a H => ∃ k, k + μ = t.length ∧ a = ⟨97, [(0, .agg [ch]), (1, .agg [intA id, x]), (2, .ptr 0 0 0), (3, .ptr 1 0 0), (4, .v (.bool false)), (18, .v (.bool false)), (5, intA rs.length), (7, intA k)], []⟩ ∧ H = ⟨[some (.cells 0 0 24 1 false [ch]), some (.cells 0 0 53 1 false [intA id, x])], 0⟩ ∧ chapsN rs 0 t = chapsN rs k (t.drop k)) ?_ t.length _ _ ⟨0, by omega, rfl, rfl, rfl⟩
    rintro μ2 _ _ ⟨k, hk, rfl, rfl, hok⟩
    by_cases hltk : (k : Int) < (t.length : Int)
    · obtain ⟨cp, hcp⟩ := at_lt t k (by omega)
      have hwk := wrap_succ k (by omega)
      obtain ⟨z, hz, l, rfl, lxs, hll, hls⟩ := hall.get hcp
      have hik := hch.idx hz
      unfold intA at hik
      have hcm := List.mem_of_getElem? hcp
      have hfl := ht.lines cp hcm
      rw [drop_eq_cons hcp] at hok
      simp -implicitDefEqProofs only [go_sem, ↓reduceIte, Int.reduceEq, Int.reduceLT, Int.reduceLE, List.reduceReplicate, intA, setT_nil, setT_cons, ↓boolP_bool, ↓iteB_true, ↓iteB_false, trim_at, hx.bound, hch.bound, hx.len, List.length_map, hch.cells, hx.cells, hch.len, ← hall.1, hltk]
      refine Lp_rule (P := fun μ a H => ∃ n, n + μ = cp.2.length ∧ a = ⟨97, [(0, .agg [ch]), (1, .agg [intA id, x]), (2, .ptr 0 0 0), (3, .ptr 1 0 0), (4, .v (.bool false)), (18, .v (.bool false)), (5, intA rs.length), (7, intA k), (75, .v (.bool true)), (8, intA n)], []⟩ ∧ H = ⟨[some (.cells 0 0 24 1 false [ch]), some (.cells 0 0 53 1 false [intA id, x])], 0⟩ ∧ linesN rs k 0 cp.2 = linesN rs k n (cp.2.drop n)) ?_ cp.2.length _ _ ⟨0, by omega, rfl, rfl, rfl⟩
      rintro μ3 _ _ ⟨n, hn, rfl, rfl, hon⟩
      by_cases hltn : (n : Int) < (cp.2.length : Int)
      · obtain ⟨ln, hln⟩ := at_lt cp.2 n (by omega)
        have hwn := wrap_succ n (by omega)
        obtain ⟨v, hv, h79⟩ := call79 he t ht ch xs hch hall id rs x hxr k n cp hcp ln hln (hlen cp hcm ln (List.mem_of_getElem? hln)) (by omega)
        have hv : SlOf 1 (strs (refLine ln rs k n)) v := hv
        have hw10 := call43 he ((refLine ln rs k n).length : Int) 1 10
        rw [drop_eq_cons hln] at hon
        cases h10 : withinB 1 10 [((refLine ln rs k n).length : Int)]
        · rw [h10] at hw10
          have hf : chapsN rs 0 t = false := by rw [hok]; show (linesN rs k 0 cp.2 && _) = _; rw [hon]; show ((withinB 1 10 _ && _) && _) = _; rw [h10]; rfl
          rw [hf]
          simp -implicitDefEqProofs only [go_sem, ↓reduceIte, Int.reduceEq, Int.reduceLT, Int.reduceLE, List.reduceReplicate, intA, setT_nil, setT_cons, ↓boolP_bool, ↓iteB_true, ↓iteB_false, trim_at, hx.bound, hch.bound, hx.len, List.length_map, hch.cells, hx.cells, hch.len, ← hall.1, hik, hll.len, hll.cells, ← hls.1, hltn, h79, hv.len, hv.flat, strs_len, hw10]
        · rw [h10] at hw10
          simp -implicitDefEqProofs only [go_sem, ↓reduceIte, Int.reduceEq, Int.reduceLT, Int.reduceLE, List.reduceReplicate, intA, setT_nil, setT_cons, ↓boolP_bool, ↓iteB_true, ↓iteB_false, trim_at, hx.bound, hch.bound, hx.len, List.length_map, hch.cells, hx.cells, hch.len, ← hall.1, hik, hll.len, hll.cells, ← hls.1, hltn, h79, hv.len, hv.flat, strs_len, hw10, hwn]
          exact ⟨μ3 - 1, by omega, n + 1, by omega, rfl, rfl, by rw [hon]; show (withinB 1 10 _ && _) = _; rw [h10]; rfl⟩
      · have hf : linesN rs k 0 cp.2 = true := by rw [hon, show cp.2.drop n = [] from List.drop_eq_nil_of_le (by omega)]; rfl
        simp -implicitDefEqProofs only [go_sem, ↓reduceIte, Int.reduceEq, Int.reduceLT, Int.reduceLE, List.reduceReplicate, intA, setT_nil, setT_cons, ↓boolP_bool, ↓iteB_true, ↓iteB_false, trim_at, hx.bound, hch.bound, hx.len, List.length_map, hch.cells, hx.cells, hch.len, ← hall.1, hik, hll.len, hll.cells, ← hls.1, hltn, hwk]
        exact ⟨μ2 - 1, by omega, k + 1, by omega, rfl, rfl, by rw [hok]; show (linesN rs k 0 cp.2 && _) = _; rw [hf]; rfl⟩
    · have hf : chapsN rs 0 t = true := by rw [hok, show t.drop k = [] from List.drop_eq_nil_of_le (by omega)]; rfl
      rw [hf]
      simp -implicitDefEqProofs only [go_sem, ↓reduceIte, Int.reduceEq, Int.reduceLT, Int.reduceLE, List.reduceReplicate, intA, setT_nil, setT_cons, ↓boolP_bool, ↓iteB_true, ↓iteB_false, trim_at, hx.bound, hch.bound, hx.len, List.length_map, hch.cells, hx.cells, hch.len, ← hall.1, hltk]
end Go.Ev
namespace Go.Ev
open Go.Proofs
set_option maxRecDepth 100000
set_option linter.unusedSimpArgs false
attribute [local irreducible] Wp WpS
def rightB (t : Txt) (id : Int) (rs : List Rd) : Bool := !greatCB rs && copyB t id rs
set_option maxHeartbeats 2000000 in
theorem ans28 {e : Exts} (he : Quiet e) (t : Txt) (ht : Fits t) (hlen : ∀ c ∈ t, ∀ l ∈ c.2, l.length ≤ 1000) (ch : AV) (xs : List AV) (hch : SlOf 2 xs ch) (hall : All2 ChapA t xs) (id : Int) (rs : List Rd) (x : AV) (hx : RdsA rs x) (hrf : ∀ r ∈ rs, RdF r) : Ans (Cx e) 28 [.agg [ch], .agg [intA id, x]] (.v (.bool (rightB t id rs))) := by
  have hxr := hx
  have hx : SlOf 5 (rs.map rdV) x := hx
  have h56 := call56 he id rs x hxr
  have h57 : ∀ (me : FuncId) (d : Option Tmp) (H : Heap), callA (Cx e) (lim (Cx e)) me 57 d [.agg [ch], .agg [.v (.int .i64 id), x]] H = some (.v (.bool (copyB t id rs)), H) := fun me d H =>
    (ans57 he t ht hlen ch xs hch hall id rs x hxr hrf).call (ext_57 he) (pure_57 _ _ _) (by simp only [boundL_cons, bound_agg, hch.bound, intA, bound_v, SlOf.bound hx, boundL_nil]; rfl) H
  unfold Ans
  rw [fn_step (fn_28 e) (show Tryz.f28.body = some _ from rfl)]
  cases h1 : greatCB rs
  · have hB : rightB t id rs = copyB t id rs := by unfold rightB; rw [h1]; rfl
    rw [h1] at h56
    rw [hB]
    simp -implicitDefEqProofs only [Tryz.f28, go_sem, ↓reduceIte, Int.reduceEq, Int.reduceLT, Int.reduceLE, List.reduceReplicate, intA, setT_nil, setT_cons, ↓boolP_bool, ↓iteB_true, ↓iteB_false, hch.cells, hch.flat, hch.bound, hx.cells, hx.flat, hx.bound, h56, h57]
  · have hB : rightB t id rs = false := by unfold rightB; rw [h1]; rfl
    rw [h1] at h56
    rw [hB]
    simp -implicitDefEqProofs only [Tryz.f28, go_sem, ↓reduceIte, Int.reduceEq, Int.reduceLT, Int.reduceLE, List.reduceReplicate, intA, setT_nil, setT_cons, ↓boolP_bool, ↓iteB_true, ↓iteB_false, hch.cells, hch.flat, hch.bound, hx.cells, hx.flat, hx.bound, h56]
end Go.Ev
namespace Go.Ev
open Go.Proofs
set_option maxRecDepth 100000
set_option linter.unusedSimpArgs false
attribute [local irreducible] Wp WpS
/-- the copy is one of the text, as hasCopy has it -/
def Has58 (e : Exts) (ch : AV) (id : Int) (x : AV) (b : Bool) : Prop := ∀ (me : FuncId) (d : Option Tmp) (H : Heap), callA (Cx e) (lim (Cx e)) me 58 d [.agg [ch], .agg [.v (.int .i64 id), x]] H = some (.v (.bool b), H)
set_option maxHeartbeats 2000000 in
theorem ans54 {e : Exts} (he : Quiet e) (t : Txt) (ht : Fits t) (htx : textB t = true) (ch : AV) (xs : List AV) (hch : SlOf 2 xs ch) (hall : All2 ChapA t xs) (id : Int) (rs : List Rd) (x : AV) (hx : RdsA rs x) (h58 : Has58 e ch id x true) : Ans (Cx e) 54 [.agg [ch], .agg [intA id, x]] (.tup [.agg [ch], intA 0]) := by
  have hx : SlOf 5 (rs.map rdV) x := hx
  have h40 := call40 he t ht ch ⟨xs, hch, hall⟩
  rw [htx, if_pos rfl] at h40
  unfold intA at h40
  unfold Has58 at h58
  unfold Ans
  rw [fn_step (fn_54 e) (show Tryz.f54.body = some _ from rfl)]
  simp -implicitDefEqProofs only [Tryz.f54, go_sem, ↓reduceIte, Int.reduceEq, Int.reduceLT, Int.reduceLE, List.reduceReplicate, intA, setT_nil, setT_cons, ↓boolP_bool, ↓iteB_true, ↓iteB_false, hch.cells, hch.flat, hch.bound, hx.cells, hx.flat, hx.bound, h40, h58]
  rcases hch with ⟨rfl, -⟩ | ⟨cap, rfl⟩ <;> rfl
theorem call54 {e : Exts} (he : Quiet e) (t : Txt) (ht : Fits t) (htx : textB t = true) (ch : AV) (xs : List AV) (hch : SlOf 2 xs ch) (hall : All2 ChapA t xs) (id : Int) (rs : List Rd) (x : AV) (hx : RdsA rs x) (h58 : Has58 e ch id x true) (me : FuncId) (d : Option Tmp) (H : Heap) : callA (Cx e) (lim (Cx e)) me 54 d [.agg [ch], .agg [.v (.int .i64 id), x]] H = some (.tup [.agg [ch], .v (.int .i64 0)], H) :=
  (ans54 he t ht htx ch xs hch hall id rs x hx h58).call (ext_54 he) (pure_54 _ _ _) (by simp only [boundL_cons, bound_agg, hch.bound, intA, bound_v, SlOf.bound hx, boundL_nil]; rfl) H
def takesB (a b c : Int) (r : Rd) : Bool := eqP r.ch r.ln r.wd a b c && !decide (r.kind = 2)
def standL (rs : List Rd) (a b c : Int) (own : ByteArray) : ByteArray := match rs.find? (takesB a b c) with | some r => r.word | none => own
end Go.Ev
