/- What the proof of this claim stands on, part 6: an evaluator of the model, proved right, and what it answers for functions of the program. -/
import Derived.Test.YtjcgoiajjgeedaaGreatPk04
set_option linter.unusedSimpArgs false
namespace Go.Ev
open Go.Proofs
set_option maxRecDepth 100000
set_option linter.unusedSimpArgs false
/-! ### from arguments of plain data to copies -/
theorem map_of {α β : Type} {f : α → β} {Q : α → Prop} : ∀ (xs : List β), (∀ y ∈ xs, ∃ r, y = f r ∧ Q r) → ∃ l : List α, xs = l.map f ∧ ∀ r ∈ l, Q r
  | [], _ => ⟨[], rfl, fun r h => nomatch h⟩
  | y :: xs, h => by
    obtain ⟨r, rfl, hr⟩ := h y (List.mem_cons_self ..)
    obtain ⟨l, rfl, hl⟩ := map_of xs fun z hz => h z (List.mem_cons_of_mem _ hz)
    exact ⟨r :: l, rfl, fun q hq => (List.mem_cons.1 hq).elim (fun e => e ▸ hr) (hl q)⟩
theorem cells3 {l : List AV} (h : l.length = 3) : ∃ a b c, l = [a, b, c] := by
  match l, h with
  | [a, b, c], _ => exact ⟨a, b, c, rfl⟩
theorem cells5 {l : List AV} (h : l.length = 5) : ∃ a b c d e, l = [a, b, c, d, e] := by
  match l, h with
  | [a, b, c, d, e], _ => exact ⟨a, b, c, d, e, rfl⟩
theorem place_of {N : Nat} {cs : List AV} (h : Plain Tryz.prog (N + 2) 32 cs) : ∃ a b c, cs = [intA a, intA b, intA c] := by
  obtain ⟨hl, hf⟩ := plain_struct (l := [(0, 3), (1, 3), (2, 3)]) (by kernel_rfl) (by kernel_rfl) h
  obtain ⟨a, b, c, rfl⟩ := cells3 (hl.trans (by kernel_rfl))
  have h0 := hf (0, 3) (by simp)
  have h1 := hf (1, 3) (by simp)
  have h2 := hf (2, 3) (by simp)
  have e0 : Tryz.prog.cellsOf 3 = 1 := by kernel_rfl
  simp only [e0, List.drop_zero, List.drop_succ_cons, List.take_succ_cons, List.take_zero] at h0 h1 h2
  obtain ⟨m, hm, -⟩ := plain_int (by kernel_rfl : Tryz.prog.underlying 3 = some (.int .i64)) h0
  obtain ⟨n, hn, -⟩ := plain_int (by kernel_rfl : Tryz.prog.underlying 3 = some (.int .i64)) h1
  obtain ⟨k, hk, -⟩ := plain_int (by kernel_rfl : Tryz.prog.underlying 3 = some (.int .i64)) h2
  simp only [List.cons.injEq, and_true] at hm hn hk
  exact ⟨m, n, k, by rw [hm, hn, hk]; rfl⟩
theorem u8_wf {m : Int} (h : (Lit.int .u8 m).wf = true) : 0 ≤ m ∧ m < 256 := by
  have h2 : (decide (IntKind.u8.min ≤ m) && decide (m ≤ IntKind.u8.max)) = true := h
  have e1 : IntKind.u8.min = 0 := by decide
  have e2 : IntKind.u8.max = 255 := by decide
  rw [e1, e2] at h2
  simp at h2; omega
theorem rd_of {N : Nat} {cs : List AV} (h : Plain Tryz.prog (N + 3) 65 cs) : ∃ r, AV.agg cs = rdV r ∧ RdF r := by
  obtain ⟨hl, hf⟩ := plain_struct (l := [(0, 32), (3, 5), (4, 9)]) (by kernel_rfl) (by kernel_rfl) h
  obtain ⟨a, b, c, d, e, rfl⟩ := cells5 (hl.trans (by kernel_rfl))
  have h0 := hf (0, 32) (by simp)
  have h1 := hf (3, 5) (by simp)
  have h2 := hf (4, 9) (by simp)
  have e0 : Tryz.prog.cellsOf 32 = 3 := by kernel_rfl
  have e1 : Tryz.prog.cellsOf 5 = 1 := by kernel_rfl
  have e2 : Tryz.prog.cellsOf 9 = 1 := by kernel_rfl
  simp only [e0, e1, e2, List.drop_zero, List.drop_succ_cons, List.take_succ_cons, List.take_zero] at h0 h1 h2
  obtain ⟨x, y, z, hp⟩ := place_of h0
  obtain ⟨m, hm, hw⟩ := plain_int (by kernel_rfl : Tryz.prog.underlying 5 = some (.int .u8)) h1
  obtain ⟨s, hs, hsz⟩ := plain_string (by kernel_rfl : Tryz.prog.underlying 9 = some .string) h2
  simp only [List.cons.injEq, and_true] at hp hm hs
  obtain ⟨rfl, rfl, rfl⟩ := hp
  subst hm hs
  have := u8_wf hw
  have hml := maxLen_lt
  exact ⟨⟨x, y, z, m, s⟩, rfl, ⟨this.1, this.2, by show s.size < _; omega⟩⟩
theorem copy_of {N : Nat} {x : AV} (h : Arg Tryz.prog (N + 5) 53 x) : ∃ id rs y, x = .agg [intA id, y] ∧ RdsA rs y ∧ ∀ r ∈ rs, RdF r := by
  obtain ⟨A, rfl, hp⟩ := arg_struct (by kernel_rfl) h
  obtain ⟨hl, hf⟩ := plain_struct (l := [(0, 3), (1, 51)]) (by kernel_rfl) (by kernel_rfl) hp
  obtain ⟨a, b, rfl⟩ := two_cells (hl.trans (by kernel_rfl))
  have h0 := hf (0, 3) (by simp)
  have h1 := hf (1, 51) (by simp)
  have e0 : Tryz.prog.cellsOf 3 = 1 := by kernel_rfl
  have e1 : Tryz.prog.cellsOf 51 = 1 := by kernel_rfl
  simp only [e0, e1, List.drop_zero, List.drop_succ_cons, List.take_succ_cons, List.take_zero] at h0 h1
  obtain ⟨m, hm, -⟩ := plain_int (by kernel_rfl : Tryz.prog.underlying 3 = some (.int .i64)) h0
  obtain ⟨y, xs, hy, hsl, hlen, hxs⟩ := plain_slice (c := 5) (by kernel_rfl : Tryz.prog.underlying 51 = some (.slice 65)) (by kernel_rfl) h1
  simp only [List.cons.injEq, and_true] at hm hy
  subst hm
  have key : ∀ z ∈ xs, ∃ r, z = rdV r ∧ RdF r := by
    intro z hz
    obtain ⟨d, rfl, hd5, hd⟩ := hxs z hz
    obtain ⟨a1, a2, a3, a4, a5, rfl⟩ := cells5 hd5
    exact rd_of hd
  obtain ⟨rs, rfl, hrs⟩ := map_of xs key
  exact ⟨m, rs, b, rfl, by rw [hy]; exact hsl, hrs⟩
end Go.Ev
namespace Go.Ev
open Go.Proofs
set_option maxRecDepth 100000
set_option linter.unusedSimpArgs false
attribute [local irreducible] Wp WpS
theorem okFrom_iff (t : Txt) : ∀ (l : Txt) (j : Nat), okFrom t j l = true ↔ ∀ (i : Nat) (c : Chap), l[i]? = some c → condC t (j + i) c = true
  | [], j => by simp [okFrom]
  | x :: l, j => by
    unfold okFrom
    rw [Bool.and_eq_true, okFrom_iff t l (j + 1)]
    constructor
    · rintro ⟨h1, h2⟩ i c hc
      cases i with
      | zero => simp at hc; subst hc; exact h1
      | succ i => rw [show j + (i + 1) = j + 1 + i by omega]; exact h2 i c (by simpa using hc)
    · intro h
      exact ⟨h 0 x rfl, fun i c hc => by rw [show j + 1 + i = j + (i + 1) by omega]; exact h (i + 1) c (by simpa using hc)⟩
theorem idB_map (t : Txt) (id : Int) (n : Nat) : idB t id 0 n = ((t.map (·.1)).take n).any fun x => decide (x = id) := by
  unfold idB
  rw [List.drop_zero, ← List.map_take, List.any_map]; rfl
theorem readT_ids (t : Txt) (rs : List Rd) : (readT t rs).map (·.1) = t.map (·.1) := by
  apply List.ext_getElem?
  intro i
  unfold readT
  rw [List.getElem?_map, List.getElem?_map, List.getElem?_mapIdx]
  cases t[i]? <;> simp
theorem Right.text {t : Txt} {id : Int} {rs : List Rd} (h : Right t id rs) (ht : textB t = true) : textB (readT t rs) = true := by
  have hs := small_of ht
  have hs2 := h.small hs
  unfold textB at ht ⊢
  rw [Bool.and_eq_true] at ht ⊢
  have hl : (readT t rs).length = t.length := by unfold readT; rw [List.length_mapIdx]
  refine ⟨by rw [hl]; exact ht.1, (okFrom_iff _ _ _).2 fun i c hc => ?_⟩
  have hil : i < t.length := by rw [← hl]; exact (List.getElem?_eq_some_iff.1 hc).1
  obtain ⟨c0, hc0⟩ := at_lt t i hil
  have h0 := (okFrom_iff t t 0).1 ht.2 i c0 hc0
  have hcm := List.mem_of_getElem? hc
  rw [readT_get hc0] at hc
  have hid : c.1 = c0.1 := by cases hc; rfl
  have hlen : c.2.length = c0.2.length := by cases hc; simp
  unfold condC at h0 ⊢
  simp only [Bool.and_eq_true] at h0 ⊢
  obtain ⟨⟨⟨e1, e2⟩, e3⟩, e4⟩ := h0
  rw [Nat.zero_add] at e3 ⊢
  refine ⟨⟨⟨by rw [hid]; exact e1, by rw [hlen]; exact e2⟩, by rw [hid, idB_map, readT_ids, ← idB_map]; exact e3⟩, List.all_eq_true.2 fun l hl => ?_⟩
  unfold lineB
  have hw := hs2.words c hcm l hl
  rw [Bool.and_eq_true]
  refine ⟨?_, List.all_eq_true.2 fun s hm => hs2.word c hcm l hl s hm⟩
  unfold withinB
  simp only [List.all_cons, List.all_nil, Bool.and_true, Bool.and_eq_true, decide_eq_true_eq]; omega
theorem call23 {e : Exts} (he : Quiet e) {t u : Txt} (ht : Fits t) (hu : Fits u) {ch ch' : AV} {xs xs' : List AV} (hch : SlOf 2 xs ch) (hall : All2 ChapA t xs) (hch' : SlOf 2 xs' ch') (hall' : All2 ChapA u xs') (h1 : textB t = true) (h2 : textB u = true) (h3 : alikeB t u = true) (me : FuncId) (d : Option Tmp) (H : Heap) : callA (Cx e) (lim (Cx e)) me 23 d [.agg [ch], .agg [ch']] H = some (.tup [.v (.int .i64 (apartT t u)), .v (.int .i64 0)], H) :=
  (ans23 he t u ht hu ch ch' xs xs' hch hall hch' hall' h1 h2 h3).call (ext_23 he) (pure_23 _ _ _) (by simp only [boundL_cons, bound_agg, hch.bound, hch'.bound, boundL_nil]; rfl) H
theorem call27 {e : Exts} (he : Quiet e) {t u : Txt} (ht : Fits t) (hu : Fits u) {ch ch' : AV} {xs xs' : List AV} (hch : SlOf 2 xs ch) (hall : All2 ChapA t xs) (hch' : SlOf 2 xs' ch') (hall' : All2 ChapA u xs') (me : FuncId) (d : Option Tmp) (H : Heap) : callA (Cx e) (lim (Cx e)) me 27 d [.agg [ch], .agg [ch']] H = some (.v (.bool (decide (t = u))), H) :=
  (ans27 he t u ht hu ch ch' xs xs' hch hall hch' hall').call (ext_27 he) (pure_27 _ _ _) (by simp only [boundL_cons, bound_agg, hch.bound, hch'.bound, boundL_nil]; rfl) H
theorem ready_text {t : Txt} (h : readyB t = true) : textB t = true := by unfold readyB at h; simp only [Bool.and_eq_true] at h; exact h.2
set_option maxHeartbeats 4000000 in
theorem ans7 {e : Exts} (he : Quiet e) (hx12 : e 12 = some (atArgs [] (.v (.bool true)))) (t u : Txt) (ht : Fits t) (hu : Fits u) (ch ch' : AV) (xs xs' : List AV) (hch : SlOf 2 xs ch) (hall : All2 ChapA t xs) (hch' : SlOf 2 xs' ch') (hall' : All2 ChapA u xs') (id : Int) (rs : List Rd) (x : AV) (hx : RdsA rs x) (hrd : ∀ r ∈ rs, RdF r) :
    Ans (Cx e) 7 [.agg [ch], .agg [ch'], .agg [intA id, x]] (.v (.bool true)) := by
  have h13 := call13 he t ht _ ⟨ch, rfl, xs, hch, hall⟩
  have h13' := call13 he u hu _ ⟨ch', rfl, xs', hch', hall'⟩
  have hxr := hx
  have hx : SlOf 5 (rs.map rdV) x := hx
  unfold Ans
  rw [fn_step (fn_7 e) (show Tryz.f7.body = some _ from rfl)]
  cases h1 : readyB t
  · rw [h1] at h13
    simp -implicitDefEqProofs only [Tryz.f7, go_sem, ↓reduceIte, Nat.reduceEqDiff, Nat.reduceLT, Nat.reduceLeDiff, Nat.reduceAdd, Nat.reduceSub, Nat.reduceMul, reduceCtorEq, Int.reduceEq, Int.reduceLT, Int.reduceLE, List.reduceReplicate, intA, setT_nil, setT_cons, ↓boolP_bool, ↓iteB_true, ↓iteB_false, hch.cells, hch.flat, hch.bound, hch'.cells, hch'.flat, hch'.bound, hx.cells, hx.flat, hx.bound, call12 hx12, h13]
  rw [h1] at h13
  cases h1' : readyB u
  · rw [h1'] at h13'
    simp -implicitDefEqProofs only [Tryz.f7, go_sem, ↓reduceIte, Nat.reduceEqDiff, Nat.reduceLT, Nat.reduceLeDiff, Nat.reduceAdd, Nat.reduceSub, Nat.reduceMul, reduceCtorEq, Int.reduceEq, Int.reduceLT, Int.reduceLE, List.reduceReplicate, intA, setT_nil, setT_cons, ↓boolP_bool, ↓iteB_true, ↓iteB_false, hch.cells, hch.flat, hch.bound, hch'.cells, hch'.flat, hch'.bound, hx.cells, hx.flat, hx.bound, call12 hx12, h13, h13']
  rw [h1'] at h13'
  have htx := ready_text h1
  have hux := ready_text h1'
  have hs := small_of htx
  have hsu := small_of hux
  have h28 := call28 he t ht (fun c hc l hl => by have := (hs.words c hc l hl).2; omega) ch xs hch hall id rs x hxr hrd
  cases h2 : rightB t id rs
  · rw [h2] at h28
    simp -implicitDefEqProofs only [Tryz.f7, go_sem, ↓reduceIte, Nat.reduceEqDiff, Nat.reduceLT, Nat.reduceLeDiff, Nat.reduceAdd, Nat.reduceSub, Nat.reduceMul, reduceCtorEq, Int.reduceEq, Int.reduceLT, Int.reduceLE, List.reduceReplicate, intA, setT_nil, setT_cons, ↓boolP_bool, ↓iteB_true, ↓iteB_false, hch.cells, hch.flat, hch.bound, hch'.cells, hch'.flat, hch'.bound, hx.cells, hx.flat, hx.bound, call12 hx12, h13, h13', h28]
  rw [h2] at h28
  have h24 := call24 he t u ht _ _ ⟨ch, rfl, xs, hch, hall⟩ ⟨ch', rfl, xs', hch', hall'⟩
  cases h3 : alikeB t u
  · rw [h3] at h24
    simp -implicitDefEqProofs only [Tryz.f7, go_sem, ↓reduceIte, Nat.reduceEqDiff, Nat.reduceLT, Nat.reduceLeDiff, Nat.reduceAdd, Nat.reduceSub, Nat.reduceMul, reduceCtorEq, Int.reduceEq, Int.reduceLT, Int.reduceLE, List.reduceReplicate, intA, setT_nil, setT_cons, ↓boolP_bool, ↓iteB_true, ↓iteB_false, hch.cells, hch.flat, hch.bound, hch'.cells, hch'.flat, hch'.bound, hx.cells, hx.flat, hx.bound, call12 hx12, h13, h13', h28, h24]
  rw [h3] at h24
  have hR : Right t id rs := Right.of (by unfold rightB at h2; simp only [Bool.and_eq_true] at h2; exact h2.2)
  obtain ⟨ys, o, ho, hys, -, h25a⟩ := copyW he t hs ht htx ch xs hch hall id rs x hxr hrd hR
  have h25 := call25 he (by simp only [boundL_cons, bound_agg, hch.bound, intA, bound_v, hx.bound, boundL_nil]; rfl) h25a
  have hv := hR.fits ht hrd
  have hvx := hR.text htx
  have hvs := small_of hvx
  have s1 : shapeT t = shapeT u := of_decide_eq_true h3
  have s2 : shapeT t = shapeT (readT t rs) := (readT_shape t rs).symm
  have a1 : alikeB u t = true := decide_eq_true s1.symm
  have a2 : alikeB t (readT t rs) = true := decide_eq_true s2
  have a3 : alikeB (readT t rs) u = true := decide_eq_true (s2.symm.trans s1)
  have c1 := call23 he ht hu hch hall hch' hall' htx hux h3
  have c2 := call23 he hu ht hch' hall' hch hall hux htx a1
  have c3 := call23 he ht hv hch hall ho hys htx hvx a2
  have c4 := call23 he hv hu ho hys hch' hall' hvx hux a3
  have c5 := call27 he ht hu hch hall hch' hall'
  have e1 := apartT_sym u t
  have e2 := apartT_tri t (readT t rs) u s2 (s2.symm.trans s1)
  have e3 := apartT_tri t u (readT t rs) s1 (s1.symm.trans s2)
  have e4 := apartT_sym u (readT t rs)
  have e5 := readT_near hs hR.cpy
  have e6 := apartT_zero t u s1
  have b1 := apart_small hs hsu
  have b2 := apart_small hs hvs
  have b3 := apart_small hvs hsu
  rw [e1] at c2
  rw [e4] at e3
  generalize apartT t u = A at *
  generalize apartT t (readT t rs) = P at *
  generalize apartT (readT t rs) u = Q at *
  have w1 : IntKind.i64.wrap ((P : Int) + (Q : Int)) = (P : Int) + Q := wrap_in _ (by omega) (by omega)
  have w2 : IntKind.i64.wrap ((A : Int) + (Q : Int)) = (A : Int) + Q := wrap_in _ (by omega) (by omega)
  have q1 : (0 : Int) ≤ (A : Int) := by omega
  have q2 : (A : Int) ≤ (P : Int) + Q := by omega
  have q3 : (P : Int) ≤ (A : Int) + Q := by omega
  have q4 : (P : Int) ≤ ((rs.length : Nat) : Int) := by omega
  have q5 : decide ((A : Int) = 0) = decide (t = u) := by
    rw [decide_eq_decide, ← e6]; omega
  simp -implicitDefEqProofs only [Tryz.f7, go_sem, ↓reduceIte, Nat.reduceEqDiff, Nat.reduceLT, Nat.reduceLeDiff, Nat.reduceAdd, Nat.reduceSub, Nat.reduceMul, reduceCtorEq, Int.reduceEq, Int.reduceLT, Int.reduceLE, List.reduceReplicate, intA, setT_nil, setT_cons, ↓boolP_bool, ↓iteB_true, ↓iteB_false, hch.cells, hch.flat, hch.bound, hch'.cells, hch'.flat, hch'.bound, hx.cells, hx.flat, hx.bound, ho.cells, ho.flat, ho.bound, call12 hx12, h13, h13', h28, h24, h25, c1, c2, c3, c4, c5, w1, w2, q1, q2, q3, q4, q5, bool4, hx.len, List.length_map, eq_self, decide_true]
end Go.Ev
