/- What the proof of this claim stands on, part 5: an evaluator of the model, proved right, and what it answers for functions of the program. -/
import Derived.Test.YtajjlolcodbikaaGreatPk03
import Derived.Laws.StructEq
import Derived.Lib.Bytealg
import Derived.ChangeReads
import Derived.ChangeOld
import Derived.ChangeArms
import Derived.RowKit3
import Derived.WalkKit
import Derived.ProofKit
import Derived.OpenShut
namespace Go.Ev
open Go.Proofs
set_option maxRecDepth 100000
set_option linter.unusedSimpArgs false
theorem plus_store_lo {H : Heap} {b v k : Nat} {xs : List AV} (E : List (Option AObj)) (h : b < H.size) : storeCells (H.plus E) b v k xs = (storeCells H b v k xs).map (·.plus E) := by
  unfold storeCells
  rw [plus_row E h, plus_lock]
  cases H.row b v with
  | none => rfl
  | some r =>
    obtain ⟨m, e, sz, g, cs⟩ := r
    simp only
    split
    · simp only [Option.map_some]; rw [plus_put E _ h]
    · rfl
theorem wrap_wrap (n : Int) : IntKind.i64.wrap (IntKind.i64.wrap n + 1) = IntKind.i64.wrap (n + 1) := by
  simp only [IntKind.wrap_i64]; omega
noncomputable def bdy14 : Code := ((Tryz.f14.body.bind rangeOf).getD (.skip, .skip)).2
def lp14 (ch : AV) (st : LoopState) (b : Code) : ALoop := { fn := 14, state := st, pending := none, size := 22, tmps := [(0, .agg [ch]), (1, .ptr 0 0 0), (2, intA 0), (3, intA 0), (4, .ptr 1 0 0), (5, intA 0), (13, .v (.bool false)), (6, .ptr 2 0 0), (16, .fn (.func 63) [] [.ro (.agg [ch]) 0])], params := #[17, 18], assign := .skip, body := b, dfr := 3 }
noncomputable def hv14 (ch : AV) (st : LoopState) (v : Int) : Heap := ⟨[some (.cells 0 0 24 1 false [ch]), some (.cells 0 0 79 1 false [ch]), some (.cells 0 0 3 1 false [intA v]), some .dfr, some (.loop (lp14 ch st bdy14))], 0⟩
noncomputable def hp14 (ch : AV) (st : LoopState) (c : Nat) : Heap := hv14 ch st (IntKind.i64.wrap c)
theorem hp14_succ (ch : AV) (st : LoopState) (c : Nat) : hv14 ch st (IntKind.i64.wrap ((c : Int) + 1)) = hp14 ch st (c + 1) := by
  unfold hp14
  have : ((c + 1 : Nat) : Int) = (c : Int) + 1 := by omega
  rw [this]
theorem hv14_row (ch : AV) (st : LoopState) (v : Int) (E : List (Option AObj)) : ((hv14 ch st v).plus E).row 2 0 = some (0, 3, 1, false, [.v (.int .i64 v)]) := plus_row E (show 2 < 5 by omega)
theorem hv14_store (ch : AV) (st : LoopState) (v u : Int) (E : List (Option AObj)) : storeCells ((hv14 ch st v).plus E) 2 0 0 [.v (.int .i64 u)] = some ((hv14 ch st u).plus E) := by
  rw [plus_store_lo E (show 2 < 5 by omega)]; rfl
theorem hv14_put (ch : AV) (st st' : LoopState) (v : Int) (E : List (Option AObj)) : ((hv14 ch st v).plus E).put 4 (.loop (lp14 ch st' bdy14)) = (hv14 ch st' v).plus E := rfl
theorem hp14_size (ch : AV) (st : LoopState) (c : Nat) : (hp14 ch st c).size = 5 := rfl
set_option maxHeartbeats 1000000 in
theorem src14 {e : Exts} (ch : AV) : Src (Cx e) 4 Nat (hp14 ch .ready) (fun c _ => (true, c + 1)) (fun x => x.length = 2) (fun _ => True) 5 := by
  refine ⟨fun _ => rfl, by omega, fun _ => Nat.zero_le _, fun _ _ _ _ _ => trivial, fun c x E _ hx => ?_⟩
  have key := round_step (C := Cx e) (l := 4) (args := x) (H := (hp14 ch .ready c).plus E) (r := lp14 ch .ready bdy14) (K := fun b H' => b = true ∧ ∃ G, H' = (hp14 ch .ready (c + 1)).plus (E ++ G)) rfl hx (Nat.zero_le _) ?_
  · obtain ⟨b, H', h1, rfl, G, rfl⟩ := key
    exact ⟨G, h1⟩
  · show Wp (Cx e) 14 (some 4) .skip _ _ _
    rw [wp_skip]
    refine asgK_mk (r1 := lp14 ch .ready bdy14) rfl rfl ?_
    have hp : ((hp14 ch .ready c).plus E).put 4 (.loop { lp14 ch .ready bdy14 with state := .busy }) = (hp14 ch .busy c).plus E := hv14_put ch .ready .busy _ E
    rw [hp]
    show Wp (Cx e) 14 (some 4) bdy14 ⟨22, setTmps 22 [(0, .agg [ch]), (1, .ptr 0 0 0), (2, intA 0), (3, intA 0), (4, .ptr 1 0 0), (5, intA 0), (13, .v (.bool false)), (6, .ptr 2 0 0), (16, .fn (.func 63) [] [.ro (.agg [ch]) 0])] ([17, 18].zip x), []⟩ _ _
    obtain ⟨x1, x2, rfl⟩ : ∃ a b, x = [a, b] := by
      match x, hx with
      | [a, b], _ => exact ⟨a, b, rfl⟩
    generalize hKK : bodyK _ _ _ = KK
    have hrow : ∀ E, ((hp14 ch .busy c).plus E).row 2 0 = some (0, 3, 1, false, [.v (.int .i64 (IntKind.i64.wrap c))]) := fun E => hv14_row ch .busy _ E
    have hsto : ∀ (E : List (Option AObj)), storeCells ((hp14 ch .busy c).plus E) 2 0 0 [.v (.int .i64 (IntKind.i64.wrap ((c : Int) + 1)))] = some ((hp14 ch .busy (c + 1)).plus E) := fun E => by
      rw [← hp14_succ]; exact hv14_store ch .busy _ _ E
    have hww := wrap_wrap (c : Int)
    unfold bdy14
    simp only [Tryz.f14, rangeOf, Option.bind_some, Option.orElse_some, Option.orElse_none, Option.getD_some]
    simp -implicitDefEqProofs only [go_sem, repeatCells, splice, chunk, bsFin, ne_eq, not_true_eq_false, not_false_eq_true, List.headD_cons, Bool.false_eq_true, Nat.le_refl, Nat.zero_mul, Nat.one_mul, Nat.mul_one, assoc_setI, assoc_keep, ↓reduceIte, Nat.reduceEqDiff, Nat.reduceLT, Nat.reduceLeDiff, Nat.reduceAdd, Nat.reduceSub, Nat.reduceMul, decide_true, decide_false, Bool.not_true, Bool.not_false, List.mem_cons, List.not_mem_nil, true_or, or_true, false_or, or_false, and_true, true_and, and_self, List.getElem?_cons_succ, List.getElem?_cons_zero, Option.bind_some, Option.map_some, Option.map_none, List.map_cons, List.map_nil, List.length_cons, List.length_nil, List.filterMap_cons, List.filterMap_nil, List.cons_append, List.nil_append, List.append_nil, Nat.zero_add, Nat.add_zero, List.take_succ_cons, List.take_zero, List.take_nil, List.drop_succ_cons, List.drop_zero, List.drop_nil, List.all_cons, List.all_nil, Bool.and_true, Bool.true_and, Bool.false_and, Bool.and_false, reduceCtorEq, beq_iff_eq, beq_self_eq_true, intA, List.zip_cons_cons, List.zip_nil_right, List.zip_nil_left, setT_nil, setT_cons, plus_size, hp14_size, settle_none (hp14_size _ _ _), hrow, hsto, hww]
    subst hKK
    refine bodyK_mk (r3 := lp14 ch .busy bdy14) (j := none) rfl rfl ⟨rfl, ?_⟩
    have hp2 : ((hp14 ch .busy (c + 1)).plus E).put 4 (.loop { lp14 ch .busy bdy14 with state := if (none : Option Code).isNone then .ready else .done, pending := none }) = (hp14 ch .ready (c + 1)).plus (E ++ []) := by rw [List.append_nil]; exact hv14_put ch .busy .ready _ E
    rw [hp2]
    exact trim_plus (H := hp14 ch .ready (c + 1)) E [] [] [] (by rw [plus_size, hp14_size, hp14_size])
theorem run14 : ∀ (items : List (List AV)) (c : Nat), runIt (fun c _ => (true, c + 1)) items c = (true, c + items.length)
  | [], c => rfl
  | x :: r, c => by
    rw [runIt_cons]; simp only [if_true]; rw [run14 r]; simp; omega
theorem allIts_two (xs : List AV) : ∀ x ∈ allIts xs, x.length = 2 := by
  intro x hx
  obtain ⟨y, hy, hx⟩ := List.mem_flatMap.1 hx
  obtain ⟨i, y', j, z, -, -, rfl⟩ := chapIts_of xs 0 y hy
  obtain ⟨w, u, -, rfl⟩ := wIts_of _ _ _ 0 x hx
  rfl
theorem okCh2_of {t : Txt} (ht : Fits t) {xs : List AV} (hall : All2 ChapA t xs) : ∀ y ∈ xs, OkCh2 y := by
  intro y hy
  obtain ⟨i, hi⟩ := List.getElem?_of_mem hy
  have hlt := (List.getElem?_eq_some_iff.1 hi).1
  obtain ⟨c, hc⟩ := at_lt t i (by rw [hall.1]; exact hlt)
  obtain ⟨l, rfl, lxs, hl, hls⟩ := hall.2 i c y hc hi
  have hm := List.mem_of_getElem? hc
  refine ⟨c.1, l, lxs, rfl, hl, by rw [← hls.1]; exact ht.lines c hm, fun x hx => ?_⟩
  obtain ⟨j, hj⟩ := List.getElem?_of_mem hx
  have hjl := (List.getElem?_eq_some_iff.1 hj).1
  obtain ⟨ws, hws⟩ := at_lt c.2 j (by rw [hls.1]; exact hjl)
  have hlx : SlOf 1 (strs ws) x := hls.2 j ws x hws hj
  exact ⟨strs ws, hlx, fun z hz => by obtain ⟨s, -, rfl⟩ := List.mem_map.1 hz; rfl, by rw [strs_len]; exact ht.words c hm ws (List.mem_of_getElem? hws)⟩
def hd14 (ch : AV) (v : Int) : Heap := ⟨[some (.cells 0 0 24 1 false [ch]), some (.cells 0 0 79 1 false [ch]), some (.cells 0 0 3 1 false [intA v]), some .dfr, some .dead], 0⟩
theorem hd14_of (ch : AV) (v : Int) (G : List (Option AObj)) : ((hv14 ch .ready v).plus G).put 4 .dead = (hd14 ch v).plus G := rfl
theorem hd14_size (ch : AV) (v : Int) : (hd14 ch v).size = 5 := rfl
theorem hd14_row (ch : AV) (v : Int) (E : List (Option AObj)) : ((hd14 ch v).plus E).row 2 0 = some (0, 3, 1, false, [.v (.int .i64 v)]) := plus_row E (show 2 < 5 by omega)
def he14 (ch : AV) (v : Int) : Heap := ⟨[some (.cells 0 0 24 1 false [ch]), some (.cells 0 0 79 1 false [ch]), some (.cells 0 0 3 1 false [intA v]), some .dead, some .dead], 0⟩
theorem hd14_kill (ch : AV) (v : Int) (E : List (Option AObj)) : killAll [3] ((hd14 ch v).plus E) = some ((he14 ch v).plus E) := rfl
theorem ansK_tup2 (v : AV) (a b : Value) (H : Heap) : AtO (ansK v) (.tup [.v a, .v b]) H = (some (AV.tup [.v a, .v b]) = some v) := rfl
set_option maxHeartbeats 1000000 in
theorem ans14 {e : Exts} (he : Quiet e) (t : Txt) (ht : Fits t) (ch : AV) (xs : List AV) (hch : SlOf 2 xs ch) (hall : All2 ChapA t xs) : Ans (Cx e) 14 [.agg [ch]] (if textB t then .tup [intA (IntKind.i64.wrap (allIts xs).length), intA 0] else .tup [intA 0, intA 10]) := by
  have hc := call40 he t ht ch ⟨xs, hch, hall⟩
  unfold Ans
  rw [fn_step (fn_14 e) (show Tryz.f14.body = some _ from rfl)]
  cases h1 : textB t
  · rw [h1] at hc
    simp only [Bool.false_eq_true, if_false, intA] at hc
    simp -implicitDefEqProofs only [Tryz.f14, intA, go_sem, repeatCells, splice, chunk, bsFin, ne_eq, not_true_eq_false, not_false_eq_true, List.headD_cons, Bool.false_eq_true, Nat.le_refl, Nat.zero_mul, Nat.one_mul, Nat.mul_one, assoc_setI, assoc_keep, ↓reduceIte, Nat.reduceEqDiff, Nat.reduceLT, Nat.reduceLeDiff, Nat.reduceAdd, Nat.reduceSub, Nat.reduceMul, decide_true, decide_false, Bool.not_true, Bool.not_false, List.mem_cons, List.not_mem_nil, true_or, or_true, false_or, or_false, and_true, true_and, and_self, List.getElem?_cons_succ, List.getElem?_cons_zero, Option.bind_some, Option.map_some, Option.map_none, List.map_cons, List.map_nil, List.length_cons, List.length_nil, List.filterMap_cons, List.filterMap_nil, List.cons_append, List.nil_append, List.append_nil, Nat.zero_add, Nat.add_zero, List.take_succ_cons, List.take_zero, List.take_nil, List.drop_succ_cons, List.drop_zero, List.drop_nil, List.all_cons, List.all_nil, Bool.and_true, Bool.true_and, Bool.false_and, Bool.and_false, reduceCtorEq, beq_iff_eq, beq_self_eq_true, hch.cells, hch.flat, hch.bound, hc, call41 he ch xs hch]
    rfl
  · rw [h1] at hc
    simp only [if_true, intA] at hc
    simp -implicitDefEqProofs only [Tryz.f14, intA, go_sem, repeatCells, splice, chunk, bsFin, ne_eq, not_true_eq_false, not_false_eq_true, List.headD_cons, Bool.false_eq_true, Nat.le_refl, Nat.zero_mul, Nat.one_mul, Nat.mul_one, assoc_setI, assoc_keep, ↓reduceIte, Nat.reduceEqDiff, Nat.reduceLT, Nat.reduceLeDiff, Nat.reduceAdd, Nat.reduceSub, Nat.reduceMul, decide_true, decide_false, Bool.not_true, Bool.not_false, List.mem_cons, List.not_mem_nil, true_or, or_true, false_or, or_false, and_true, true_and, and_self, List.getElem?_cons_succ, List.getElem?_cons_zero, Option.bind_some, Option.map_some, Option.map_none, List.map_cons, List.map_nil, List.length_cons, List.length_nil, List.filterMap_cons, List.filterMap_nil, List.cons_append, List.nil_append, List.append_nil, Nat.zero_add, Nat.add_zero, List.take_succ_cons, List.take_zero, List.take_nil, List.drop_succ_cons, List.drop_zero, List.drop_nil, List.all_cons, List.all_nil, Bool.and_true, Bool.true_and, Bool.false_and, Bool.and_false, reduceCtorEq, beq_iff_eq, beq_self_eq_true, hch.cells, hch.flat, hch.bound, hc, call41 he ch xs hch]
    obtain ⟨G, hG⟩ := yields63 he ch xs hch (okCh2_of ht hall) (by rw [← hall.1]; exact ht.chs) 4 Nat _ _ _ _ _ (src14 (e := e) ch) (allIts_two xs) 0 [] trivial
    rw [run14, plus_nil, Nat.zero_add, List.nil_append] at hG
    have hcb := callB_yld (C := Cx e) (me := 14) (d := none) (l := 4) (by simp) hG
    obtain ⟨G', hG'⟩ := trim_plus (H := hp14 ch .ready (allIts xs).length) [] G [.tup []] [] (n := (hp14 ch .ready 0).size) (by rw [hp14_size, hp14_size]; rfl)
    rw [List.nil_append] at hG'
    rw [hG', List.nil_append] at hcb
    refine wp_range0 (f := 63) (first := []) (cap := [.ro (.agg [ch]) 0]) rfl (v := .tup []) (H2 := (hp14 ch .ready (allIts xs).length).plus G') ?_ (r := lp14 ch .ready bdy14) rfl (by intro h; cases h) rfl ?_
    · exact hcb
    · have hd := hd14_of ch (IntKind.i64.wrap (allIts xs).length) G'
      show AtK _ .normal ⟨22, _, [3]⟩ (((hv14 ch .ready (IntKind.i64.wrap (allIts xs).length)).plus G').put 4 .dead)
      rw [hd]
      simp -implicitDefEqProofs only [go_sem, repeatCells, splice, chunk, bsFin, ne_eq, not_true_eq_false, not_false_eq_true, List.headD_cons, Bool.false_eq_true, Nat.le_refl, Nat.zero_mul, Nat.one_mul, Nat.mul_one, assoc_setI, assoc_keep, ↓reduceIte, Nat.reduceEqDiff, Nat.reduceLT, Nat.reduceLeDiff, Nat.reduceAdd, Nat.reduceSub, Nat.reduceMul, decide_true, decide_false, Bool.not_true, Bool.not_false, List.mem_cons, List.not_mem_nil, true_or, or_true, false_or, or_false, and_true, true_and, and_self, List.getElem?_cons_succ, List.getElem?_cons_zero, Option.bind_some, Option.map_some, Option.map_none, List.map_cons, List.map_nil, List.length_cons, List.length_nil, List.filterMap_cons, List.filterMap_nil, List.cons_append, List.nil_append, List.append_nil, Nat.zero_add, Nat.add_zero, List.take_succ_cons, List.take_zero, List.take_nil, List.drop_succ_cons, List.drop_zero, List.drop_nil, List.all_cons, List.all_nil, Bool.and_true, Bool.true_and, Bool.false_and, Bool.and_false, reduceCtorEq, beq_iff_eq, beq_self_eq_true, intA, plus_size, hd14_size, settle_none (hd14_size _ _), hd14_row, hd14_kill, ansK_tup2]
end Go.Ev
namespace Go.Ev
open Go.Proofs
set_option maxRecDepth 100000
set_option linter.unusedSimpArgs false
theorem call38 {e : Exts} (he : Quiet e) (t : Txt) (ht : Fits t) (x : AV) (hx : TextA t x) (me : FuncId) (d : Option Tmp) (H : Heap) : callA (Cx e) (lim (Cx e)) me 38 d [x] H = some (.v (.bool (greatT t)), H) :=
  (ans38 t ht x hx).call (ext_38 he) (pure_38 _ _ _) (by obtain ⟨ch, rfl, xs, hch, -⟩ := hx; simp only [boundL_cons, bound_agg, hch.bound, boundL_nil]; rfl) H
theorem call39 {e : Exts} (he : Quiet e) (t : Txt) (ht : Fits t) (x : AV) (hx : TextA t x) (me : FuncId) (d : Option Tmp) (H : Heap) : callA (Cx e) (lim (Cx e)) me 39 d [x] H = some (.v (.bool (textB t)), H) :=
  (ans39 he t ht x hx).call (ext_39 he) (pure_39 _ _ _) (by obtain ⟨ch, rfl, xs, hch, -⟩ := hx; simp only [boundL_cons, bound_agg, hch.bound, boundL_nil]; rfl) H
def readyB (t : Txt) : Bool := !greatT t && textB t
set_option maxHeartbeats 1000000 in
theorem ans13 {e : Exts} (he : Quiet e) (t : Txt) (ht : Fits t) (x : AV) (hx : TextA t x) : Ans (Cx e) 13 [x] (.v (.bool (readyB t))) := by
  have h1 := call38 he t ht x hx
  have h2 := call39 he t ht x hx
  obtain ⟨ch, rfl, xs, hch, hall⟩ := hx
  unfold Ans
  rw [fn_step (fn_13 e) (show Tryz.f13.body = some _ from rfl)]
  unfold readyB
  cases c1 : greatT t
  · rw [c1] at h1
    simp -implicitDefEqProofs only [Tryz.f13, intA, go_sem, repeatCells, splice, chunk, bsFin, ne_eq, not_true_eq_false, not_false_eq_true, List.headD_cons, Bool.false_eq_true, Nat.le_refl, Nat.zero_mul, Nat.one_mul, Nat.mul_one, assoc_setI, assoc_keep, ↓reduceIte, Nat.reduceEqDiff, Nat.reduceLT, Nat.reduceLeDiff, Nat.reduceAdd, Nat.reduceSub, Nat.reduceMul, decide_true, decide_false, Bool.not_true, Bool.not_false, List.mem_cons, List.not_mem_nil, true_or, or_true, false_or, or_false, and_true, true_and, and_self, List.getElem?_cons_succ, List.getElem?_cons_zero, Option.bind_some, Option.map_some, Option.map_none, List.map_cons, List.map_nil, List.length_cons, List.length_nil, List.filterMap_cons, List.filterMap_nil, List.cons_append, List.nil_append, List.append_nil, Nat.zero_add, Nat.add_zero, List.take_succ_cons, List.take_zero, List.take_nil, List.drop_succ_cons, List.drop_zero, List.drop_nil, List.all_cons, List.all_nil, Bool.and_true, Bool.true_and, Bool.false_and, Bool.and_false, reduceCtorEq, beq_iff_eq, beq_self_eq_true, hch.cells, hch.flat, hch.bound, h1, h2]
  · rw [c1] at h1
    simp -implicitDefEqProofs only [Tryz.f13, intA, go_sem, repeatCells, splice, chunk, bsFin, ne_eq, not_true_eq_false, not_false_eq_true, List.headD_cons, Bool.false_eq_true, Nat.le_refl, Nat.zero_mul, Nat.one_mul, Nat.mul_one, assoc_setI, assoc_keep, ↓reduceIte, Nat.reduceEqDiff, Nat.reduceLT, Nat.reduceLeDiff, Nat.reduceAdd, Nat.reduceSub, Nat.reduceMul, decide_true, decide_false, Bool.not_true, Bool.not_false, List.mem_cons, List.not_mem_nil, true_or, or_true, false_or, or_false, and_true, true_and, and_self, List.getElem?_cons_succ, List.getElem?_cons_zero, Option.bind_some, Option.map_some, Option.map_none, List.map_cons, List.map_nil, List.length_cons, List.length_nil, List.filterMap_cons, List.filterMap_nil, List.cons_append, List.nil_append, List.append_nil, Nat.zero_add, Nat.add_zero, List.take_succ_cons, List.take_zero, List.take_nil, List.drop_succ_cons, List.drop_zero, List.drop_nil, List.all_cons, List.all_nil, Bool.and_true, Bool.true_and, Bool.false_and, Bool.and_false, reduceCtorEq, beq_iff_eq, beq_self_eq_true, hch.cells, hch.flat, hch.bound, h1]
theorem call13 {e : Exts} (he : Quiet e) (t : Txt) (ht : Fits t) (x : AV) (hx : TextA t x) (me : FuncId) (d : Option Tmp) (H : Heap) : callA (Cx e) (lim (Cx e)) me 13 d [x] H = some (.v (.bool (readyB t)), H) :=
  (ans13 he t ht x hx).call (ext_13 he) (pure_13 _ _ _) (by obtain ⟨ch, rfl, xs, hch, -⟩ := hx; simp only [boundL_cons, bound_agg, hch.bound, boundL_nil]; rfl) H
/-- a place is before another one -/
def beforeB (a b : Int × Int × Int) : Bool := if a.1 ≠ b.1 then decide (a.1 < b.1) else if a.2.1 ≠ b.2.1 then decide (a.2.1 < b.2.1) else decide (a.2.2 < b.2.2)
def plA (a : Int × Int × Int) : AV := .agg [intA a.1, intA a.2.1, intA a.2.2]
end Go.Ev
/- Ranges over functions, in a function's own code: a loop's body as a step of a state. -/
namespace Go.Ev
def pend : AExit → Option Code
  | .normal => none
  | .ret => some .ret
  | .exit i => some (.exit i)
theorem jumpOf_pend (e : AExit) : jumpOf e = some (pend e) := by cases e <;> rfl
def isGo : AExit → Bool
  | .normal => true
  | _ => false
theorem pend_none (e : AExit) : (pend e).isNone = isGo e := by cases e <;> rfl
def foldE {S : Type} (stp : S → List AV → AExit × S) : List (List AV) → S → AExit × S
  | [], s => (.normal, s)
  | x :: r, s => match (stp s x).1 with | .normal => foldE stp r (stp s x).2 | e => (e, (stp s x).2)
theorem foldE_go {S : Type} {stp : S → List AV → AExit × S} {x : List AV} {r : List (List AV)} {s : S} (h : (stp s x).1 = .normal) : foldE stp (x :: r) s = foldE stp r (stp s x).2 := by
  simp only [foldE, h]
theorem foldE_out {S : Type} {stp : S → List AV → AExit × S} {x : List AV} {r : List (List AV)} {s : S} (h : (stp s x).1 ≠ .normal) : foldE stp (x :: r) s = stp s x := by
  simp only [foldE]
def busyL (me : FuncId) (n : Nat) (ts : List (Tmp × AV)) (ps : Array Tmp) (asg body : Code) (d : Nat) (st : LoopState) (p : Option Code) : ALoop := { fn := me, state := st, pending := p, size := n, tmps := ts, params := ps, assign := asg, body := body, dfr := d }
def stateOf (e : AExit) : LoopState := if (pend e).isNone then .ready else .done
def hpR {S : Type} (hb : S → Heap) (L : LoopState → Option Code → ALoop) (q : S × AExit) : Heap := (hb q.1).plus [some .dfr, some (.loop (L (stateOf q.2) (pend q.2)))]
/-- what a body does -/
def rngK {S : Type} (hb : S → Heap) (L : ALoop) (E : List (Option AObj)) (p : AExit × S) : Post := fun e _ H => e = p.1 ∧ ∃ G, H = (hb p.2).plus (some .dfr :: some (.loop L) :: (E ++ G))
theorem rngK_at {S : Type} (hb : S → Heap) (L : ALoop) (E : List (Option AObj)) (p : AExit × S) (e : AExit) (a : AAct) (H : Heap) : AtK (rngK hb L E p) e a H = (e = p.1 ∧ ∃ G, H = (hb p.2).plus (some .dfr :: some (.loop L) :: (E ++ G))) := rfl
/-- between what takes a thing over and the body -/
def asK {S : Type} (C : Cfg) (me : FuncId) (l : Nat) (body : Code) (hb : S → Heap) (L L' : ALoop) (E : List (Option AObj)) (s : S) (p : AExit × S) : Post := fun e a H => e = .normal ∧ ∃ G, H = (hb s).plus (some .dfr :: some (.loop L) :: (E ++ G)) ∧ Wp C me (some l) body a ((hb s).plus (some .dfr :: some (.loop L') :: (E ++ G))) (rngK hb L' E p)
theorem asK_mk {S : Type} {C : Cfg} {me : FuncId} {l : Nat} {body : Code} {hb : S → Heap} {L L' : ALoop} {E : List (Option AObj)} {s : S} {p : AExit × S} {a : AAct} {H : Heap} (G : List (Option AObj)) (hH : H = (hb s).plus (some .dfr :: some (.loop L) :: (E ++ G))) (h : Wp C me (some l) body a ((hb s).plus (some .dfr :: some (.loop L') :: (E ++ G))) (rngK hb L' E p)) : AtK (asK C me l body hb L L' E s p) .normal a H := ⟨rfl, G, hH, h⟩
section
variable {C : Cfg} {me : FuncId} {S : Type} {hb : S → Heap} {stp : S → List AV → AExit × S} {lv : S → Prop} {ok : List AV → Prop} {n0 : Nat}
theorem hget_at {H : Heap} (hn : H.size = n0) (L : ALoop) (E : List (Option AObj)) : loopObj (H.plus (some .dfr :: some (.loop L) :: E)) (n0 + 1) = some L := by
  have := plus_mid_get hn [some .dfr] E (some (.loop L))
  unfold loopObj
  rw [show n0 + 1 = n0 + [some AObj.dfr].length from rfl, show some AObj.dfr :: some (.loop L) :: E = [some .dfr] ++ some (.loop L) :: E from rfl, this]
theorem hput_at {H : Heap} (hn : H.size = n0) (L : ALoop) (o : AObj) (E : List (Option AObj)) : (H.plus (some .dfr :: some (.loop L) :: E)).put (n0 + 1) o = H.plus (some .dfr :: some o :: E) :=
  plus_mid_put hn [some .dfr] E (some (.loop L)) o
theorem src_range {sz : Nat} {ts : List (Tmp × AV)} {ps : Array Tmp} {asg body : Code} (hsz : ∀ s, (hb s).size = n0) (hk : ∀ s, (hb s).lock ≤ n0)
    (hlv : ∀ s x, lv s → ok x → (stp s x).1 = .normal → lv (stp s x).2)
    (hbody : ∀ (L L' : ALoop) s x E, L'.dfr = n0 → lv s → ok x → x.length = ps.size → Wp C me (some (n0 + 1)) asg ⟨sz, setTmps sz ts (ps.toList.zip x), []⟩ ((hb s).plus (some .dfr :: some (.loop L) :: E)) (asK C me (n0 + 1) body hb L L' E s (stp s x))) :
    Src C (n0 + 1) (S × AExit) (hpR hb (busyL me sz ts ps asg body n0)) (fun q x => (isGo (stp q.1 x).1, ((stp q.1 x).2, (stp q.1 x).1))) (fun x => ok x ∧ x.length = ps.size) (fun q => lv q.1 ∧ q.2 = .normal) (n0 + 2) := by
  refine ⟨fun q => ?_, by omega, fun q => ?_, fun q x hl ho hs => ?_, fun q x E hl ho => ?_⟩
  · unfold hpR; rw [plus_size, hsz]; rfl
  · have := hk q.1; show (hb q.1).lock ≤ n0 + 1; omega
  · obtain ⟨s, e⟩ := q
    simp only at hl hs ⊢
    have he : (stp s x).1 = .normal := by
      cases h : (stp s x).1 <;> rw [h] at hs <;> first | rfl | cases hs
    exact ⟨hlv s x hl.1 ho.1 he, he⟩
  · obtain ⟨s, e⟩ := q
    obtain ⟨hl1, rfl⟩ := hl
    simp only
    have hbeg : ∀ (s : S) (e : AExit) (E : List (Option AObj)), (hpR hb (busyL me sz ts ps asg body n0) (s, e)).plus E = (hb s).plus (some .dfr :: some (.loop (busyL me sz ts ps asg body n0 (stateOf e) (pend e))) :: E) := by
      intro s e E; unfold hpR; rw [plus_plus]; rfl
    rw [hbeg]
    have key := round_step (C := C) (l := n0 + 1) (args := x) (H := (hb s).plus (some .dfr :: some (.loop (busyL me sz ts ps asg body n0 (stateOf .normal) (pend .normal))) :: E)) (r := busyL me sz ts ps asg body n0 .ready none) (K := fun b H' => b = isGo (stp s x).1 ∧ ∃ G, H' = (hpR hb (busyL me sz ts ps asg body n0) ((stp s x).2, (stp s x).1)).plus (E ++ G)) (hget_at (hsz s) _ _) ho.2 (by have := hk s; show (hb s).lock ≤ n0 + 1; omega) ?_
    · obtain ⟨b, H', h1, rfl, G, rfl⟩ := key
      exact ⟨G, h1⟩
    · refine Wp_mono (hbody (busyL me sz ts ps asg body n0 .ready none) (busyL me sz ts ps asg body n0 .busy none) s x E rfl hl1 ho.1 ho.2) ?_
      rintro e0 a0 H0 ⟨rfl, G0, rfl, hb0⟩
      refine asgK_mk (r1 := busyL me sz ts ps asg body n0 .ready none) (hget_at (hsz s) _ _) rfl ?_
      rw [hput_at (hsz s)]
      refine Wp_mono hb0 ?_
      rintro e1 a1 H1 ⟨rfl, G, rfl⟩
      refine bodyK_mk (r3 := busyL me sz ts ps asg body n0 .busy none) (j := pend (stp s x).1) (hget_at (hsz _) _ _) (jumpOf_pend _) ⟨pend_none _, ?_⟩
      have e1 : ({ busyL me sz ts ps asg body n0 .busy none with state := if (pend (stp s x).1).isNone then .ready else .done, pending := pend (stp s x).1 } : ALoop) = busyL me sz ts ps asg body n0 (stateOf (stp s x).1) (pend (stp s x).1) := rfl
      rw [e1, hput_at (hsz _), ← hbeg]
      exact trim_plus E G [] [] (by unfold hpR; rw [plus_size, plus_size, hsz, hsz]; simp; omega)
theorem run_range (stp : S → List AV → AExit × S) : ∀ (items : List (List AV)) (s : S), runIt (fun (q : S × AExit) x => (isGo (stp q.1 x).1, ((stp q.1 x).2, (stp q.1 x).1))) items (s, .normal) = (isGo (foldE stp items s).1, ((foldE stp items s).2, (foldE stp items s).1))
  | [], s => rfl
  | x :: r, s => by
    have ih := run_range stp r (stp s x).2
    unfold runIt
    simp only
    cases h : (stp s x).1 with
    | normal =>
      rw [if_pos (show isGo .normal = true from rfl), ih, foldE_go h]
    | exit i => rw [if_neg (show ¬ isGo (.exit i) = true from fun h => nomatch h), foldE_out (by rw [h]; intro h; cases h), h]; rfl
    | ret => rw [if_neg (show ¬ isGo .ret = true from fun h => nomatch h), foldE_out (by rw [h]; intro h; cases h), h]; rfl
theorem wp_rangeH {f : FuncId} {cap : List AV} {items : List (List AV)} (hy : Yields C f cap items) {g : Operand} {ps : Array Tmp} {asg body : Code} {a : AAct} {H : Heap} {K : Post} (hg : a.eval g = some (.fn (.func f) [] cap))
    (hb : S → Heap) (stp : S → List AV → AExit × S) (lv : S → Prop) (ok : List AV → Prop) {n0 : Nat} (hsz : ∀ s, (hb s).size = n0) (hk : ∀ s, (hb s).lock ≤ n0) (hok : ∀ x ∈ items, ok x ∧ x.length = ps.size)
    (hlv : ∀ s x, lv s → ok x → (stp s x).1 = .normal → lv (stp s x).2)
    (hbody : ∀ (L L' : ALoop) s x E, L'.dfr = n0 → lv s → ok x → x.length = ps.size → Wp C me (some (n0 + 1)) asg ⟨a.size, setTmps a.size a.tmps (ps.toList.zip x), []⟩ ((hb s).plus (some .dfr :: some (.loop L) :: E)) (asK C me (n0 + 1) body hb L L' E s (stp s x)))
    (s0 : S) (h0 : lv s0) (hH : H = hb s0)
    (hK : ∀ G, AtK K (foldE stp items s0).1 ⟨a.size, a.tmps, n0 :: a.marks⟩ ((hb (foldE stp items s0).2).plus (some .dfr :: some .dead :: G))) :
    Wp C me none (.rangeFunc g ps asg body) a H K := by
  subst hH
  obtain ⟨G, hG⟩ := hy (n0 + 1) (S × AExit) _ _ _ _ _ (src_range (ps := ps) hsz hk hlv hbody) hok (s0, .normal) [] ⟨h0, rfl⟩
  rw [run_range, plus_nil, List.nil_append] at hG
  have hcb := callB_yld (C := C) (me := me) (d := none) (l := n0 + 1) (by simp) hG
  generalize hp : foldE stp items s0 = p at hcb hK
  obtain ⟨G', hG'⟩ := trim_plus (H := hpR hb (busyL me a.size a.tmps ps asg body n0) (p.2, p.1)) [] G [.tup []] [] (n := (hpR hb (busyL me a.size a.tmps ps asg body n0) (s0, .normal)).size) (by unfold hpR; rw [plus_size, plus_size, hsz, hsz]; simp)
  rw [List.nil_append] at hG'
  rw [hG', List.nil_append] at hcb
  have hsize := hsz s0
  have hH2 : (hpR hb (busyL me a.size a.tmps ps asg body n0) (p.2, p.1)).plus G' = (hb p.2).plus (some .dfr :: some (.loop (busyL me a.size a.tmps ps asg body n0 (stateOf p.1) (pend p.1))) :: G') := by
    unfold hpR; rw [plus_plus]; rfl
  have hfin : ((hpR hb (busyL me a.size a.tmps ps asg body n0) (p.2, p.1)).plus G').put (n0 + 1) .dead = (hb p.2).plus (some .dfr :: some .dead :: G') := by
    rw [hH2, hput_at (hsz p.2)]
  refine wp_range0 (f := f) (first := []) (cap := cap) hg (v := .tup []) (H2 := (hpR hb (busyL me a.size a.tmps ps asg body n0) (p.2, p.1)).plus G') ?_ (r := busyL me a.size a.tmps ps asg body n0 (stateOf p.1) (pend p.1)) ?_ ?_ ?_ ?_
  · rw [hsize]
    have hh : hpR hb (busyL me a.size a.tmps ps asg body n0) (s0, .normal) = ((hb s0).put n0 .dfr).put (n0 + 1) (.loop { fn := me, state := .ready, pending := none, size := a.size, tmps := a.tmps, params := ps, assign := asg, body := body, dfr := n0 }) := by
      have h1 : (hb s0).put n0 .dfr = (hb s0).plus [some .dfr] := by rw [← hsz s0]; exact put_push _
      have h2 := plus_put_end (hsz s0) [some .dfr] (.loop (busyL me a.size a.tmps ps asg body n0 .ready none))
      rw [h1]
      exact h2.symm
    rw [← hh]; exact hcb
  · rw [hsize, hH2]; exact hget_at (hsz _) _ _
  · unfold busyL stateOf; cases p.1 <;> simp [pend]
  · rw [hsize]; rfl
  · rw [hsize]
    have := hK G'
    rw [← hfin] at this
    obtain ⟨e, s⟩ := p
    cases e with
    | normal => exact this
    | ret => exact this
    | exit i => exact this
def lh {S : Type} (hb : S → List (Option AObj)) (k : Nat) (s : S) : Heap := ⟨hb s, k⟩
theorem lhK_at (hb : S → List (Option AObj)) (k : Nat) (L : ALoop) (E : List (Option AObj)) (p : AExit × S) (e : AExit) (a : AAct) (H : Heap) : AtK (rngK (lh hb k) L E p) e a H = (e = p.1 ∧ ∃ G, H = ⟨hb p.2 ++ some .dfr :: some (.loop L) :: (E ++ G), k⟩) := rfl
/-- the same, of memory that is known whole -/
theorem wp_rangeS {f : FuncId} {cap : List AV} {items : List (List AV)} (hy : Yields C f cap items) {g : Operand} {ps : Array Tmp} {asg body : Code} {a : AAct} {H : Heap} {K : Post} (hg : a.eval g = some (.fn (.func f) [] cap))
    (hb : S → List (Option AObj)) (stp : S → List AV → AExit × S) (lv : S → Prop) (ok : List AV → Prop) {n0 k : Nat} (hsz : ∀ s, (hb s).length = n0) (hk : k ≤ n0) (hok : ∀ x ∈ items, ok x ∧ x.length = ps.size)
    (hlv : ∀ s x, lv s → ok x → (stp s x).1 = .normal → lv (stp s x).2)
    (hbody : ∀ (L L' : ALoop) s x E, L'.dfr = n0 → lv s → ok x → x.length = ps.size → Wp C me (some (n0 + 1)) asg ⟨a.size, setTmps a.size a.tmps (ps.toList.zip x), []⟩ ⟨hb s ++ some .dfr :: some (.loop L) :: E, k⟩ (asK C me (n0 + 1) body (lh hb k) L L' E s (stp s x)))
    (s0 : S) (h0 : lv s0) (hH : H = ⟨hb s0, k⟩)
    (hK : ∀ G, AtK K (foldE stp items s0).1 ⟨a.size, a.tmps, n0 :: a.marks⟩ ⟨hb (foldE stp items s0).2 ++ some .dfr :: some .dead :: G, k⟩) :
    Wp C me none (.rangeFunc g ps asg body) a H K :=
  wp_rangeH hy hg (lh hb k) stp lv ok (n0 := n0) hsz (fun _ => hk) hok hlv hbody s0 h0 hH hK
end
/-! ### memory with a tail that is not known -/
@[go_sem] theorem sop_end {α : Type} (x : α) (E : List α) : setOrPush x E.length E = E ++ [x] := by
  have := sop_right x E.length E [] (Nat.le_refl _)
  rw [List.append_nil, Nat.sub_self] at this
  exact this
@[go_sem] theorem sop_end0 {α : Type} (x : α) (E l : List α) : setOrPush x E.length (E ++ l) = E ++ setOrPush x 0 l := by
  rw [sop_right x E.length E l (Nat.le_refl _), Nat.sub_self]
@[go_sem] theorem sop_endk {α : Type} (x : α) (E l : List α) (k : Nat) : setOrPush x (E.length + k) (E ++ l) = E ++ setOrPush x k l := by
  rw [sop_right x _ E l (Nat.le_add_right _ _), Nat.add_sub_cancel_left]
@[go_sem] theorem get_end0 {α : Type} (E l : List α) : (E ++ l)[E.length]? = l[0]? := by
  rw [List.getElem?_append_right (Nat.le_refl _), Nat.sub_self]
@[go_sem] theorem get_endk {α : Type} (E l : List α) (k : Nat) : (E ++ l)[E.length + k]? = l[k]? := by
  rw [List.getElem?_append_right (Nat.le_add_right _ _), Nat.add_sub_cancel_left]
@[go_sem] theorem take_end0 {α : Type} (E l : List α) : (E ++ l).take E.length = E := by simp
@[go_sem] theorem drop_end0 {α : Type} (E l : List α) : (E ++ l).drop E.length = l := by simp
end Go.Ev
/- Loops by a rule: what holds of each round, with a number that goes down. -/
namespace Go.Ev
section
variable {C : Cfg} {me : FuncId} {rd : Option Nat}
abbrev Inv := Nat → AAct → Heap → Prop
def Again (P : Inv) (m : Nat) (a : AAct) (H : Heap) : Prop := ∃ m', m' < m ∧ P m' a H
@[congr] theorem Again_congr {P : Inv} {m : Nat} {a a' : AAct} {H H' : Heap} (ha : a = a') (hH : H = H') : Again P m a H = Again P m a' H' := by rw [ha, hH]
def itK (P : Inv) (m : Nat) (ks : List Tmp) (n : Nat) (K : Post) : Post := fun e a H =>
  match e with
  | .normal => Again P m (a.only ks) (H.trim n ((a.only ks).tmps.map (·.2)) (a.only ks).marks)
  | .exit i => AtK K (.exit i) (a.only ks) (H.trim n ((a.only ks).tmps.map (·.2)) (a.only ks).marks)
  | .ret => AtK K .ret a H
@[go_sem ↓] theorem itK_normal (P : Inv) (m : Nat) (ks : List Tmp) (n : Nat) (K : Post) (s : Nat) (l : List (Tmp × AV)) (ms : List Nat) (H : Heap) : AtK (itK P m ks n K) .normal ⟨s, l, ms⟩ H = bindO (nf (ks.filterMap fun k => (assoc k l).map fun v => (k, v))) fun l' => bindO (nf (H.trim n (l'.map (·.2)) ms)) fun H' => Again P m ⟨s, l', ms⟩ H' := rfl
@[go_sem ↓] theorem itK_exit (P : Inv) (m : Nat) (ks : List Tmp) (n i : Nat) (K : Post) (s : Nat) (l : List (Tmp × AV)) (ms : List Nat) (H : Heap) : AtK (itK P m ks n K) (.exit i) ⟨s, l, ms⟩ H = bindO (nf (ks.filterMap fun k => (assoc k l).map fun v => (k, v))) fun l' => bindO (nf (H.trim n (l'.map (·.2)) ms)) fun H' => AtK K (.exit i) ⟨s, l', ms⟩ H' := rfl
@[go_sem ↓] theorem itK_ret (P : Inv) (m : Nat) (ks : List Tmp) (n : Nat) (K : Post) (a : AAct) (H : Heap) : AtK (itK P m ks n K) .ret a H = AtK K .ret a H := rfl
theorem Lp_rule {ks : List Tmp} {c : Code} {K : Post} (P : Inv) (hstep : ∀ m a H, P m a H → Wp C me rd c a H (itK P m ks H.size K)) : ∀ m a H, P m a H → Lp C me rd ks c a H K := by
  intro m
  induction m using Nat.strongRecOn with
  | _ m ih =>
    intro a H hp
    rw [Lp_step]
    refine Wp_mono (hstep m a H hp) ?_
    intro e a' H' h
    cases e with
    | normal =>
      obtain ⟨m', hm, hp'⟩ := h
      exact ih m' hm _ _ hp'
    | exit i => exact h
    | ret => exact h
theorem Again.mk' {P : Inv} {m : Nat} {a : AAct} {H : Heap} (m' : Nat) (h : m' < m) (hp : P m' a H) : Again P m a H := ⟨m', h, hp⟩
end
/-! ### memory whose end is not known -/
theorem take_len {α : Type} (l : List α) : l.take l.length = l := List.take_length
theorem drop_len {α : Type} (l : List α) : l.drop l.length = [] := List.drop_length
attribute [go_sem] take_len drop_len
/-! ### what a function with ranges leaves -/
def killO (o : Option AObj) (r : List Nat) (b : Nat) (l : List (Option AObj)) (k : Nat) : Option Heap := match o with | some .dfr => if k ≤ b then killAll r ⟨setOrPush (some .dead) b l, k⟩ else none | _ => none
@[go_sem] theorem kill_cons (b : Nat) (r : List Nat) (l : List (Option AObj)) (k : Nat) : killAll (b :: r) ⟨l, k⟩ = killO (l[b]?).join r b l k := by
  unfold killO
  rw [killAll]
  unfold Heap.get
  rcases (l[b]?).join with _ | o
  · rfl
  · cases o <;> rfl
@[go_sem] theorem killO_dfr (r : List Nat) (b : Nat) (l : List (Option AObj)) (k : Nat) : killO (some .dfr) r b l k = if k ≤ b then killAll r ⟨setOrPush (some .dead) b l, k⟩ else none := rfl
end Go.Ev
namespace Go.Ev
open Go.Proofs
set_option maxRecDepth 100000
set_option linter.unusedSimpArgs false
/-! ### words of a text with their places, as plain lists -/
abbrev Plc := Nat × Nat × Nat
def plN (p : Plc) : AV := .agg [intA p.1, intA p.2.1, intA p.2.2]
def wordsL (i j : Nat) : Nat → Line → List (Plc × ByteArray)
  | _, [] => []
  | k, s :: r => ((i, j, k), s) :: wordsL i j (k + 1) r
def wordsC (i : Nat) : Nat → List Line → List (Plc × ByteArray)
  | _, [] => []
  | j, l :: r => wordsL i j 0 l ++ wordsC i (j + 1) r
def wordsT : Nat → Txt → List (Plc × ByteArray)
  | _, [] => []
  | i, c :: r => wordsC i 0 c.2 ++ wordsT (i + 1) r
def itW (x : Plc × ByteArray) : List AV := [plN x.1, .v (.string x.2)]
theorem its_line (i j : Nat) : ∀ (ws : Line) (k : Nat), wIts (intA i) (intA j) k (strs ws) = (wordsL i j k ws).map itW
  | [], _ => rfl
  | s :: r, k => by
    have ih := its_line i j r (k + 1)
    simp only [strs, List.map_cons] at ih ⊢
    simp only [wIts, wordsL, List.map_cons, ih]
    rfl
theorem All2.cons {α β : Type} {R : α → β → Prop} {a : α} {l : List α} {m : List β} (h : All2 R (a :: l) m) : ∃ b m', m = b :: m' ∧ R a b ∧ All2 R l m' := by
  cases m with
  | nil => have := h.1; simp at this
  | cons b m' => exact ⟨b, m', rfl, h.2 0 a b rfl rfl, by simpa using h.1, fun i x y hx hy => h.2 (i + 1) x y (by simpa using hx) (by simpa using hy)⟩
theorem All2.nilI {α β : Type} {R : α → β → Prop} {m : List β} (h : All2 R [] m) : m = [] := by
  cases m with
  | nil => rfl
  | cons b m' => have := h.1; simp at this
theorem expand_line (i j : Nat) (ws : Line) (x : AV) (hx : SlOf 1 (strs ws) x) : expandL [placeA i j 0, x] = (wordsL i j 0 ws).map itW := by
  show wIts (intA i) (intA j) 0 (slElems x) = _
  rw [hx.elems, its_line]
theorem expand_lines (i : Nat) : ∀ (ls : List Line) (xs : List AV) (j : Nat), All2 LineA ls xs → (lineIts i j xs).flatMap expandL = (wordsC i j ls).map itW
  | [], xs, j, h => by rw [h.nilI]; rfl
  | l :: r, xs, j, h => by
    obtain ⟨x, xs', rfl, hx, hr⟩ := h.cons
    simp only [lineIts, List.flatMap_cons, wordsC, List.map_append]
    rw [expand_line i j l x hx, expand_lines i r xs' (j + 1) hr]
theorem expand_chaps : ∀ (t : Txt) (xs : List AV) (i : Nat), All2 ChapA t xs → (chapIts i xs).flatMap expandL = (wordsT i t).map itW
  | [], xs, i, h => by rw [h.nilI]; rfl
  | c :: r, xs, i, h => by
    obtain ⟨x, xs', rfl, ⟨l, rfl, lxs, hl, hls⟩, hr⟩ := h.cons
    simp only [chapIts, linesOf, List.flatMap_append, wordsT, List.map_append]
    rw [hl.elems, expand_lines i c.2 lxs 0 hls, expand_chaps r xs' (i + 1) hr]
theorem allIts_eq {t : Txt} {xs : List AV} (h : All2 ChapA t xs) : allIts xs = (wordsT 0 t).map itW := expand_chaps t xs 0 h
/-! ### their order -/
def plLt (a b : Plc) : Prop := a.1 < b.1 ∨ (a.1 = b.1 ∧ (a.2.1 < b.2.1 ∨ (a.2.1 = b.2.1 ∧ a.2.2 < b.2.2)))
theorem wordsL_mem (i j : Nat) : ∀ (ws : Line) (k : Nat) (x : Plc × ByteArray), x ∈ wordsL i j k ws ↔ ∃ w, x.1 = (i, j, k + w) ∧ ws[w]? = some x.2
  | [], k, x => by simp [wordsL]
  | s :: r, k, x => by
    simp only [wordsL, List.mem_cons, wordsL_mem i j r (k + 1)]
    constructor
    · rintro (rfl | ⟨w, h1, h2⟩)
      · exact ⟨0, rfl, rfl⟩
      · exact ⟨w + 1, by rw [h1, show k + 1 + w = k + (w + 1) by omega], by simpa using h2⟩
    · rintro ⟨w, h1, h2⟩
      cases w with
      | zero => left; obtain ⟨a, b⟩ := x; simp at h1 h2; rw [h1, h2]
      | succ w => right; exact ⟨w, by rw [h1, show k + 1 + w = k + (w + 1) by omega], by simpa using h2⟩
theorem wordsC_mem (i : Nat) : ∀ (ls : List Line) (j : Nat) (x : Plc × ByteArray), x ∈ wordsC i j ls ↔ ∃ n w l, x.1 = (i, j + n, w) ∧ ls[n]? = some l ∧ l[w]? = some x.2
  | [], j, x => by simp [wordsC]
  | l :: r, j, x => by
    simp only [wordsC, List.mem_append, wordsL_mem, wordsC_mem i r (j + 1)]
    constructor
    · rintro (⟨w, h1, h2⟩ | ⟨n, w, l', h1, h2, h3⟩)
      · exact ⟨0, w, l, by rw [h1]; simp, rfl, h2⟩
      · exact ⟨n + 1, w, l', by rw [h1, show j + 1 + n = j + (n + 1) by omega], by simpa using h2, h3⟩
    · rintro ⟨n, w, l', h1, h2, h3⟩
      cases n with
      | zero => left; simp at h2; subst h2; exact ⟨w, by rw [h1]; simp, h3⟩
      | succ n => right; exact ⟨n, w, l', by rw [h1, show j + 1 + n = j + (n + 1) by omega], by simpa using h2, h3⟩
theorem wordsT_mem : ∀ (t : Txt) (i : Nat) (x : Plc × ByteArray), x ∈ wordsT i t ↔ ∃ m n w c l, x.1 = (i + m, n, w) ∧ t[m]? = some c ∧ c.2[n]? = some l ∧ l[w]? = some x.2
  | [], i, x => by simp [wordsT]
  | c :: r, i, x => by
    simp only [wordsT, List.mem_append, wordsC_mem, wordsT_mem r (i + 1)]
    constructor
    · rintro (⟨n, w, l, h1, h2, h3⟩ | ⟨m, n, w, c', l, h1, h2, h3, h4⟩)
      · exact ⟨0, n, w, c, l, by rw [h1]; simp, rfl, h2, h3⟩
      · exact ⟨m + 1, n, w, c', l, by rw [h1, show i + 1 + m = i + (m + 1) by omega], by simpa using h2, h3, h4⟩
    · rintro ⟨m, n, w, c', l, h1, h2, h3, h4⟩
      cases m with
      | zero => left; simp at h2; subst h2; exact ⟨n, w, l, by rw [h1]; simp, h3, h4⟩
      | succ m => right; exact ⟨m, n, w, c', l, by rw [h1, show i + 1 + m = i + (m + 1) by omega], by simpa using h2, h3, h4⟩
abbrev upW (l : List (Plc × ByteArray)) : Prop := l.Pairwise fun a b => plLt a.1 b.1
theorem wordsL_up (i j : Nat) : ∀ (ws : Line) (k : Nat), upW (wordsL i j k ws)
  | [], k => List.Pairwise.nil
  | s :: r, k => by
    refine List.Pairwise.cons ?_ (wordsL_up i j r (k + 1))
    intro x hx
    obtain ⟨w, h1, -⟩ := (wordsL_mem i j r (k + 1) x).1 hx
    rw [h1]; exact Or.inr ⟨rfl, Or.inr ⟨rfl, show k < k + 1 + w by omega⟩⟩
theorem wordsC_up (i : Nat) : ∀ (ls : List Line) (j : Nat), upW (wordsC i j ls)
  | [], j => List.Pairwise.nil
  | l :: r, j => by
    refine List.pairwise_append.2 ⟨wordsL_up i j l 0, wordsC_up i r (j + 1), ?_⟩
    intro x hx y hy
    obtain ⟨w, h1, -⟩ := (wordsL_mem i j l 0 x).1 hx
    obtain ⟨n, w', l', h2, -⟩ := (wordsC_mem i r (j + 1) y).1 hy
    rw [h1, h2]; exact Or.inr ⟨rfl, Or.inl (show j < j + 1 + n by omega)⟩
theorem wordsT_up : ∀ (t : Txt) (i : Nat), upW (wordsT i t)
  | [], i => List.Pairwise.nil
  | c :: r, i => by
    refine List.pairwise_append.2 ⟨wordsC_up i c.2 0, wordsT_up r (i + 1), ?_⟩
    intro x hx y hy
    obtain ⟨n, w, l, h1, -⟩ := (wordsC_mem i c.2 0 x).1 hx
    obtain ⟨m, n', w', c', l', h2, -⟩ := (wordsT_mem r (i + 1) y).1 hy
    rw [h1, h2]; exact Or.inl (show i + 0 < i + 1 + m by omega)
theorem up_lt {l : List (Plc × ByteArray)} (h : upW l) {i k : Nat} {x y : Plc × ByteArray} (hx : l[i]? = some x) (hy : l[k]? = some y) (hik : i < k) : plLt x.1 y.1 := by
  obtain ⟨h1, rfl⟩ := List.getElem?_eq_some_iff.1 hx
  obtain ⟨h2, rfl⟩ := List.getElem?_eq_some_iff.1 hy
  exact List.pairwise_iff_getElem.1 h i k h1 h2 hik
end Go.Ev
namespace Go.Ev
open Go.Proofs
set_option maxRecDepth 100000
set_option linter.unusedSimpArgs false
/-! ### a text that is valid is small -/
theorem okFrom_mem : ∀ (t t' : Txt) (j : Nat), okFrom t j t' = true → ∀ c ∈ t', withinB 1 10 [(c.2.length : Int)] = true ∧ c.2.all lineB = true
  | t, [], j, _, c, hc => by cases hc
  | t, c' :: r, j, h, c, hc => by
    simp only [okFrom, Bool.and_eq_true, condC] at h
    rcases List.mem_cons.1 hc with rfl | hc
    · exact ⟨h.1.1.1.2, h.1.2⟩
    · exact okFrom_mem t r (j + 1) h.2 c hc
structure Small (t : Txt) : Prop where
  chs : 1 ≤ t.length ∧ t.length ≤ 6
  lines : ∀ c ∈ t, 1 ≤ c.2.length ∧ c.2.length ≤ 10
  words : ∀ c ∈ t, ∀ l ∈ c.2, 1 ≤ l.length ∧ l.length ≤ 10
  word : ∀ c ∈ t, ∀ l ∈ c.2, ∀ s ∈ l, wordB s = true
theorem small_of {t : Txt} (h : textB t = true) : Small t := by
  unfold textB at h
  simp only [Bool.and_eq_true] at h
  obtain ⟨h1, h2⟩ := h
  have hl : ∀ c ∈ t, ∀ l ∈ c.2, lineB l = true := fun c hc l hl => List.all_eq_true.1 (okFrom_mem t t 0 h2 c hc).2 l hl
  refine ⟨?_, fun c hc => ?_, fun c hc l hlm => ?_, fun c hc l hlm s hs => ?_⟩
  · rw [range1] at h1; simp at h1; omega
  · have := (okFrom_mem t t 0 h2 c hc).1
    rw [range1] at this; simp at this; omega
  · have := hl c hc l hlm
    unfold lineB at this
    rw [range1] at this; simp at this; omega
  · have := hl c hc l hlm
    unfold lineB at this
    simp only [Bool.and_eq_true] at this
    exact List.all_eq_true.1 this.2 s hs
theorem wordsL_len (i j : Nat) : ∀ (ws : Line) (k : Nat), (wordsL i j k ws).length = ws.length
  | [], _ => rfl
  | _ :: r, k => by simp [wordsL, wordsL_len i j r]
theorem wordsC_len (i : Nat) : ∀ (ls : List Line) (j : Nat), (∀ l ∈ ls, l.length ≤ 10) → (wordsC i j ls).length ≤ 10 * ls.length
  | [], _, _ => Nat.le_refl _
  | l :: r, j, h => by
    have := wordsC_len i r (j + 1) fun l hl => h l (List.mem_cons_of_mem _ hl)
    have := h l List.mem_cons_self
    simp [wordsC, wordsL_len]; omega
theorem wordsT_len : ∀ (t : Txt) (i : Nat), (∀ c ∈ t, c.2.length ≤ 10 ∧ ∀ l ∈ c.2, l.length ≤ 10) → (wordsT i t).length ≤ 100 * t.length
  | [], _, _ => Nat.le_refl _
  | c :: r, i, h => by
    have h1 := wordsT_len r (i + 1) fun c hc => h c (List.mem_cons_of_mem _ hc)
    have h2 := h c List.mem_cons_self
    have h3 := wordsC_len i c.2 0 h2.2
    simp [wordsT]; omega
theorem wordsT_small {t : Txt} (h : Small t) : 1 ≤ (wordsT 0 t).length ∧ (wordsT 0 t).length ≤ 600 := by
  have h1 := wordsT_len t 0 fun c hc => ⟨(h.lines c hc).2, fun l hl => (h.words c hc l hl).2⟩
  have := h.chs
  refine ⟨?_, by omega⟩
  obtain ⟨c, hc⟩ := at_lt t 0 (by omega)
  have hcm := List.mem_of_getElem? hc
  obtain ⟨l, hl⟩ := at_lt c.2 0 (h.lines c hcm).1
  obtain ⟨s, hs⟩ := at_lt l 0 (h.words c hcm l (List.mem_of_getElem? hl)).1
  have := (wordsT_mem t 0 ((0, 0, 0), s)).2 ⟨0, 0, 0, c, l, rfl, hc, hl, hs⟩
  exact List.length_pos_of_mem this
def zeroP : Plc := (0, 0, 0)
def plOf (x : List AV) : Plc := match x with | [.agg [.v (.int _ a), .v (.int _ b), .v (.int _ c)], _] => (a.toNat, b.toNat, c.toNat) | _ => zeroP
theorem plOf_it (x : Plc × ByteArray) : plOf (itW x) = x.1 := by simp [plOf, itW, plN, intA]
def okW (x : List AV) : Prop := ∃ p s, x = itW (p, s)
theorem okW_all (t : Txt) (i : Nat) : ∀ x ∈ (wordsT i t).map itW, okW x ∧ x.length = 2 := by
  intro x hx
  obtain ⟨y, -, rfl⟩ := List.mem_map.1 hx
  exact ⟨⟨y.1, y.2, rfl⟩, rfl⟩
theorem wrap_wrap' (n : Nat) : IntKind.i64.wrap (IntKind.i64.wrap n + 1) = IntKind.i64.wrap ((n + 1 : Nat) : Int) := by
  rw [wrap_wrap]; rfl
theorem wrap_nat (n : Nat) (h : n < 2 ^ 62) : IntKind.i64.wrap (n : Int) = (n : Int) := wrap_in _ (by omega) (by omega)
/-! ### the first that is found, by a counter -/
def stpF (q : Nat → Plc → Bool) (s : Nat × Plc) (x : List AV) : AExit × (Nat × Plc) := if q s.1 (plOf x) then (.ret, (s.1, plOf x)) else (.normal, (s.1 + 1, s.2))
theorem foldF (q : Nat → Plc → Bool) : ∀ (l : List (Plc × ByteArray)) (c : Nat), (∃ k x, l[k]? = some x ∧ q (c + k) x.1 = true ∧ (∀ j y, j < k → l[j]? = some y → q (c + j) y.1 = false) ∧ foldE (stpF q) (l.map itW) (c, zeroP) = (.ret, (c + k, x.1))) ∨
    ((∀ j y, l[j]? = some y → q (c + j) y.1 = false) ∧ foldE (stpF q) (l.map itW) (c, zeroP) = (.normal, (c + l.length, zeroP)))
  | [], c => Or.inr ⟨fun j y h => by simp at h, rfl⟩
  | x :: r, c => by
    cases hq : q c x.1
    · have hs : stpF q (c, zeroP) (itW x) = (.normal, (c + 1, zeroP)) := by unfold stpF; rw [plOf_it, hq]; rfl
      rw [List.map_cons, foldE_go (by rw [hs]), hs]
      rcases foldF q r (c + 1) with ⟨k, y, h1, h2, h3, h4⟩ | ⟨h1, h2⟩
      · refine Or.inl ⟨k + 1, y, by simpa using h1, by rw [show c + (k + 1) = c + 1 + k by omega]; exact h2, fun j z hj hz => ?_, by rw [h4, show c + (k + 1) = c + 1 + k by omega]⟩
        cases j with
        | zero => simp at hz; subst hz; exact hq
        | succ j => rw [show c + (j + 1) = c + 1 + j by omega]; exact h3 j z (by omega) (by simpa using hz)
      · refine Or.inr ⟨fun j z hz => ?_, by rw [h2]; simp; omega⟩
        cases j with
        | zero => simp at hz; subst hz; exact hq
        | succ j => rw [show c + (j + 1) = c + 1 + j by omega]; exact h1 j z (by simpa using hz)
    · have hs : stpF q (c, zeroP) (itW x) = (.ret, (c, x.1)) := by unfold stpF; rw [plOf_it, hq]; rfl
      refine Or.inl ⟨0, x, rfl, hq, fun j z hj _ => by omega, ?_⟩
      rw [List.map_cons, foldE_out (by rw [hs]; intro h; cases h), hs]; rfl
end Go.Ev
namespace Go.Ev
open Go.Proofs
set_option maxRecDepth 100000
set_option linter.unusedSimpArgs false
/-! ### PlaceOf -/
def hb15 (ch : AV) (n : Int) (s : Nat × Plc) : List (Option AObj) := [some (.cells 0 0 24 1 false [ch]), some (.cells 0 0 3 1 false [intA n]), some (.cells 0 0 32 1 false [intA s.2.1, intA s.2.2.1, intA s.2.2.2]), some (.cells 0 0 28 1 false [intA 0]), some (.cells 0 0 79 1 false [ch]), some (.cells 0 0 3 1 false [intA (IntKind.i64.wrap s.1)])]
def q15 (n : Int) (c : Nat) (_ : Plc) : Bool := decide (IntKind.i64.wrap c = n)
def placeR (l : List (Plc × ByteArray)) (n : Int) : AV := if 0 ≤ n ∧ n < l.length then .tup [plN ((l.map (·.1)).getD n.toNat zeroP), intA 0] else .tup [plN zeroP, intA 2]
def placeOfR (t : Txt) (n : Int) : AV := if textB t then placeR (wordsT 0 t) n else .tup [plN zeroP, intA 10]
set_option maxHeartbeats 2000000 in
theorem ans15 {e : Exts} (he : Quiet e) (t : Txt) (ht : Fits t) (ch : AV) (xs : List AV) (hch : SlOf 2 xs ch) (hall : All2 ChapA t xs) (n : Int) : Ans (Cx e) 15 [.agg [ch], intA n] (placeOfR t n) := by
  have hc := call40 he t ht ch ⟨xs, hch, hall⟩
  have hy := yields63 he ch xs hch (okCh2_of ht hall) (by rw [← hall.1]; exact ht.chs)
  rw [allIts_eq hall] at hy
  unfold Ans placeOfR
  rw [fn_step (fn_15 e) (show Tryz.f15.body = some _ from rfl)]
  cases h1 : textB t
  · rw [h1] at hc
    simp only [Bool.false_eq_true, if_false, intA] at hc
    simp -implicitDefEqProofs only [Tryz.f15, go_sem, repeatCells, splice, chunk, bsFin, ne_eq, not_true_eq_false, not_false_eq_true, List.headD_cons, Bool.false_eq_true, Nat.le_refl, Nat.zero_mul, Nat.one_mul, Nat.mul_one, assoc_setI, assoc_keep, ↓reduceIte, Nat.reduceEqDiff, Nat.reduceLT, Nat.reduceLeDiff, Nat.reduceAdd, Nat.reduceSub, Nat.reduceMul, decide_true, decide_false, Bool.not_true, Bool.not_false, List.mem_cons, List.not_mem_nil, true_or, or_true, false_or, or_false, and_true, true_and, and_self, List.getElem?_cons_succ, List.getElem?_cons_zero, Option.bind_some, Option.map_some, Option.map_none, List.map_cons, List.map_nil, List.length_cons, List.length_nil, List.filterMap_cons, List.filterMap_nil, List.cons_append, List.nil_append, List.append_nil, Nat.zero_add, Nat.add_zero, List.take_succ_cons, List.take_zero, List.take_nil, List.drop_succ_cons, List.drop_zero, List.drop_nil, List.all_cons, List.all_nil, Bool.and_true, Bool.true_and, Bool.false_and, Bool.and_false, reduceCtorEq, beq_iff_eq, beq_self_eq_true, Int.reduceEq, Int.reduceLT, Int.reduceLE, List.zip_cons_cons, List.zip_nil_right, List.zip_nil_left, setT_nil, setT_cons, intA, hch.cells, hch.flat, hch.bound, hc]
    rfl
  · rw [h1] at hc
    simp only [if_true, intA] at hc
    simp -implicitDefEqProofs only [Tryz.f15, go_sem, repeatCells, splice, chunk, bsFin, ne_eq, not_true_eq_false, not_false_eq_true, List.headD_cons, Bool.false_eq_true, Nat.le_refl, Nat.zero_mul, Nat.one_mul, Nat.mul_one, assoc_setI, assoc_keep, ↓reduceIte, Nat.reduceEqDiff, Nat.reduceLT, Nat.reduceLeDiff, Nat.reduceAdd, Nat.reduceSub, Nat.reduceMul, decide_true, decide_false, Bool.not_true, Bool.not_false, List.mem_cons, List.not_mem_nil, true_or, or_true, false_or, or_false, and_true, true_and, and_self, List.getElem?_cons_succ, List.getElem?_cons_zero, Option.bind_some, Option.map_some, Option.map_none, List.map_cons, List.map_nil, List.length_cons, List.length_nil, List.filterMap_cons, List.filterMap_nil, List.cons_append, List.nil_append, List.append_nil, Nat.zero_add, Nat.add_zero, List.take_succ_cons, List.take_zero, List.take_nil, List.drop_succ_cons, List.drop_zero, List.drop_nil, List.all_cons, List.all_nil, Bool.and_true, Bool.true_and, Bool.false_and, Bool.and_false, reduceCtorEq, beq_iff_eq, beq_self_eq_true, Int.reduceEq, Int.reduceLT, Int.reduceLE, List.zip_cons_cons, List.zip_nil_right, List.zip_nil_left, setT_nil, setT_cons, intA, hch.cells, hch.flat, hch.bound, hc, call41 he ch xs hch]
    refine wp_rangeS hy rfl (hb15 ch n) (stpF (q15 n)) (fun _ => True) okW (n0 := 6) (k := 0) (fun _ => rfl) (by omega) (okW_all t 0) (fun _ _ _ _ _ => trivial) ?_ (0, zeroP) trivial rfl ?_
    · rintro L L' s x E - - ⟨p, w, rfl⟩ -
      have hs : stpF (q15 n) s (itW (p, w)) = if decide (IntKind.i64.wrap s.1 = n) = true then (.ret, (s.1, p)) else (.normal, (s.1 + 1, s.2)) := by unfold stpF q15; rw [plOf_it]
      rw [hs]
      simp -implicitDefEqProofs only [go_sem, repeatCells, splice, chunk, bsFin, ne_eq, not_true_eq_false, not_false_eq_true, List.headD_cons, Bool.false_eq_true, Nat.le_refl, Nat.zero_mul, Nat.one_mul, Nat.mul_one, assoc_setI, assoc_keep, ↓reduceIte, Nat.reduceEqDiff, Nat.reduceLT, Nat.reduceLeDiff, Nat.reduceAdd, Nat.reduceSub, Nat.reduceMul, decide_true, decide_false, Bool.not_true, Bool.not_false, List.mem_cons, List.not_mem_nil, true_or, or_true, false_or, or_false, and_true, true_and, and_self, List.getElem?_cons_succ, List.getElem?_cons_zero, Option.bind_some, Option.map_some, Option.map_none, List.map_cons, List.map_nil, List.length_cons, List.length_nil, List.filterMap_cons, List.filterMap_nil, List.cons_append, List.nil_append, List.append_nil, Nat.zero_add, Nat.add_zero, List.take_succ_cons, List.take_zero, List.take_nil, List.drop_succ_cons, List.drop_zero, List.drop_nil, List.all_cons, List.all_nil, Bool.and_true, Bool.true_and, Bool.false_and, Bool.and_false, reduceCtorEq, beq_iff_eq, beq_self_eq_true, Int.reduceEq, Int.reduceLT, Int.reduceLE, List.zip_cons_cons, List.zip_nil_right, List.zip_nil_left, setT_nil, setT_cons, intA, hb15, itW, plN]
      refine asK_mk [some (.cells 0 0 32 1 false [intA p.1, intA p.2.1, intA p.2.2])] rfl ?_
      simp only [lh, Heap.plus]
      cases hn : decide (IntKind.i64.wrap s.1 = n)
      · simp -implicitDefEqProofs only [go_sem, repeatCells, splice, chunk, bsFin, ne_eq, not_true_eq_false, not_false_eq_true, List.headD_cons, Bool.false_eq_true, Nat.le_refl, Nat.zero_mul, Nat.one_mul, Nat.mul_one, assoc_setI, assoc_keep, ↓reduceIte, Nat.reduceEqDiff, Nat.reduceLT, Nat.reduceLeDiff, Nat.reduceAdd, Nat.reduceSub, Nat.reduceMul, decide_true, decide_false, Bool.not_true, Bool.not_false, List.mem_cons, List.not_mem_nil, true_or, or_true, false_or, or_false, and_true, true_and, and_self, List.getElem?_cons_succ, List.getElem?_cons_zero, Option.bind_some, Option.map_some, Option.map_none, List.map_cons, List.map_nil, List.length_cons, List.length_nil, List.filterMap_cons, List.filterMap_nil, List.cons_append, List.nil_append, List.append_nil, Nat.zero_add, Nat.add_zero, List.take_succ_cons, List.take_zero, List.take_nil, List.drop_succ_cons, List.drop_zero, List.drop_nil, List.all_cons, List.all_nil, Bool.and_true, Bool.true_and, Bool.false_and, Bool.and_false, reduceCtorEq, beq_iff_eq, beq_self_eq_true, Int.reduceEq, Int.reduceLT, Int.reduceLE, List.zip_cons_cons, List.zip_nil_right, List.zip_nil_left, setT_nil, setT_cons, intA, hb15, hn]
        simp only [rngK_at, true_and, wrap_wrap']
        exact ⟨[some (.cells 0 0 32 1 false [intA p.1, intA p.2.1, intA p.2.2])], rfl⟩
      · simp -implicitDefEqProofs only [go_sem, repeatCells, splice, chunk, bsFin, ne_eq, not_true_eq_false, not_false_eq_true, List.headD_cons, Bool.false_eq_true, Nat.le_refl, Nat.zero_mul, Nat.one_mul, Nat.mul_one, assoc_setI, assoc_keep, ↓reduceIte, Nat.reduceEqDiff, Nat.reduceLT, Nat.reduceLeDiff, Nat.reduceAdd, Nat.reduceSub, Nat.reduceMul, decide_true, decide_false, Bool.not_true, Bool.not_false, List.mem_cons, List.not_mem_nil, true_or, or_true, false_or, or_false, and_true, true_and, and_self, List.getElem?_cons_succ, List.getElem?_cons_zero, Option.bind_some, Option.map_some, Option.map_none, List.map_cons, List.map_nil, List.length_cons, List.length_nil, List.filterMap_cons, List.filterMap_nil, List.cons_append, List.nil_append, List.append_nil, Nat.zero_add, Nat.add_zero, List.take_succ_cons, List.take_zero, List.take_nil, List.drop_succ_cons, List.drop_zero, List.drop_nil, List.all_cons, List.all_nil, Bool.and_true, Bool.true_and, Bool.false_and, Bool.and_false, reduceCtorEq, beq_iff_eq, beq_self_eq_true, Int.reduceEq, Int.reduceLT, Int.reduceLE, List.zip_cons_cons, List.zip_nil_right, List.zip_nil_left, setT_nil, setT_cons, intA, hb15, hn]
        simp only [rngK_at, true_and]
        exact ⟨[some (.cells 0 0 32 1 false [intA p.1, intA p.2.1, intA p.2.2])], rfl⟩
    · intro G
      have hlen := wordsT_small (small_of h1)
      rcases foldF (q15 n) (wordsT 0 t) 0 with ⟨k, x, hk, hq, -, hf⟩ | ⟨hq, hf⟩
      · rw [hf]
        have hkl := (List.getElem?_eq_some_iff.1 hk).1
        unfold q15 at hq
        rw [wrap_nat _ (by omega), decide_eq_true_eq] at hq
        simp -implicitDefEqProofs only [go_sem, repeatCells, splice, chunk, bsFin, ne_eq, not_true_eq_false, not_false_eq_true, List.headD_cons, Bool.false_eq_true, Nat.le_refl, Nat.zero_mul, Nat.one_mul, Nat.mul_one, assoc_setI, assoc_keep, ↓reduceIte, Nat.reduceEqDiff, Nat.reduceLT, Nat.reduceLeDiff, Nat.reduceAdd, Nat.reduceSub, Nat.reduceMul, decide_true, decide_false, Bool.not_true, Bool.not_false, List.mem_cons, List.not_mem_nil, true_or, or_true, false_or, or_false, and_true, true_and, and_self, List.getElem?_cons_succ, List.getElem?_cons_zero, Option.bind_some, Option.map_some, Option.map_none, List.map_cons, List.map_nil, List.length_cons, List.length_nil, List.filterMap_cons, List.filterMap_nil, List.cons_append, List.nil_append, List.append_nil, Nat.zero_add, Nat.add_zero, List.take_succ_cons, List.take_zero, List.take_nil, List.drop_succ_cons, List.drop_zero, List.drop_nil, List.all_cons, List.all_nil, Bool.and_true, Bool.true_and, Bool.false_and, Bool.and_false, reduceCtorEq, beq_iff_eq, beq_self_eq_true, Int.reduceEq, Int.reduceLT, Int.reduceLE, List.zip_cons_cons, List.zip_nil_right, List.zip_nil_left, setT_nil, setT_cons, intA, hb15]
        unfold placeR
        rw [if_pos (by omega), ← hq]
        simp [hk, plN, intA]
        rfl
      · rw [hf]
        simp -implicitDefEqProofs only [go_sem, repeatCells, splice, chunk, bsFin, ne_eq, not_true_eq_false, not_false_eq_true, List.headD_cons, Bool.false_eq_true, Nat.le_refl, Nat.zero_mul, Nat.one_mul, Nat.mul_one, assoc_setI, assoc_keep, ↓reduceIte, Nat.reduceEqDiff, Nat.reduceLT, Nat.reduceLeDiff, Nat.reduceAdd, Nat.reduceSub, Nat.reduceMul, decide_true, decide_false, Bool.not_true, Bool.not_false, List.mem_cons, List.not_mem_nil, true_or, or_true, false_or, or_false, and_true, true_and, and_self, List.getElem?_cons_succ, List.getElem?_cons_zero, Option.bind_some, Option.map_some, Option.map_none, List.map_cons, List.map_nil, List.length_cons, List.length_nil, List.filterMap_cons, List.filterMap_nil, List.cons_append, List.nil_append, List.append_nil, Nat.zero_add, Nat.add_zero, List.take_succ_cons, List.take_zero, List.take_nil, List.drop_succ_cons, List.drop_zero, List.drop_nil, List.all_cons, List.all_nil, Bool.and_true, Bool.true_and, Bool.false_and, Bool.and_false, reduceCtorEq, beq_iff_eq, beq_self_eq_true, Int.reduceEq, Int.reduceLT, Int.reduceLE, List.zip_cons_cons, List.zip_nil_right, List.zip_nil_left, setT_nil, setT_cons, intA, hb15]
        have hno : ¬ (0 ≤ n ∧ n < ((wordsT 0 t).length : Int)) := by
          rintro ⟨h2, h3⟩
          obtain ⟨x, hx⟩ := at_lt (wordsT 0 t) n.toNat (by omega)
          have := hq _ _ hx
          unfold q15 at this
          rw [wrap_nat _ (by omega)] at this
          simp at this; omega
        unfold placeR
        rw [if_neg hno]
        rfl
end Go.Ev
/- Structs that are compared. -/
namespace Go.Ev
section
variable {P : Program}
theorem rp_bind {α β : Type} : ∀ (s : Sem α) (f : α → Sem β), runPure P (s >>= f) = (runPure P s).bind fun x => runPure P (f x) := by
  intro s f
  show runPure P (s.bind f) = _
  induction s with
  | pure a => rfl
  | program k ih => exact ih P
  | mark m k ih => exact ih
  | _ => rfl
theorem rp_pure {α : Type} (x : α) : runPure P (pure x : Sem α) = some x := rfl
theorem rp_program : runPure P program = some P := rfl
theorem rp_underlying {t : TypeId} {d : TypeDesc} (h : P.underlying t = some d) : runPure P (underlying t) = some d := by
  unfold underlying
  rw [rp_bind, rp_program, Option.bind_some, h]; rfl
theorem rp_ite {α : Type} (c : Prop) [Decidable c] (x y : Sem α) : runPure P (if c then x else y) = if c then runPure P x else runPure P y := by split <;> rfl
theorem rp_struct {t : TypeId} {fs : Array Field} (hu : P.underlying t = some (.struct fs)) (hst : P.stoodInHeld t = false) (xs ys : Array Value) (d : Nat) : runPure P (Op.equalIn (d + 1) t (.agg xs) (.agg ys)) = runPure P (Op.eqFields d xs ys fs.toList) := by
  unfold Op.equalIn
  simp only [rp_bind, rp_underlying hu, Option.bind_some, rp_program, hst]
  simp only [Bool.false_eq_true, if_false, rp_bind]
  rw [← Array.forIn_toList]
  induction fs.toList with
  | nil => simp [Op.eqFields, rp_pure]
  | cons f r ih =>
    simp only [List.forIn_cons, Op.eqFields, rp_bind, rp_ite]
    split
    · cases runPure P (part f.type xs f.offset) with
      | none => rfl
      | some a =>
        simp only [Option.bind_some]
        cases runPure P (part f.type ys f.offset) with
        | none => rfl
        | some b =>
          simp only [Option.bind_some]
          cases runPure P (Op.equalIn d f.type a b) with
          | none => rfl
          | some r =>
            cases r
            · simp only [Option.bind_some, Bool.not_false, if_true, rp_pure]
            · simp only [Option.bind_some, Bool.not_true, Bool.false_eq_true, if_false, rp_pure]
              exact ih
    · simp only [rp_pure, Option.bind_some]
      exact ih
theorem rp_int {t : TypeId} {k' : IntKind} (hu : P.underlying t = some (.int k')) (k : IntKind) (a b : Int) (d : Nat) : runPure P (Op.equalIn (d + 1) t (.int k a) (.int k b)) = some (decide (a = b)) := by
  unfold Op.equalIn
  simp only [rp_bind, rp_underlying hu, Option.bind_some, if_true]
  have : (a == b) = decide (a = b) := rfl
  rw [this]; rfl
theorem rp_bool {t : TypeId} (hu : P.underlying t = some .bool) (a b : Bool) (d : Nat) : runPure P (Op.equalIn (d + 1) t (.bool a) (.bool b)) = some (a == b) := by
  unfold Op.equalIn
  simp only [rp_bind, rp_underlying hu, Option.bind_some]
  rfl
theorem beqB (a b : ByteArray) : (a == b) = decide (a = b) := by
  obtain ⟨⟨x⟩⟩ := a
  obtain ⟨⟨y⟩⟩ := b
  show ((⟨x⟩ : Array UInt8) == ⟨y⟩) = _
  by_cases h : x = y
  · subst h; simp
  · simp [h]
theorem rp_string {t : TypeId} (hu : P.underlying t = some .string) (a b : ByteArray) (d : Nat) : runPure P (Op.equalIn (d + 1) t (.string a) (.string b)) = some (decide (a = b)) := by
  unfold Op.equalIn
  simp only [rp_bind, rp_underlying hu, Option.bind_some]
  rw [beqB]; rfl
/-! ### of cells that stand for themselves -/
def eqCell : Value → Value → Bool
  | .int _ m, .int _ n => decide (m = n)
  | .string a, .string b => decide (a = b)
  | .bool a, .bool b => a == b
  | _, _ => false
def eqCells : List Value → List Value → Bool
  | [], [] => true
  | x :: r, y :: s => eqCell x y && eqCells r s
  | _, _ => false
theorem eqCells_append : ∀ (a b c d : List Value), a.length = b.length → eqCells (a ++ c) (b ++ d) = (eqCells a b && eqCells c d)
  | [], [], c, d, _ => by simp [eqCells]
  | [], _ :: _, c, d, h => by simp at h
  | _ :: _, [], c, d, h => by simp at h
  | x :: a, y :: b, c, d, h => by simp only [List.cons_append, eqCells, eqCells_append a b c d (by simpa using h), Bool.and_assoc]
/-- the fields lie one behind the other, from k on up to the end -/
def tiledE (P : Program) : Nat → List Field → Nat → Bool
  | k, [], e => k == e
  | k, f :: r, e => f.offset == k && f.name != "_" && tiledE P (k + P.cellsOf f.type) r e
/-- cells that a comparison of this type takes -/
def eqOk (P : Program) : Nat → TypeId → List Value → List Value → Bool
  | 0, _, _, _ => false
  | n + 1, t, us, ws => (P.info? t).isSome &&
    match P.underlying t with
    | some .bool => match us, ws with | [.bool _], [.bool _] => true | _, _ => false
    | some (.int _) => match us, ws with | [.int k _], [.int k' _] => decide (k = k') | _, _ => false
    | some .string => match us, ws with | [.string _], [.string _] => true | _, _ => false
    | some (.struct fs) => !P.stoodInHeld t && tiledE P 0 fs.toList us.length && us.length == ws.length && P.cellsOf t == us.length && fs.toList.all fun f => eqOk P n f.type ((us.drop f.offset).take (P.cellsOf f.type)) ((ws.drop f.offset).take (P.cellsOf f.type))
    | _ => false
def isStr (P : Program) (t : TypeId) : Bool := match P.underlying t with | some (.struct _) => true | _ => false
def valOf (P : Program) (t : TypeId) (us : List Value) : Value := if isStr P t then .agg us.toArray else us.headD (.bool false)
theorem rp_info {t : TypeId} {i : TypeInfo} (h : P.info? t = some i) : runPure P (typeInfo t) = some i := by
  unfold typeInfo
  rw [rp_bind, rp_program, Option.bind_some, h]; rfl
theorem rp_isAgg {t : TypeId} {d : TypeDesc} (h : P.underlying t = some d) : runPure P (isAgg t) = some (match d with | .struct _ | .array _ _ => true | _ => false) := by
  unfold isAgg
  rw [rp_bind, rp_underlying h, Option.bind_some]
  cases d <;> rfl
theorem rp_part_one {t : TypeId} {d : TypeDesc} (hu : P.underlying t = some d) (hd : (match d with | .struct _ | .array _ _ => true | _ => false) = false) {xs : List Value} {k c : Nat} {u : Value} (hx : (xs.drop k).take c = [u]) : runPure P (part t xs.toArray k) = some u := by
  unfold part
  rw [rp_bind, rp_isAgg hu, Option.bind_some, hd]
  have h0 : xs.toArray[k]? = some u := Go.getElem?_of_chunk (c := c) (by simpa using hx)
  simp only [Bool.false_eq_true, if_false, h0]
  rfl
theorem rp_part_agg {t : TypeId} {fs : Array Field} (hu : P.underlying t = some (.struct fs)) {i : TypeInfo} (hi : P.info? t = some i) (xs : List Value) (k : Nat) : runPure P (part t xs.toArray k) = some (.agg ((xs.drop k).take (P.cellsOf t)).toArray) := by
  unfold part
  rw [rp_bind, rp_isAgg hu, Option.bind_some]
  simp only [if_true]
  unfold sizeOf
  simp only [rp_bind, rp_info hi, Option.bind_some, rp_pure]
  unfold Program.cellsOf
  rw [hi]
  simp [List.extract_toArray]
theorem one_cell {l : List Value} (h : l.length = 1) : ∃ u, l = [u] := by
  match l, h with
  | [u], _ => exact ⟨u, rfl⟩
theorem eqOk_len {n t : Nat} {us ws : List Value} (h : eqOk P n t us ws = true) : us.length = ws.length := by
  cases n with
  | zero => cases h
  | succ n =>
    unfold eqOk at h
    simp only [Bool.and_eq_true] at h
    replace h := h.2
    split at h
    · split at h <;> first | rfl | cases h
    · split at h <;> first | rfl | cases h
    · split at h <;> first | rfl | cases h
    · simp only [Bool.and_eq_true, beq_iff_eq] at h; exact h.1.1.2
    · cases h
theorem rp_eq : ∀ (n : Nat) (t : TypeId) (us ws : List Value), eqOk P n t us ws = true → ∀ K, n ≤ K → (∀ (xs : List Value) (k : Nat), (xs.drop k).take (P.cellsOf t) = us → runPure P (part t xs.toArray k) = some (valOf P t us)) ∧ (∀ (xs : List Value) (k : Nat), (xs.drop k).take (P.cellsOf t) = ws → runPure P (part t xs.toArray k) = some (valOf P t ws)) ∧ runPure P (Op.equalIn K t (valOf P t us) (valOf P t ws)) = some (eqCells us ws)
  | 0, _, _, _, h, _, _ => by cases h
  | n + 1, t, us, ws, h, 0, hK => by omega
  | n + 1, t, us, ws, h, K + 1, hK => by
    unfold eqOk at h
    simp only [Bool.and_eq_true] at h
    obtain ⟨hi, h⟩ := h
    obtain ⟨i, hi⟩ := Option.isSome_iff_exists.1 hi
    cases hu : P.underlying t with
    | none => rw [hu] at h; cases h
    | some d =>
      rw [hu] at h
      have hv : ∀ l, valOf P t l = if (match d with | .struct _ => true | _ => false) then .agg l.toArray else l.headD (.bool false) := by
        intro l; unfold valOf isStr; rw [hu]; cases d <;> rfl
      cases d <;> try (cases h; done)
      case bool =>
        simp only at h
        split at h
        · rw [hv, hv]
          exact ⟨fun xs k hx => rp_part_one hu rfl hx, fun xs k hx => rp_part_one hu rfl hx, (rp_bool hu _ _ K).trans (congrArg some (Bool.and_true _).symm)⟩
        · cases h
      case int =>
        simp only at h
        split at h
        · rename_i k a k' b
          simp only [decide_eq_true_eq] at h
          subst h
          rw [hv, hv]
          exact ⟨fun xs k hx => rp_part_one hu rfl hx, fun xs k hx => rp_part_one hu rfl hx, (rp_int hu _ _ _ K).trans (congrArg some (Bool.and_true _).symm)⟩
        · cases h
      case string =>
        simp only at h
        split at h
        · rw [hv, hv]
          exact ⟨fun xs k hx => rp_part_one hu rfl hx, fun xs k hx => rp_part_one hu rfl hx, (rp_string hu _ _ K).trans (congrArg some (Bool.and_true _).symm)⟩
        · cases h
      case struct fs =>
        simp only [Bool.and_eq_true, Bool.not_eq_true', beq_iff_eq] at h
        obtain ⟨⟨⟨⟨hst, htl⟩, hlen⟩, hc⟩, hall⟩ := h
        rw [hv, hv]
        simp only [if_true]
        refine ⟨fun xs k hx => by rw [rp_part_agg hu hi, hx], fun xs k hx => by rw [rp_part_agg hu hi, hx], ?_⟩
        rw [rp_struct hu hst]
        have hall' : ∀ f ∈ fs.toList, eqOk P n f.type ((us.drop f.offset).take (P.cellsOf f.type)) ((ws.drop f.offset).take (P.cellsOf f.type)) = true := fun f hf => List.all_eq_true.1 hall f (by simpa using hf)
        have key : ∀ (l : List Field) (k : Nat), (∀ f ∈ l, f ∈ fs.toList) → tiledE P k l us.length = true → runPure P (Op.eqFields K us.toArray ws.toArray l) = some (eqCells (us.drop k) (ws.drop k)) := by
          intro l
          induction l with
          | nil =>
            intro k _ ht
            have : k = us.length := by unfold tiledE at ht; simpa using ht
            subst this
            rw [List.drop_of_length_le (Nat.le_refl _), List.drop_of_length_le (by omega)]
            rfl
          | cons f r ih =>
            intro k hm ht
            unfold tiledE at ht
            simp only [Bool.and_eq_true, beq_iff_eq, bne_iff_ne, ne_eq] at ht
            obtain ⟨⟨ho, hn⟩, ht⟩ := ht
            have hf := hall' f (hm f List.mem_cons_self)
            obtain ⟨h1, h2, h3⟩ := rp_eq n f.type _ _ hf K (by omega)
            have ihr := ih (k + P.cellsOf f.type) (fun g hg => hm g (List.mem_cons_of_mem _ hg)) ht
            unfold Op.eqFields
            rw [if_pos (by simpa using hn)]
            simp only [rp_bind, rp_ite]
            rw [h1 us f.offset rfl, h2 ws f.offset rfl]
            simp only [Option.bind_some, h3, rp_pure, ihr]
            rw [ho]
            have hl := eqOk_len hf
            rw [ho] at hl
            have e1 : us.drop k = (us.drop k).take (P.cellsOf f.type) ++ us.drop (k + P.cellsOf f.type) := by
              rw [← List.drop_drop, List.take_append_drop]
            have e2 : ws.drop k = (ws.drop k).take (P.cellsOf f.type) ++ ws.drop (k + P.cellsOf f.type) := by
              rw [← List.drop_drop, List.take_append_drop]
            have e3 := eqCells_append _ _ (us.drop (k + P.cellsOf f.type)) (ws.drop (k + P.cellsOf f.type)) hl
            rw [← e1, ← e2] at e3
            rw [e3]
            cases eqCells ((us.drop k).take (P.cellsOf f.type)) ((ws.drop k).take (P.cellsOf f.type)) <;> rfl
        have := key fs.toList 0 (fun _ h => h) htl
        simpa using this
/-- structs of plain cells, compared -/
theorem bin_struct {t : TypeId} {us ws : List Value} {n : Nat} (hok : eqOk P n t us ws = true) (hn : n ≤ 10000) (hs : isStr P t = true) (hg : P.eqGuardType P.depth t = false) (x y : Operand) :
    binA P .eql t x y (.agg (us.map .v)) (.agg (ws.map .v)) = some (.v (.bool (eqCells us ws))) ∧ binA P .neq t x y (.agg (us.map .v)) (.agg (ws.map .v)) = some (.v (.bool (!eqCells us ws))) := by
  have ha : ∀ l : List Value, toAtoms (l.map .v) = some l := by
    intro l; induction l with
    | nil => rfl
    | cons a r ih => simp only [List.map_cons, toAtoms, ih, Option.map_some]
  have hv : ∀ l : List Value, toValue (.agg (l.map .v)) = some (.agg l.toArray) := by
    intro l; simp only [toValue, ha, Option.map_some]
  have h := (rp_eq n t us ws hok 10000 hn).2.2
  have hvv : ∀ l, valOf P t l = .agg l.toArray := by intro l; unfold valOf; rw [hs]; rfl
  rw [hvv, hvv] at h
  have h' : runPure P (Op.equal t (.agg us.toArray) (.agg ws.toArray)) = some (eqCells us ws) := h
  constructor
  · unfold binA
    simp only [hv, isEq, hg, Bool.not_false, Bool.and_true, if_true]
    show atomA (runPure P (do pure (.bool (← Op.equal t (.agg us.toArray) (.agg ws.toArray))))) = _
    rw [rp_bind, h']; rfl
  · unfold binA
    simp only [hv, isEq, hg, Bool.not_false, Bool.and_true, if_true]
    show atomA (runPure P (do pure (.bool (!(← Op.equal t (.agg us.toArray) (.agg ws.toArray)))))) = _
    rw [rp_bind, h']; rfl
end
end Go.Ev
namespace Go.Ev
open Go.Proofs
set_option maxRecDepth 100000
set_option linter.unusedSimpArgs false
/-! ### Number -/
def stpG (q : Nat → Plc → Bool) (s : Nat × Option Plc) (x : List AV) : AExit × (Nat × Option Plc) := if q s.1 (plOf x) then (.ret, (s.1, some (plOf x))) else (.normal, (s.1 + 1, s.2))
theorem foldG (q : Nat → Plc → Bool) : ∀ (l : List (Plc × ByteArray)) (c : Nat), (∃ k x, l[k]? = some x ∧ q (c + k) x.1 = true ∧ (∀ j y, j < k → l[j]? = some y → q (c + j) y.1 = false) ∧ foldE (stpG q) (l.map itW) (c, none) = (.ret, (c + k, some x.1))) ∨
    ((∀ j y, l[j]? = some y → q (c + j) y.1 = false) ∧ foldE (stpG q) (l.map itW) (c, none) = (.normal, (c + l.length, none)))
  | [], c => Or.inr ⟨fun j y h => by simp at h, rfl⟩
  | x :: r, c => by
    cases hq : q c x.1
    · have hs : stpG q (c, none) (itW x) = (.normal, (c + 1, none)) := by unfold stpG; rw [plOf_it, hq]; rfl
      rw [List.map_cons, foldE_go (by rw [hs]), hs]
      rcases foldG q r (c + 1) with ⟨k, y, h1, h2, h3, h4⟩ | ⟨h1, h2⟩
      · refine Or.inl ⟨k + 1, y, by simpa using h1, by rw [show c + (k + 1) = c + 1 + k by omega]; exact h2, fun j z hj hz => ?_, by rw [h4, show c + (k + 1) = c + 1 + k by omega]⟩
        cases j with
        | zero => simp at hz; subst hz; exact hq
        | succ j => rw [show c + (j + 1) = c + 1 + j by omega]; exact h3 j z (by omega) (by simpa using hz)
      · refine Or.inr ⟨fun j z hz => ?_, by rw [h2]; simp; omega⟩
        cases j with
        | zero => simp at hz; subst hz; exact hq
        | succ j => rw [show c + (j + 1) = c + 1 + j by omega]; exact h1 j z (by simpa using hz)
    · have hs : stpG q (c, none) (itW x) = (.ret, (c, some x.1)) := by unfold stpG; rw [plOf_it, hq]; rfl
      refine Or.inl ⟨0, x, rfl, hq, fun j z hj _ => by omega, ?_⟩
      rw [List.map_cons, foldE_out (by rw [hs]; intro h; cases h), hs]; rfl

/-- places, compared -/
def eqP (a b c a' b' c' : Int) : Bool := decide (a = a') && (decide (b = b') && decide (c = c'))
theorem eqP_cells (a b c a' b' c' : Int) : eqCells [.int .i64 a, .int .i64 b, .int .i64 c] [.int .i64 a', .int .i64 b', .int .i64 c'] = eqP a b c a' b' c' := by
  simp [eqCells, eqCell, eqP]
theorem eq32 (x y : Operand) (a b c a' b' c' : Int) : binA Tryz.prog .eql 32 x y (.agg [.v (.int .i64 a), .v (.int .i64 b), .v (.int .i64 c)]) (.agg [.v (.int .i64 a'), .v (.int .i64 b'), .v (.int .i64 c')]) = some (.v (.bool (eqP a b c a' b' c'))) := by
  have := (bin_struct (P := Tryz.prog) (t := 32) (us := [.int .i64 a, .int .i64 b, .int .i64 c]) (ws := [.int .i64 a', .int .i64 b', .int .i64 c']) (n := 3) (by kernel_rfl) (by decide) (by kernel_rfl) (by kernel_rfl) x y).1
  rw [eqP_cells] at this
  exact this
theorem plN_inj {a b : Plc} (h : plN a = plN b) : a = b := by
  unfold plN intA at h
  simp only [AV.agg.injEq, List.cons.injEq, AV.v.injEq, Value.int.injEq, true_and, and_true] at h
  obtain ⟨a1, a2, a3⟩ := a
  obtain ⟨b1, b2, b3⟩ := b
  simp only at h
  simp only [Prod.mk.injEq]; omega
def hb16 (ch : AV) (q : Plc) (s : Nat × Option Plc) : List (Option AObj) := [some (.cells 0 0 24 1 false [ch]), some (.cells 0 0 32 1 false [intA q.1, intA q.2.1, intA q.2.2]), some (.cells 0 0 3 1 false [intA (if s.2.isSome then IntKind.i64.wrap s.1 else 0)]), some (.cells 0 0 28 1 false [intA 0]), some (.cells 0 0 79 1 false [ch]), some (.cells 0 0 3 1 false [intA (IntKind.i64.wrap s.1)])]
def q16 (q : Plc) (_ : Nat) (p : Plc) : Bool := eqP p.1 p.2.1 p.2.2 q.1 q.2.1 q.2.2
set_option maxHeartbeats 2000000 in
/-- of a place that is one -/
theorem ans16 {e : Exts} (he : Quiet e) (t : Txt) (ht : Fits t) (ch : AV) (xs : List AV) (hch : SlOf 2 xs ch) (hall : All2 ChapA t xs) (h1 : textB t = true) (n : Nat) (x : Plc × ByteArray) (hx : (wordsT 0 t)[n]? = some x) : Ans (Cx e) 16 [.agg [ch], plN x.1] (.tup [intA n, intA 0]) := by
  have hc := call40 he t ht ch ⟨xs, hch, hall⟩
  have hy := yields63 he ch xs hch (okCh2_of ht hall) (by rw [← hall.1]; exact ht.chs)
  rw [allIts_eq hall] at hy
  unfold Ans
  rw [fn_step (fn_16 e) (show Tryz.f16.body = some _ from rfl)]
  rw [h1] at hc
  simp only [if_true, intA] at hc
  simp -implicitDefEqProofs only [Tryz.f16, plN, go_sem, repeatCells, splice, chunk, bsFin, ne_eq, not_true_eq_false, not_false_eq_true, List.headD_cons, Bool.false_eq_true, Nat.le_refl, Nat.zero_mul, Nat.one_mul, Nat.mul_one, assoc_setI, assoc_keep, ↓reduceIte, Nat.reduceEqDiff, Nat.reduceLT, Nat.reduceLeDiff, Nat.reduceAdd, Nat.reduceSub, Nat.reduceMul, decide_true, decide_false, Bool.not_true, Bool.not_false, List.mem_cons, List.not_mem_nil, true_or, or_true, false_or, or_false, and_true, true_and, and_self, List.getElem?_cons_succ, List.getElem?_cons_zero, Option.bind_some, Option.map_some, Option.map_none, List.map_cons, List.map_nil, List.length_cons, List.length_nil, List.filterMap_cons, List.filterMap_nil, List.cons_append, List.nil_append, List.append_nil, Nat.zero_add, Nat.add_zero, List.take_succ_cons, List.take_zero, List.take_nil, List.drop_succ_cons, List.drop_zero, List.drop_nil, List.all_cons, List.all_nil, Bool.and_true, Bool.true_and, Bool.false_and, Bool.and_false, reduceCtorEq, beq_iff_eq, beq_self_eq_true, Int.reduceEq, Int.reduceLT, Int.reduceLE, List.zip_cons_cons, List.zip_nil_right, List.zip_nil_left, setT_nil, setT_cons, intA, hch.cells, hch.flat, hch.bound, hc, call41 he ch xs hch]
  refine wp_rangeS hy rfl (hb16 ch x.1) (stpG (q16 x.1)) (fun s => s.2 = none) okW (n0 := 6) (k := 0) (fun _ => rfl) (by omega) (okW_all t 0) ?_ ?_ (0, none) rfl rfl ?_
  · intro s x hs _ h
    unfold stpG at h ⊢
    split at h
    · cases h
    · rename_i hq; rw [if_neg hq]; exact hs
  · rintro L L' ⟨c, o⟩ y E - hlv ⟨p, w, rfl⟩ -
    simp only at hlv
    subst hlv
    have hs : stpG (q16 x.1) (c, none) (itW (p, w)) = if eqP p.1 p.2.1 p.2.2 x.1.1 x.1.2.1 x.1.2.2 = true then (.ret, (c, some p)) else (.normal, (c + 1, none)) := by unfold stpG q16; rw [plOf_it]
    rw [hs]
    simp -implicitDefEqProofs only [go_sem, repeatCells, splice, chunk, bsFin, ne_eq, not_true_eq_false, not_false_eq_true, List.headD_cons, Bool.false_eq_true, Nat.le_refl, Nat.zero_mul, Nat.one_mul, Nat.mul_one, assoc_setI, assoc_keep, ↓reduceIte, Nat.reduceEqDiff, Nat.reduceLT, Nat.reduceLeDiff, Nat.reduceAdd, Nat.reduceSub, Nat.reduceMul, decide_true, decide_false, Bool.not_true, Bool.not_false, List.mem_cons, List.not_mem_nil, true_or, or_true, false_or, or_false, and_true, true_and, and_self, List.getElem?_cons_succ, List.getElem?_cons_zero, Option.bind_some, Option.map_some, Option.map_none, List.map_cons, List.map_nil, List.length_cons, List.length_nil, List.filterMap_cons, List.filterMap_nil, List.cons_append, List.nil_append, List.append_nil, Nat.zero_add, Nat.add_zero, List.take_succ_cons, List.take_zero, List.take_nil, List.drop_succ_cons, List.drop_zero, List.drop_nil, List.all_cons, List.all_nil, Bool.and_true, Bool.true_and, Bool.false_and, Bool.and_false, reduceCtorEq, beq_iff_eq, beq_self_eq_true, Int.reduceEq, Int.reduceLT, Int.reduceLE, List.zip_cons_cons, List.zip_nil_right, List.zip_nil_left, setT_nil, setT_cons, intA, hb16, itW, plN]
    refine asK_mk [some (.cells 0 0 32 1 false [intA p.1, intA p.2.1, intA p.2.2])] rfl ?_
    simp only [lh, Heap.plus]
    cases hn : eqP p.1 p.2.1 p.2.2 x.1.1 x.1.2.1 x.1.2.2
    · simp -implicitDefEqProofs only [go_sem, repeatCells, splice, chunk, bsFin, ne_eq, not_true_eq_false, not_false_eq_true, List.headD_cons, Bool.false_eq_true, Nat.le_refl, Nat.zero_mul, Nat.one_mul, Nat.mul_one, assoc_setI, assoc_keep, ↓reduceIte, Nat.reduceEqDiff, Nat.reduceLT, Nat.reduceLeDiff, Nat.reduceAdd, Nat.reduceSub, Nat.reduceMul, decide_true, decide_false, Bool.not_true, Bool.not_false, List.mem_cons, List.not_mem_nil, true_or, or_true, false_or, or_false, and_true, true_and, and_self, List.getElem?_cons_succ, List.getElem?_cons_zero, Option.bind_some, Option.map_some, Option.map_none, List.map_cons, List.map_nil, List.length_cons, List.length_nil, List.filterMap_cons, List.filterMap_nil, List.cons_append, List.nil_append, List.append_nil, Nat.zero_add, Nat.add_zero, List.take_succ_cons, List.take_zero, List.take_nil, List.drop_succ_cons, List.drop_zero, List.drop_nil, List.all_cons, List.all_nil, Bool.and_true, Bool.true_and, Bool.false_and, Bool.and_false, reduceCtorEq, beq_iff_eq, beq_self_eq_true, Int.reduceEq, Int.reduceLT, Int.reduceLE, List.zip_cons_cons, List.zip_nil_right, List.zip_nil_left, setT_nil, setT_cons, intA, hb16, eq32, hn]
      simp only [rngK_at, true_and, wrap_wrap']
      refine ⟨[some (.cells 0 0 32 1 false [intA p.1, intA p.2.1, intA p.2.2])], ?_⟩
      simp -implicitDefEqProofs only [go_sem, repeatCells, splice, chunk, bsFin, ne_eq, not_true_eq_false, not_false_eq_true, List.headD_cons, Bool.false_eq_true, Nat.le_refl, Nat.zero_mul, Nat.one_mul, Nat.mul_one, assoc_setI, assoc_keep, ↓reduceIte, Nat.reduceEqDiff, Nat.reduceLT, Nat.reduceLeDiff, Nat.reduceAdd, Nat.reduceSub, Nat.reduceMul, decide_true, decide_false, Bool.not_true, Bool.not_false, List.mem_cons, List.not_mem_nil, true_or, or_true, false_or, or_false, and_true, true_and, and_self, List.getElem?_cons_succ, List.getElem?_cons_zero, Option.bind_some, Option.map_some, Option.map_none, List.map_cons, List.map_nil, List.length_cons, List.length_nil, List.filterMap_cons, List.filterMap_nil, List.cons_append, List.nil_append, List.append_nil, Nat.zero_add, Nat.add_zero, List.take_succ_cons, List.take_zero, List.take_nil, List.drop_succ_cons, List.drop_zero, List.drop_nil, List.all_cons, List.all_nil, Bool.and_true, Bool.true_and, Bool.false_and, Bool.and_false, reduceCtorEq, beq_iff_eq, beq_self_eq_true, Int.reduceEq, Int.reduceLT, Int.reduceLE, List.zip_cons_cons, List.zip_nil_right, List.zip_nil_left, setT_nil, setT_cons, intA, lh, Heap.plus, hb16, Option.isSome_some, Option.isSome_none]
    · simp -implicitDefEqProofs only [go_sem, repeatCells, splice, chunk, bsFin, ne_eq, not_true_eq_false, not_false_eq_true, List.headD_cons, Bool.false_eq_true, Nat.le_refl, Nat.zero_mul, Nat.one_mul, Nat.mul_one, assoc_setI, assoc_keep, ↓reduceIte, Nat.reduceEqDiff, Nat.reduceLT, Nat.reduceLeDiff, Nat.reduceAdd, Nat.reduceSub, Nat.reduceMul, decide_true, decide_false, Bool.not_true, Bool.not_false, List.mem_cons, List.not_mem_nil, true_or, or_true, false_or, or_false, and_true, true_and, and_self, List.getElem?_cons_succ, List.getElem?_cons_zero, Option.bind_some, Option.map_some, Option.map_none, List.map_cons, List.map_nil, List.length_cons, List.length_nil, List.filterMap_cons, List.filterMap_nil, List.cons_append, List.nil_append, List.append_nil, Nat.zero_add, Nat.add_zero, List.take_succ_cons, List.take_zero, List.take_nil, List.drop_succ_cons, List.drop_zero, List.drop_nil, List.all_cons, List.all_nil, Bool.and_true, Bool.true_and, Bool.false_and, Bool.and_false, reduceCtorEq, beq_iff_eq, beq_self_eq_true, Int.reduceEq, Int.reduceLT, Int.reduceLE, List.zip_cons_cons, List.zip_nil_right, List.zip_nil_left, setT_nil, setT_cons, intA, hb16, eq32, hn]
      simp only [rngK_at, true_and]
      refine ⟨[some (.cells 0 0 32 1 false [intA p.1, intA p.2.1, intA p.2.2])], ?_⟩
      simp -implicitDefEqProofs only [go_sem, repeatCells, splice, chunk, bsFin, ne_eq, not_true_eq_false, not_false_eq_true, List.headD_cons, Bool.false_eq_true, Nat.le_refl, Nat.zero_mul, Nat.one_mul, Nat.mul_one, assoc_setI, assoc_keep, ↓reduceIte, Nat.reduceEqDiff, Nat.reduceLT, Nat.reduceLeDiff, Nat.reduceAdd, Nat.reduceSub, Nat.reduceMul, decide_true, decide_false, Bool.not_true, Bool.not_false, List.mem_cons, List.not_mem_nil, true_or, or_true, false_or, or_false, and_true, true_and, and_self, List.getElem?_cons_succ, List.getElem?_cons_zero, Option.bind_some, Option.map_some, Option.map_none, List.map_cons, List.map_nil, List.length_cons, List.length_nil, List.filterMap_cons, List.filterMap_nil, List.cons_append, List.nil_append, List.append_nil, Nat.zero_add, Nat.add_zero, List.take_succ_cons, List.take_zero, List.take_nil, List.drop_succ_cons, List.drop_zero, List.drop_nil, List.all_cons, List.all_nil, Bool.and_true, Bool.true_and, Bool.false_and, Bool.and_false, reduceCtorEq, beq_iff_eq, beq_self_eq_true, Int.reduceEq, Int.reduceLT, Int.reduceLE, List.zip_cons_cons, List.zip_nil_right, List.zip_nil_left, setT_nil, setT_cons, intA, lh, Heap.plus, hb16, Option.isSome_some, Option.isSome_none]
  · intro G
    have hlen := wordsT_small (small_of h1)
    have hxl := (List.getElem?_eq_some_iff.1 hx).1
    have hqx : q16 x.1 (0 + n) x.1 = true := by unfold q16 eqP; simp
    rcases foldG (q16 x.1) (wordsT 0 t) 0 with ⟨k, y, hk, hq, hno, hf⟩ | ⟨hq, hf⟩
    · rw [hf]
      have hkl := (List.getElem?_eq_some_iff.1 hk).1
      have hkn : k = n := by
        unfold q16 eqP at hq
        simp only [Bool.and_eq_true, decide_eq_true_eq] at hq
        rcases Nat.lt_trichotomy k n with h | h | h
        · have := up_lt (wordsT_up t 0) hk hx h
          unfold plLt at this; omega
        · exact h
        · have := hno n x h hx
          rw [hqx] at this; cases this
      subst hkn
      have hwk := wrap_nat k (by omega)
      simp -implicitDefEqProofs only [go_sem, repeatCells, splice, chunk, bsFin, ne_eq, not_true_eq_false, not_false_eq_true, List.headD_cons, Bool.false_eq_true, Nat.le_refl, Nat.zero_mul, Nat.one_mul, Nat.mul_one, assoc_setI, assoc_keep, ↓reduceIte, Nat.reduceEqDiff, Nat.reduceLT, Nat.reduceLeDiff, Nat.reduceAdd, Nat.reduceSub, Nat.reduceMul, decide_true, decide_false, Bool.not_true, Bool.not_false, List.mem_cons, List.not_mem_nil, true_or, or_true, false_or, or_false, and_true, true_and, and_self, List.getElem?_cons_succ, List.getElem?_cons_zero, Option.bind_some, Option.map_some, Option.map_none, List.map_cons, List.map_nil, List.length_cons, List.length_nil, List.filterMap_cons, List.filterMap_nil, List.cons_append, List.nil_append, List.append_nil, Nat.zero_add, Nat.add_zero, List.take_succ_cons, List.take_zero, List.take_nil, List.drop_succ_cons, List.drop_zero, List.drop_nil, List.all_cons, List.all_nil, Bool.and_true, Bool.true_and, Bool.false_and, Bool.and_false, reduceCtorEq, beq_iff_eq, beq_self_eq_true, Int.reduceEq, Int.reduceLT, Int.reduceLE, List.zip_cons_cons, List.zip_nil_right, List.zip_nil_left, setT_nil, setT_cons, intA, hb16, Nat.zero_add, hwk, Option.isSome_some]
      rfl
    · have := hq n x hx
      rw [hqx] at this; cases this
end Go.Ev
namespace Go.Ev
open Go.Proofs
set_option maxRecDepth 100000
set_option linter.unusedSimpArgs false
def lineAt (t : Txt) (a b : Int) : Option Line := if 0 ≤ a ∧ 0 ≤ b then (t[a.toNat]?).bind fun c => c.2[b.toNat]? else none
/-- a line that is there, or none -/
def LineO (o : Option Line) (x : AV) : Prop := match o with | some l => LineA l x | none => x = .v (.slice none 0 0)
theorem within_len (a : Int) (n : Nat) : withinB 0 ((n : Int) - 1) [a] = decide (0 ≤ a ∧ a < n) := by
  rw [range1]
  by_cases h : 0 ≤ a <;> by_cases h2 : a < n <;> simp [h, h2] <;> omega
set_option maxHeartbeats 2000000 in
theorem ans42 {e : Exts} (he : Quiet e) (t : Txt) (ht : Fits t) (ch : AV) (xs : List AV) (hch : SlOf 2 xs ch) (hall : All2 ChapA t xs) (a b c : Int) : ∃ x, LineO (lineAt t a b) x ∧ Ans (Cx e) 42 [.agg [ch], .agg [intA a, intA b, intA c]] (.tup [x, .v (.bool (lineAt t a b).isSome)]) := by
  have hw1 : IntKind.i64.wrap ((t.length : Int) - 1) = (t.length : Int) - 1 := wrap_in _ (by omega) (by have := ht.chs; omega)
  have hc1 := callI43 he a 0 ((t.length : Int) - 1)
  rw [within_len] at hc1
  by_cases h1 : 0 ≤ a ∧ a < t.length
  · obtain ⟨i, rfl⟩ : ∃ i : Nat, a = i := ⟨a.toNat, by omega⟩
    obtain ⟨cp, hs⟩ := at_lt t i (by omega)
    obtain ⟨y, hy, l, rfl, lxs, hl, hls⟩ := hall.get hs
    have hm := List.mem_of_getElem? hs
    have hll := ht.lines cp hm
    have hw2 : IntKind.i64.wrap ((cp.2.length : Int) - 1) = (cp.2.length : Int) - 1 := wrap_in _ (by omega) (by omega)
    have hc2 := callI43 he b 0 ((cp.2.length : Int) - 1)
    rw [within_len] at hc2
    rw [decide_eq_true h1] at hc1
    by_cases h2 : 0 ≤ b ∧ b < cp.2.length
    · obtain ⟨j, rfl⟩ : ∃ j : Nat, b = j := ⟨b.toNat, by omega⟩
      obtain ⟨ln, hn⟩ := at_lt cp.2 j (by omega)
      obtain ⟨lx, hx, hlx⟩ := hls.get hn
      have hlx : SlOf 1 (strs ln) lx := hlx
      rw [decide_eq_true h2] at hc2
      have hL : lineAt t i j = some ln := by unfold lineAt; rw [if_pos (by omega)]; simp [hs, hn]
      rw [hL]
      refine ⟨lx, hlx, ?_⟩
      unfold Ans
      rw [fn_step (fn_42 e) (show Tryz.f42.body = some _ from rfl)]
      simp -implicitDefEqProofs only [Tryz.f42, go_sem, repeatCells, splice, chunk, bsFin, ne_eq, not_true_eq_false, not_false_eq_true, List.headD_cons, Bool.false_eq_true, Nat.le_refl, Nat.zero_mul, Nat.one_mul, Nat.mul_one, assoc_setI, assoc_keep, ↓reduceIte, Nat.reduceEqDiff, Nat.reduceLT, Nat.reduceLeDiff, Nat.reduceAdd, Nat.reduceSub, Nat.reduceMul, decide_true, decide_false, Bool.not_true, Bool.not_false, List.mem_cons, List.not_mem_nil, true_or, or_true, false_or, or_false, and_true, true_and, and_self, List.getElem?_cons_succ, List.getElem?_cons_zero, Option.bind_some, Option.map_some, Option.map_none, List.map_cons, List.map_nil, List.length_cons, List.length_nil, List.filterMap_cons, List.filterMap_nil, List.cons_append, List.nil_append, List.append_nil, Nat.zero_add, Nat.add_zero, List.take_succ_cons, List.take_zero, List.take_nil, List.drop_succ_cons, List.drop_zero, List.drop_nil, List.all_cons, List.all_nil, Bool.and_true, Bool.true_and, Bool.false_and, Bool.and_false, reduceCtorEq, beq_iff_eq, beq_self_eq_true, Int.reduceEq, Int.reduceLT, Int.reduceLE, List.zip_cons_cons, List.zip_nil_right, List.zip_nil_left, setT_nil, setT_cons, intA, hch.cells, hch.flat, hch.bound]
      refine wp_draw (by kernel_rfl) ?_
      simp -implicitDefEqProofs only [go_sem, repeatCells, splice, chunk, bsFin, ne_eq, not_true_eq_false, not_false_eq_true, List.headD_cons, Bool.false_eq_true, Nat.le_refl, Nat.zero_mul, Nat.one_mul, Nat.mul_one, assoc_setI, assoc_keep, ↓reduceIte, Nat.reduceEqDiff, Nat.reduceLT, Nat.reduceLeDiff, Nat.reduceAdd, Nat.reduceSub, Nat.reduceMul, decide_true, decide_false, Bool.not_true, Bool.not_false, List.mem_cons, List.not_mem_nil, true_or, or_true, false_or, or_false, and_true, true_and, and_self, List.getElem?_cons_succ, List.getElem?_cons_zero, Option.bind_some, Option.map_some, Option.map_none, List.map_cons, List.map_nil, List.length_cons, List.length_nil, List.filterMap_cons, List.filterMap_nil, List.cons_append, List.nil_append, List.append_nil, Nat.zero_add, Nat.add_zero, List.take_succ_cons, List.take_zero, List.take_nil, List.drop_succ_cons, List.drop_zero, List.drop_nil, List.all_cons, List.all_nil, Bool.and_true, Bool.true_and, Bool.false_and, Bool.and_false, reduceCtorEq, beq_iff_eq, beq_self_eq_true, Int.reduceEq, Int.reduceLT, Int.reduceLE, List.zip_cons_cons, List.zip_nil_right, List.zip_nil_left, setT_nil, setT_cons, intA, hch.cells, hch.flat, hch.bound, hch.len, hch.lenI, ← hall.1, hw1, hc1, hch.idx hy, hl.len, hl.cells, hl.lenI, ← hls.1, hw2, hc2]
      refine wp_draw (by kernel_rfl) ?_
      simp -implicitDefEqProofs only [go_sem, repeatCells, splice, chunk, bsFin, ne_eq, not_true_eq_false, not_false_eq_true, List.headD_cons, Bool.false_eq_true, Nat.le_refl, Nat.zero_mul, Nat.one_mul, Nat.mul_one, assoc_setI, assoc_keep, ↓reduceIte, Nat.reduceEqDiff, Nat.reduceLT, Nat.reduceLeDiff, Nat.reduceAdd, Nat.reduceSub, Nat.reduceMul, decide_true, decide_false, Bool.not_true, Bool.not_false, List.mem_cons, List.not_mem_nil, true_or, or_true, false_or, or_false, and_true, true_and, and_self, List.getElem?_cons_succ, List.getElem?_cons_zero, Option.bind_some, Option.map_some, Option.map_none, List.map_cons, List.map_nil, List.length_cons, List.length_nil, List.filterMap_cons, List.filterMap_nil, List.cons_append, List.nil_append, List.append_nil, Nat.zero_add, Nat.add_zero, List.take_succ_cons, List.take_zero, List.take_nil, List.drop_succ_cons, List.drop_zero, List.drop_nil, List.all_cons, List.all_nil, Bool.and_true, Bool.true_and, Bool.false_and, Bool.and_false, reduceCtorEq, beq_iff_eq, beq_self_eq_true, Int.reduceEq, Int.reduceLT, Int.reduceLE, List.zip_cons_cons, List.zip_nil_right, List.zip_nil_left, setT_nil, setT_cons, intA, hch.cells, hch.flat, hch.bound, hch.len, hch.lenI, ← hall.1, hw1, hc1, hch.idx hy, hl.len, hl.cells, hl.idx hx, hlx.cells]
      rcases hlx with ⟨rfl, -⟩ | ⟨cap, rfl⟩ <;> rfl
    · rw [decide_eq_false h2] at hc2
      have hL : lineAt t i b = none := by
        unfold lineAt
        split
        · simp only [Int.toNat_natCast, hs, Option.bind_some]
          rw [List.getElem?_eq_none_iff]; omega
        · rfl
      rw [hL]
      refine ⟨_, rfl, ?_⟩
      unfold Ans
      rw [fn_step (fn_42 e) (show Tryz.f42.body = some _ from rfl)]
      simp -implicitDefEqProofs only [Tryz.f42, go_sem, repeatCells, splice, chunk, bsFin, ne_eq, not_true_eq_false, not_false_eq_true, List.headD_cons, Bool.false_eq_true, Nat.le_refl, Nat.zero_mul, Nat.one_mul, Nat.mul_one, assoc_setI, assoc_keep, ↓reduceIte, Nat.reduceEqDiff, Nat.reduceLT, Nat.reduceLeDiff, Nat.reduceAdd, Nat.reduceSub, Nat.reduceMul, decide_true, decide_false, Bool.not_true, Bool.not_false, List.mem_cons, List.not_mem_nil, true_or, or_true, false_or, or_false, and_true, true_and, and_self, List.getElem?_cons_succ, List.getElem?_cons_zero, Option.bind_some, Option.map_some, Option.map_none, List.map_cons, List.map_nil, List.length_cons, List.length_nil, List.filterMap_cons, List.filterMap_nil, List.cons_append, List.nil_append, List.append_nil, Nat.zero_add, Nat.add_zero, List.take_succ_cons, List.take_zero, List.take_nil, List.drop_succ_cons, List.drop_zero, List.drop_nil, List.all_cons, List.all_nil, Bool.and_true, Bool.true_and, Bool.false_and, Bool.and_false, reduceCtorEq, beq_iff_eq, beq_self_eq_true, Int.reduceEq, Int.reduceLT, Int.reduceLE, List.zip_cons_cons, List.zip_nil_right, List.zip_nil_left, setT_nil, setT_cons, intA, hch.cells, hch.flat, hch.bound]
      refine wp_draw (by kernel_rfl) ?_
      simp -implicitDefEqProofs only [go_sem, repeatCells, splice, chunk, bsFin, ne_eq, not_true_eq_false, not_false_eq_true, List.headD_cons, Bool.false_eq_true, Nat.le_refl, Nat.zero_mul, Nat.one_mul, Nat.mul_one, assoc_setI, assoc_keep, ↓reduceIte, Nat.reduceEqDiff, Nat.reduceLT, Nat.reduceLeDiff, Nat.reduceAdd, Nat.reduceSub, Nat.reduceMul, decide_true, decide_false, Bool.not_true, Bool.not_false, List.mem_cons, List.not_mem_nil, true_or, or_true, false_or, or_false, and_true, true_and, and_self, List.getElem?_cons_succ, List.getElem?_cons_zero, Option.bind_some, Option.map_some, Option.map_none, List.map_cons, List.map_nil, List.length_cons, List.length_nil, List.filterMap_cons, List.filterMap_nil, List.cons_append, List.nil_append, List.append_nil, Nat.zero_add, Nat.add_zero, List.take_succ_cons, List.take_zero, List.take_nil, List.drop_succ_cons, List.drop_zero, List.drop_nil, List.all_cons, List.all_nil, Bool.and_true, Bool.true_and, Bool.false_and, Bool.and_false, reduceCtorEq, beq_iff_eq, beq_self_eq_true, Int.reduceEq, Int.reduceLT, Int.reduceLE, List.zip_cons_cons, List.zip_nil_right, List.zip_nil_left, setT_nil, setT_cons, intA, hch.cells, hch.flat, hch.bound, hch.len, hch.lenI, ← hall.1, hw1, hc1, hch.idx hy, hl.len, hl.cells, hl.lenI, ← hls.1, hw2, hc2]
      rfl
  · rw [decide_eq_false h1] at hc1
    have hL : lineAt t a b = none := by
      unfold lineAt
      split
      · have : t[a.toNat]? = none := by rw [List.getElem?_eq_none_iff]; omega
        rw [this]; rfl
      · rfl
    rw [hL]
    refine ⟨_, rfl, ?_⟩
    unfold Ans
    rw [fn_step (fn_42 e) (show Tryz.f42.body = some _ from rfl)]
    simp -implicitDefEqProofs only [Tryz.f42, go_sem, repeatCells, splice, chunk, bsFin, ne_eq, not_true_eq_false, not_false_eq_true, List.headD_cons, Bool.false_eq_true, Nat.le_refl, Nat.zero_mul, Nat.one_mul, Nat.mul_one, assoc_setI, assoc_keep, ↓reduceIte, Nat.reduceEqDiff, Nat.reduceLT, Nat.reduceLeDiff, Nat.reduceAdd, Nat.reduceSub, Nat.reduceMul, decide_true, decide_false, Bool.not_true, Bool.not_false, List.mem_cons, List.not_mem_nil, true_or, or_true, false_or, or_false, and_true, true_and, and_self, List.getElem?_cons_succ, List.getElem?_cons_zero, Option.bind_some, Option.map_some, Option.map_none, List.map_cons, List.map_nil, List.length_cons, List.length_nil, List.filterMap_cons, List.filterMap_nil, List.cons_append, List.nil_append, List.append_nil, Nat.zero_add, Nat.add_zero, List.take_succ_cons, List.take_zero, List.take_nil, List.drop_succ_cons, List.drop_zero, List.drop_nil, List.all_cons, List.all_nil, Bool.and_true, Bool.true_and, Bool.false_and, Bool.and_false, reduceCtorEq, beq_iff_eq, beq_self_eq_true, Int.reduceEq, Int.reduceLT, Int.reduceLE, List.zip_cons_cons, List.zip_nil_right, List.zip_nil_left, setT_nil, setT_cons, intA, hch.cells, hch.flat, hch.bound]
    refine wp_draw (by kernel_rfl) ?_
    simp -implicitDefEqProofs only [go_sem, repeatCells, splice, chunk, bsFin, ne_eq, not_true_eq_false, not_false_eq_true, List.headD_cons, Bool.false_eq_true, Nat.le_refl, Nat.zero_mul, Nat.one_mul, Nat.mul_one, assoc_setI, assoc_keep, ↓reduceIte, Nat.reduceEqDiff, Nat.reduceLT, Nat.reduceLeDiff, Nat.reduceAdd, Nat.reduceSub, Nat.reduceMul, decide_true, decide_false, Bool.not_true, Bool.not_false, List.mem_cons, List.not_mem_nil, true_or, or_true, false_or, or_false, and_true, true_and, and_self, List.getElem?_cons_succ, List.getElem?_cons_zero, Option.bind_some, Option.map_some, Option.map_none, List.map_cons, List.map_nil, List.length_cons, List.length_nil, List.filterMap_cons, List.filterMap_nil, List.cons_append, List.nil_append, List.append_nil, Nat.zero_add, Nat.add_zero, List.take_succ_cons, List.take_zero, List.take_nil, List.drop_succ_cons, List.drop_zero, List.drop_nil, List.all_cons, List.all_nil, Bool.and_true, Bool.true_and, Bool.false_and, Bool.and_false, reduceCtorEq, beq_iff_eq, beq_self_eq_true, Int.reduceEq, Int.reduceLT, Int.reduceLE, List.zip_cons_cons, List.zip_nil_right, List.zip_nil_left, setT_nil, setT_cons, intA, hch.cells, hch.flat, hch.bound, hch.len, hch.lenI, ← hall.1, hw1, hc1]
    rfl
theorem call42 {e : Exts} (he : Quiet e) (t : Txt) (ht : Fits t) (ch : AV) (xs : List AV) (hch : SlOf 2 xs ch) (hall : All2 ChapA t xs) (a b c : Int) : ∃ x, LineO (lineAt t a b) x ∧ ∀ (me : FuncId) (d : Option Tmp) (H : Heap), callA (Cx e) (lim (Cx e)) me 42 d [.agg [ch], .agg [.v (.int .i64 a), .v (.int .i64 b), .v (.int .i64 c)]] H = some (.tup [x, .v (.bool (lineAt t a b).isSome)], H) := by
  obtain ⟨x, hx, h⟩ := ans42 he t ht ch xs hch hall a b c
  exact ⟨x, hx, fun me d H => h.call (ext_42 he) (pure_42 _ _ _) (by simp only [boundL_cons, bound_agg, hch.bound, boundL_nil, intA, bound_v]; rfl) H⟩
/-! ### Place -/
def placeB' (t : Txt) (a b c : Int) : Bool := match lineAt t a b with | some l => decide (0 ≤ c ∧ c < l.length) | none => false
theorem lineAt_mem {t : Txt} {a b : Int} {l : Line} (h : lineAt t a b = some l) : ∃ c ∈ t, l ∈ c.2 := by
  unfold lineAt at h
  split at h
  · obtain ⟨c, h1, h2⟩ := Option.bind_eq_some_iff.1 h
    exact ⟨c, List.mem_of_getElem? h1, List.mem_of_getElem? h2⟩
  · cases h
set_option maxHeartbeats 2000000 in
theorem ans17 {e : Exts} (he : Quiet e) (t : Txt) (ht : Fits t) (ch : AV) (xs : List AV) (hch : SlOf 2 xs ch) (hall : All2 ChapA t xs) (a b c : Int) : Ans (Cx e) 17 [.agg [ch], .agg [intA a, intA b, intA c]] (.v (.bool (placeB' t a b c))) := by
  obtain ⟨x, hx, hc⟩ := call42 he t ht ch xs hch hall a b c
  unfold placeB' Ans
  rw [fn_step (fn_17 e) (show Tryz.f17.body = some _ from rfl)]
  cases hL : lineAt t a b with
  | none =>
    rw [hL] at hx hc
    simp only [LineO] at hx
    subst hx
    simp only [Option.isSome_none] at hc
    simp -implicitDefEqProofs only [Tryz.f17, go_sem, repeatCells, splice, chunk, bsFin, ne_eq, not_true_eq_false, not_false_eq_true, List.headD_cons, Bool.false_eq_true, Nat.le_refl, Nat.zero_mul, Nat.one_mul, Nat.mul_one, assoc_setI, assoc_keep, ↓reduceIte, Nat.reduceEqDiff, Nat.reduceLT, Nat.reduceLeDiff, Nat.reduceAdd, Nat.reduceSub, Nat.reduceMul, decide_true, decide_false, Bool.not_true, Bool.not_false, List.mem_cons, List.not_mem_nil, true_or, or_true, false_or, or_false, and_true, true_and, and_self, List.getElem?_cons_succ, List.getElem?_cons_zero, Option.bind_some, Option.map_some, Option.map_none, List.map_cons, List.map_nil, List.length_cons, List.length_nil, List.filterMap_cons, List.filterMap_nil, List.cons_append, List.nil_append, List.append_nil, Nat.zero_add, Nat.add_zero, List.take_succ_cons, List.take_zero, List.take_nil, List.drop_succ_cons, List.drop_zero, List.drop_nil, List.all_cons, List.all_nil, Bool.and_true, Bool.true_and, Bool.false_and, Bool.and_false, reduceCtorEq, beq_iff_eq, beq_self_eq_true, Int.reduceEq, Int.reduceLT, Int.reduceLE, List.zip_cons_cons, List.zip_nil_right, List.zip_nil_left, setT_nil, setT_cons, intA, hch.cells, hch.flat, hch.bound, hc]
  | some l =>
    rw [hL] at hx hc
    have hx : SlOf 1 (strs l) x := hx
    obtain ⟨cp, hcm, hlm⟩ := lineAt_mem hL
    have hll := ht.words cp hcm l hlm
    simp only [Option.isSome_some] at hc
    have hw1 : IntKind.i64.wrap ((l.length : Int) - 1) = (l.length : Int) - 1 := wrap_in _ (by omega) (by omega)
    have hc1 := call43 he c 0 ((l.length : Int) - 1)
    rw [within_len] at hc1
    simp -implicitDefEqProofs only [Tryz.f17, go_sem, repeatCells, splice, chunk, bsFin, ne_eq, not_true_eq_false, not_false_eq_true, List.headD_cons, Bool.false_eq_true, Nat.le_refl, Nat.zero_mul, Nat.one_mul, Nat.mul_one, assoc_setI, assoc_keep, ↓reduceIte, Nat.reduceEqDiff, Nat.reduceLT, Nat.reduceLeDiff, Nat.reduceAdd, Nat.reduceSub, Nat.reduceMul, decide_true, decide_false, Bool.not_true, Bool.not_false, List.mem_cons, List.not_mem_nil, true_or, or_true, false_or, or_false, and_true, true_and, and_self, List.getElem?_cons_succ, List.getElem?_cons_zero, Option.bind_some, Option.map_some, Option.map_none, List.map_cons, List.map_nil, List.length_cons, List.length_nil, List.filterMap_cons, List.filterMap_nil, List.cons_append, List.nil_append, List.append_nil, Nat.zero_add, Nat.add_zero, List.take_succ_cons, List.take_zero, List.take_nil, List.drop_succ_cons, List.drop_zero, List.drop_nil, List.all_cons, List.all_nil, Bool.and_true, Bool.true_and, Bool.false_and, Bool.and_false, reduceCtorEq, beq_iff_eq, beq_self_eq_true, Int.reduceEq, Int.reduceLT, Int.reduceLE, List.zip_cons_cons, List.zip_nil_right, List.zip_nil_left, setT_nil, setT_cons, intA, hch.cells, hch.flat, hch.bound, hc, hx.len, strs_len, hw1, hc1]
theorem call17 {e : Exts} (he : Quiet e) (t : Txt) (ht : Fits t) (ch : AV) (xs : List AV) (hch : SlOf 2 xs ch) (hall : All2 ChapA t xs) (a b c : Int) (me : FuncId) (d : Option Tmp) (H : Heap) : callA (Cx e) (lim (Cx e)) me 17 d [.agg [ch], .agg [.v (.int .i64 a), .v (.int .i64 b), .v (.int .i64 c)]] H = some (.v (.bool (placeB' t a b c)), H) :=
  (ans17 he t ht ch xs hch hall a b c).call (ext_17 he) (pure_17 _ _ _) (by simp only [boundL_cons, bound_agg, hch.bound, boundL_nil, intA, bound_v]; rfl) H
/-! ### Before -/
set_option maxHeartbeats 2000000 in
theorem ans18 {e : Exts} (a b c a' b' c' : Int) : Ans (Cx e) 18 [.agg [intA a, intA b, intA c], .agg [intA a', intA b', intA c']] (.v (.bool (beforeB (a, b, c) (a', b', c')))) := by
  unfold Ans beforeB
  rw [fn_step (fn_18 e) (show Tryz.f18.body = some _ from rfl)]
  cases h1 : decide (a = a')
  · simp -implicitDefEqProofs only [Tryz.f18, go_sem, repeatCells, splice, chunk, bsFin, ne_eq, not_true_eq_false, not_false_eq_true, List.headD_cons, Bool.false_eq_true, Nat.le_refl, Nat.zero_mul, Nat.one_mul, Nat.mul_one, assoc_setI, assoc_keep, ↓reduceIte, Nat.reduceEqDiff, Nat.reduceLT, Nat.reduceLeDiff, Nat.reduceAdd, Nat.reduceSub, Nat.reduceMul, decide_true, decide_false, Bool.not_true, Bool.not_false, List.mem_cons, List.not_mem_nil, true_or, or_true, false_or, or_false, and_true, true_and, and_self, List.getElem?_cons_succ, List.getElem?_cons_zero, Option.bind_some, Option.map_some, Option.map_none, List.map_cons, List.map_nil, List.length_cons, List.length_nil, List.filterMap_cons, List.filterMap_nil, List.cons_append, List.nil_append, List.append_nil, Nat.zero_add, Nat.add_zero, List.take_succ_cons, List.take_zero, List.take_nil, List.drop_succ_cons, List.drop_zero, List.drop_nil, List.all_cons, List.all_nil, Bool.and_true, Bool.true_and, Bool.false_and, Bool.and_false, reduceCtorEq, beq_iff_eq, beq_self_eq_true, Int.reduceEq, Int.reduceLT, Int.reduceLE, List.zip_cons_cons, List.zip_nil_right, List.zip_nil_left, setT_nil, setT_cons, intA, h1]
    have : a ≠ a' := of_decide_eq_false h1
    rw [if_pos this]
  · have e1 : a = a' := of_decide_eq_true h1
    rw [if_neg (by simpa using e1)]
    cases h2 : decide (b = b')
    · simp -implicitDefEqProofs only [Tryz.f18, go_sem, repeatCells, splice, chunk, bsFin, ne_eq, not_true_eq_false, not_false_eq_true, List.headD_cons, Bool.false_eq_true, Nat.le_refl, Nat.zero_mul, Nat.one_mul, Nat.mul_one, assoc_setI, assoc_keep, ↓reduceIte, Nat.reduceEqDiff, Nat.reduceLT, Nat.reduceLeDiff, Nat.reduceAdd, Nat.reduceSub, Nat.reduceMul, decide_true, decide_false, Bool.not_true, Bool.not_false, List.mem_cons, List.not_mem_nil, true_or, or_true, false_or, or_false, and_true, true_and, and_self, List.getElem?_cons_succ, List.getElem?_cons_zero, Option.bind_some, Option.map_some, Option.map_none, List.map_cons, List.map_nil, List.length_cons, List.length_nil, List.filterMap_cons, List.filterMap_nil, List.cons_append, List.nil_append, List.append_nil, Nat.zero_add, Nat.add_zero, List.take_succ_cons, List.take_zero, List.take_nil, List.drop_succ_cons, List.drop_zero, List.drop_nil, List.all_cons, List.all_nil, Bool.and_true, Bool.true_and, Bool.false_and, Bool.and_false, reduceCtorEq, beq_iff_eq, beq_self_eq_true, Int.reduceEq, Int.reduceLT, Int.reduceLE, List.zip_cons_cons, List.zip_nil_right, List.zip_nil_left, setT_nil, setT_cons, intA, h1, h2]
      have : b ≠ b' := of_decide_eq_false h2
      rw [if_pos this]
    · have e2 : b = b' := of_decide_eq_true h2
      rw [if_neg (by simpa using e2)]
      simp -implicitDefEqProofs only [Tryz.f18, go_sem, repeatCells, splice, chunk, bsFin, ne_eq, not_true_eq_false, not_false_eq_true, List.headD_cons, Bool.false_eq_true, Nat.le_refl, Nat.zero_mul, Nat.one_mul, Nat.mul_one, assoc_setI, assoc_keep, ↓reduceIte, Nat.reduceEqDiff, Nat.reduceLT, Nat.reduceLeDiff, Nat.reduceAdd, Nat.reduceSub, Nat.reduceMul, decide_true, decide_false, Bool.not_true, Bool.not_false, List.mem_cons, List.not_mem_nil, true_or, or_true, false_or, or_false, and_true, true_and, and_self, List.getElem?_cons_succ, List.getElem?_cons_zero, Option.bind_some, Option.map_some, Option.map_none, List.map_cons, List.map_nil, List.length_cons, List.length_nil, List.filterMap_cons, List.filterMap_nil, List.cons_append, List.nil_append, List.append_nil, Nat.zero_add, Nat.add_zero, List.take_succ_cons, List.take_zero, List.take_nil, List.drop_succ_cons, List.drop_zero, List.drop_nil, List.all_cons, List.all_nil, Bool.and_true, Bool.true_and, Bool.false_and, Bool.and_false, reduceCtorEq, beq_iff_eq, beq_self_eq_true, Int.reduceEq, Int.reduceLT, Int.reduceLE, List.zip_cons_cons, List.zip_nil_right, List.zip_nil_left, setT_nil, setT_cons, intA, h1, h2]
theorem call18 {e : Exts} (he : Quiet e) (a b c a' b' c' : Int) (me : FuncId) (d : Option Tmp) (H : Heap) : callA (Cx e) (lim (Cx e)) me 18 d [.agg [.v (.int .i64 a), .v (.int .i64 b), .v (.int .i64 c)], .agg [.v (.int .i64 a'), .v (.int .i64 b'), .v (.int .i64 c')]] H = some (.v (.bool (beforeB (a, b, c) (a', b', c'))), H) :=
  (ans18 a b c a' b' c').call (ext_18 he) (pure_18 _ _ _) rfl H
end Go.Ev
/- Functions that stand for themselves: what is known of them. -/
namespace Go.Ev

theorem cmp_bytes : ∀ (a b : List UInt8), Lib.compareBytes a b = if bytesLt a b then -1 else if bytesLt b a then 1 else 0
  | [], [] => by simp [Lib.compareBytes, bytesLt]
  | [], _ :: _ => by simp [Lib.compareBytes, bytesLt]
  | _ :: _, [] => by simp [Lib.compareBytes, bytesLt]
  | x :: a, y :: b => by
    have ih := cmp_bytes a b
    unfold Lib.compareBytes bytesLt
    simp only [UInt8.lt_iff_toNat_lt]
    by_cases h1 : x.toNat < y.toNat
    · have e1 : Nat.blt x.toNat y.toNat = true := Nat.ble_eq_true_of_le h1
      simp [h1, e1]
    · have e1 : Nat.blt x.toNat y.toNat = false := by
        cases hb : Nat.blt x.toNat y.toNat
        · rfl
        · exact absurd (Nat.le_of_ble_eq_true hb) h1
      by_cases h2 : y.toNat < x.toNat
      · have e2 : Nat.blt y.toNat x.toNat = true := Nat.ble_eq_true_of_le h2
        have e3 : (x.toNat == y.toNat) = false := by simp; omega
        simp [h1, h2, e1, e2, e3]
      · have e2 : Nat.blt y.toNat x.toNat = false := by
          cases hb : Nat.blt y.toNat x.toNat
          · rfl
          · exact absurd (Nat.le_of_ble_eq_true hb) h2
        have e3 : x.toNat = y.toNat := by omega
        simp [h1, h2, e1, e2, e3, ih]

theorem ext_cmp {P : Program} {f : FuncId} {fn : Func} (hf : P.funcs[f]? = some fn) (hb : fn.body = none) (hn : (fn.name == "runtime.NumGoroutine") = false) (h1 : (Extern.findNext fn).isNone = true) (h2 : Extern.find fn = some Extern.BytealgCompare.compare)
    {args : List AV} {v : AV} (h : cmpStr args = some v) (Z : Fzn) (ρ : Pls) (H : Heap) (w : World) (vals : List Value) (hs : Sim Z ρ H w) (hl : RepL Z ρ args vals) : FnMeets P f vals w (After Z ρ H w v H) := by
  unfold cmpStr at h
  split at h
  · rename_i a b
    obtain ⟨v1, ws, rfl, hv1, hl⟩ := hl.uncons
    obtain ⟨v2, ws, rfl, hv2, hl⟩ := hl.uncons
    have : ws = [] := by have := hl.1; exact List.length_eq_zero_iff.1 this.symm
    subst this
    obtain ⟨rfl, -⟩ := hv1.v_inv
    obtain ⟨rfl, -⟩ := hv2.v_inv
    simp only [Option.some.injEq] at h
    subst h
    refine Or.inl ⟨.int .i64 (Lib.compareBytes a.data.toList b.data.toList), w, ?_, Z, ρ, ?_, hs, Ext.refl _ _ _ _⟩
    · have hfn : Extern.findNext fn = none := Option.isNone_iff_eq_none.1 h1
      have := Lib.run_compareString (P := P) a b w
      have hn' : ¬ fn.name = "runtime.NumGoroutine" := by
        intro e; rw [e] at hn; simp at hn
      simp [callFunc, hf, hn', hb, hfn, h2, this]
    · rw [cmp_bytes]; exact .v rfl
  · cases h

/-- what a function with code answers on closed arguments, it may stand for -/
theorem ext_of_ans {C : Cfg} (hgo : NoGo C.P) (hm : C.P.follows .mixedOrders = true) (hext : ExtOK C) {f : FuncId} {args : List AV} {v : AV} (h : Ans C f args v) (hb : boundL args = 0)
    (Z : Fzn) (ρ : Pls) (H : Heap) (w : World) (vals : List Value) (hs : Sim Z ρ H w) (hl : RepL Z ρ args vals) : FnMeets C.P f vals w (After Z ρ H w v H) := by
  obtain ⟨x, H', h1, h2⟩ := Ans.iff.1 h
  obtain ⟨n, hn⟩ := lim_iff.1 h1
  have hrec : RecOK C.P (evT C n) := (ev_sound hgo hext (draw_ok hm hext) n).1
  let D : Cfg := { C with pure := fun _ _ _ => true }
  have hk : callKind D f f none args = 1 := by unfold callKind; rw [hb]; rfl
  have hB : callB D (evT C n) f f none args H = some (v, H) := by
    unfold callB; rw [hk]; simp only [hn, h2, Option.map_some]
  obtain ⟨hbody, hc⟩ := callB_sound (C := D) hrec hs hl hB
  exact Or.inr ⟨hbody.run _ _, hc⟩

/-- more functions that stand for themselves -/
def moreExt (e : FuncId → Option (List AV → Option AV)) (f : FuncId) (g : List AV → Option AV) : FuncId → Option (List AV → Option AV) := fun f' => if Nat.beq f' f then some g else e f'
theorem extOK_more {C C' : Cfg} (hP : C'.P = C.P) {f : FuncId} {g : List AV → Option AV} (hg : ∀ args v, g args = some v → ∀ (Z : Fzn) (ρ : Pls) (H : Heap) (w : World) (vals : List Value), Sim Z ρ H w → RepL Z ρ args vals → FnMeets C.P f vals w (After Z ρ H w v H))
    (hext : ExtOK C) (he : C'.ext = moreExt C.ext f g) : ExtOK C' := by
  intro f' g' hf' args v hv Z ρ H w vals hs hl
  rw [hP]
  rw [he] at hf'
  unfold moreExt at hf'
  split at hf'
  · rename_i hb
    have := Nat.eq_of_beq_eq_true hb
    subst this
    simp only [Option.some.injEq] at hf'
    subst hf'
    exact hg args v hv Z ρ H w vals hs hl
  · exact hext f' g' hf' args v hv Z ρ H w vals hs hl

/-! ### answers that are told by heart -/
def eqV : Value → Value → Bool
  | .int k n, .int k' n' => decide (k = k') && decide (n = n')
  | .bool a, .bool b => a == b
  | .string a, .string b => bytesEq a.data.toList b.data.toList
  | .slice none 0 0, .slice none 0 0 => true
  | _, _ => false
theorem eqV_eq {x y : Value} (h : eqV x y = true) : x = y := by
  unfold eqV at h
  split at h
  · simp at h; rw [h.1, h.2]
  · simp at h; rw [h]
  · rw [bytesEq_iff, decide_eq_true_eq, ← str_ext] at h; rw [h]
  · rfl
  · cases h
def listEq (f : AV → AV → Bool) : List AV → List AV → Bool
  | [], [] => true
  | x :: r, y :: s => f x y && listEq f r s
  | _, _ => false
theorem listEq_eq {f : AV → AV → Bool} (hf : ∀ x y, f x y = true → x = y) : ∀ {l m : List AV}, listEq f l m = true → l = m
  | [], [], _ => rfl
  | [], _ :: _, h => by simp [listEq] at h
  | _ :: _, [], h => by simp [listEq] at h
  | x :: r, y :: s, h => by
    simp only [listEq, Bool.and_eq_true] at h
    rw [hf _ _ h.1, listEq_eq hf h.2]
def capEq : Option Nat → Option Nat → Bool
  | none, none => true
  | some k, some k' => Nat.beq k k'
  | _, _ => false
theorem capEq_eq {c c' : Option Nat} (h : capEq c c' = true) : c = c' := by
  unfold capEq at h
  split at h
  · rfl
  · rw [Nat.eq_of_beq_eq_true h]
  · cases h
def eqStep (rec : AV → AV → Bool) (x y : AV) : Bool :=
  match x, y with
  | .v x, .v y => eqV x y
  | .agg a, .agg b => listEq rec a b
  | .vs s a c, .vs s' a' c' => Nat.beq s s' && listEq rec a a' && capEq c c'
  | _, _ => false
def eqA (n : Nat) : AV → AV → Bool := Nat.rec (fun _ _ => false) (fun _ rec => eqStep rec) n
theorem eqA_eq : ∀ (n : Nat) (x y : AV), eqA n x y = true → x = y
  | 0, _, _, h => by cases h
  | n + 1, x, y, h => by
    have h' : eqStep (eqA n) x y = true := h
    unfold eqStep at h'
    split at h'
    · rw [eqV_eq h']
    · rw [listEq_eq (eqA_eq n) h']
    · simp only [Bool.and_eq_true] at h'
      obtain ⟨⟨h1, h2⟩, h3⟩ := h'
      rw [Nat.eq_of_beq_eq_true h1, listEq_eq (eqA_eq n) h2, capEq_eq h3]
    · cases h'
/-- the answer at these arguments -/
def atArgs (K : List AV) (R : AV) : List AV → Option AV := fun args => if listEq (eqA 30) args K then some R else none
theorem atArgs_some {K : List AV} {R : AV} {args : List AV} {v : AV} (h : atArgs K R args = some v) : args = K ∧ v = R := by
  unfold atArgs at h
  split at h
  · rename_i hq
    exact ⟨listEq_eq (eqA_eq 30) hq, by simpa using h.symm⟩
  · cases h
end Go.Ev
namespace Go.Ev
open Go.Proofs
set_option maxRecDepth 100000
set_option linter.unusedSimpArgs false
theorem conv_u16 (n : Int) : convA Tryz.prog 25 3 (.v (.int .u16 n)) = some (.v (.int .i64 (IntKind.i64.wrap n))) := by kernel_rfl
theorem bool4 (x y : Operand) (u w : Bool) : binA Tryz.prog .eql 4 x y (.v (.bool u)) (.v (.bool w)) = some (.v (.bool (u == w))) := by cases u <;> cases w <;> kernel_rfl
theorem bin_rem {P : Program} {t : TypeId} {k : IntKind} (x y : Operand) (m n : Int) (hn : n ≠ 0) : binA P .rem t x y (.v (.int k m)) (.v (.int k n)) = some (.v (.int k (Int.tmod m n))) := by
  unfold binA
  simp only [binOp, Op.intDiv, ne_eq, not_true_eq_false, if_false, hn]
  rfl
/-- the law's own first test, told by heart -/
theorem call12 {e : Exts} (hx : e 12 = some (atArgs [] (.v (.bool true)))) (me : FuncId) (d : Option Tmp) (H : Heap) : callA (Cx e) (lim (Cx e)) me 12 d [] H = some (.v (.bool true), H) := by
  have h : (Cx e).ext 12 = some (atArgs [] (.v (.bool true))) := hx
  unfold callA
  rw [h]; rfl
theorem call14 {e : Exts} (he : Quiet e) (t : Txt) (ht : Fits t) (ch : AV) (xs : List AV) (hch : SlOf 2 xs ch) (hall : All2 ChapA t xs) (h1 : textB t = true) (me : FuncId) (d : Option Tmp) (H : Heap) : callA (Cx e) (lim (Cx e)) me 14 d [.agg [ch]] H = some (.tup [.v (.int .i64 (wordsT 0 t).length), .v (.int .i64 0)], H) := by
  have h := ans14 he t ht ch xs hch hall
  have hn := wordsT_small (small_of h1)
  rw [h1, if_pos rfl, allIts_eq hall, List.length_map, wrap_nat _ (by omega)] at h
  exact h.call (ext_14 he) (pure_14 _ _ _) (by simp only [boundL_cons, bound_agg, hch.bound, boundL_nil]; rfl) H
theorem call15 {e : Exts} (he : Quiet e) (t : Txt) (ht : Fits t) (ch : AV) (xs : List AV) (hch : SlOf 2 xs ch) (hall : All2 ChapA t xs) (n : Int) (me : FuncId) (d : Option Tmp) (H : Heap) : callA (Cx e) (lim (Cx e)) me 15 d [.agg [ch], .v (.int .i64 n)] H = some (placeOfR t n, H) :=
  (ans15 he t ht ch xs hch hall n).call (ext_15 he) (pure_15 _ _ _) (by simp only [boundL_cons, bound_agg, hch.bound, boundL_nil, intA, bound_v]; rfl) H
theorem call16 {e : Exts} (he : Quiet e) (t : Txt) (ht : Fits t) (ch : AV) (xs : List AV) (hch : SlOf 2 xs ch) (hall : All2 ChapA t xs) (h1 : textB t = true) (n : Nat) (x : Plc × ByteArray) (hx : (wordsT 0 t)[n]? = some x) (me : FuncId) (d : Option Tmp) (H : Heap) : callA (Cx e) (lim (Cx e)) me 16 d [.agg [ch], .agg [.v (.int .i64 x.1.1), .v (.int .i64 x.1.2.1), .v (.int .i64 x.1.2.2)]] H = some (.tup [.v (.int .i64 n), .v (.int .i64 0)], H) :=
  (ans16 he t ht ch xs hch hall h1 n x hx).call (ext_16 he) (pure_16 _ _ _) (by simp only [plN, boundL_cons, bound_agg, hch.bound, boundL_nil, intA, bound_v]; rfl) H
theorem placeOf_in {t : Txt} (h1 : textB t = true) {n : Nat} {x : Plc × ByteArray} (hx : (wordsT 0 t)[n]? = some x) : placeOfR t n = .tup [.agg [.v (.int .i64 x.1.1), .v (.int .i64 x.1.2.1), .v (.int .i64 x.1.2.2)], .v (.int .i64 0)] := by
  have hl := (List.getElem?_eq_some_iff.1 hx).1
  unfold placeOfR placeR
  rw [h1, if_pos rfl, if_pos (by omega)]
  simp [hx, plN, intA]
theorem placeOf_out {t : Txt} (h1 : textB t = true) {n : Int} (h : ¬ (0 ≤ n ∧ n < (wordsT 0 t).length)) : placeOfR t n = .tup [.agg [.v (.int .i64 0), .v (.int .i64 0), .v (.int .i64 0)], .v (.int .i64 2)] := by
  unfold placeOfR placeR
  rw [h1, if_pos rfl, if_neg h]; rfl
theorem place_in {t : Txt} {n : Nat} {x : Plc × ByteArray} (hx : (wordsT 0 t)[n]? = some x) : placeB' t x.1.1 x.1.2.1 x.1.2.2 = true := by
  obtain ⟨m, k, w, c, l, h1, h2, h3, h4⟩ := (wordsT_mem t 0 x).1 (List.mem_of_getElem? hx)
  have hw := (List.getElem?_eq_some_iff.1 h4).1
  rw [h1]
  unfold placeB' lineAt
  rw [if_pos (by constructor <;> omega)]
  simp only [Int.toNat_natCast, Nat.zero_add, h2, Option.bind_some, h3]
  simpa using hw
theorem before_in {t : Txt} {i k : Nat} {x y : Plc × ByteArray} (hx : (wordsT 0 t)[i]? = some x) (hy : (wordsT 0 t)[k]? = some y) : beforeB ((x.1.1 : Int), (x.1.2.1 : Int), (x.1.2.2 : Int)) ((y.1.1 : Int), (y.1.2.1 : Int), (y.1.2.2 : Int)) = decide ((i : Int) < k) ∧ eqP x.1.1 x.1.2.1 x.1.2.2 y.1.1 y.1.2.1 y.1.2.2 = decide ((i : Int) = k) := by
  unfold beforeB eqP
  rcases Nat.lt_trichotomy i k with h | h | h
  · have hl := up_lt (wordsT_up t 0) hx hy h
    unfold plLt at hl
    rw [decide_eq_true (by omega : (i : Int) < k), decide_eq_false (by omega : ¬ (i : Int) = k)]
    simp only
    refine ⟨?_, ?_⟩
    · split
      · simp; omega
      · split
        · simp; omega
        · simp; omega
    · simp only [Bool.and_eq_false_iff, decide_eq_false_iff_not]; omega
  · subst h
    rw [hx] at hy
    cases hy
    simp
  · have hl := up_lt (wordsT_up t 0) hy hx h
    unfold plLt at hl
    rw [decide_eq_false (by omega : ¬ (i : Int) < k), decide_eq_false (by omega : ¬ (i : Int) = k)]
    simp only
    refine ⟨?_, ?_⟩
    · split
      · simp; omega
      · split
        · simp; omega
        · simp; omega
    · simp only [Bool.and_eq_false_iff, decide_eq_false_iff_not]; omega
set_option maxHeartbeats 4000000 in
theorem ans3 {e : Exts} (he : Quiet e) (hx : e 12 = some (atArgs [] (.v (.bool true)))) (t : Txt) (ht : Fits t) (ch : AV) (xs : List AV) (hch : SlOf 2 xs ch) (hall : All2 ChapA t xs) (o w : Nat) (ho : o < 65536) (hw : w < 65536) : Ans (Cx e) 3 [.agg [ch], .v (.int .u16 o), .v (.int .u16 w)] (.v (.bool true)) := by
  have h13 := call13 he t ht _ ⟨ch, rfl, xs, hch, hall⟩
  unfold Ans
  rw [fn_step (fn_3 e) (show Tryz.f3.body = some _ from rfl)]
  cases h1 : readyB t
  · rw [h1] at h13
    simp -implicitDefEqProofs only [Tryz.f3, go_sem, repeatCells, splice, chunk, bsFin, ne_eq, not_true_eq_false, not_false_eq_true, List.headD_cons, Bool.false_eq_true, Nat.le_refl, Nat.zero_mul, Nat.one_mul, Nat.mul_one, assoc_setI, assoc_keep, ↓reduceIte, Nat.reduceEqDiff, Nat.reduceLT, Nat.reduceLeDiff, Nat.reduceAdd, Nat.reduceSub, Nat.reduceMul, decide_true, decide_false, Bool.not_true, Bool.not_false, List.mem_cons, List.not_mem_nil, true_or, or_true, false_or, or_false, and_true, true_and, and_self, List.getElem?_cons_succ, List.getElem?_cons_zero, Option.bind_some, Option.map_some, Option.map_none, List.map_cons, List.map_nil, List.length_cons, List.length_nil, List.filterMap_cons, List.filterMap_nil, List.cons_append, List.nil_append, List.append_nil, Nat.zero_add, Nat.add_zero, List.take_succ_cons, List.take_zero, List.take_nil, List.drop_succ_cons, List.drop_zero, List.drop_nil, List.all_cons, List.all_nil, Bool.and_true, Bool.true_and, Bool.false_and, Bool.and_false, reduceCtorEq, beq_iff_eq, beq_self_eq_true, Int.reduceEq, Int.reduceLT, Int.reduceLE, List.zip_cons_cons, List.zip_nil_right, List.zip_nil_left, setT_nil, setT_cons, intA, hch.cells, hch.flat, hch.bound, call12 hx, h13]
  · rw [h1] at h13
    have hT : textB t = true := by unfold readyB at h1; simp only [Bool.and_eq_true] at h1; exact h1.2
    have hn := wordsT_small (small_of hT)
    have h14 := call14 he t ht ch xs hch hall hT
    generalize hN : (wordsT 0 t).length = N at hn h14
    have hlt : ¬ ((N : Int) < 1) := by omega
    have hw1 := wrap_nat o (by omega)
    have hw2 := wrap_nat w (by omega)
    have hN0 : (N : Int) ≠ 0 := by omega
    have hr : ∀ (x y : Operand) (m : Int), binA Tryz.prog .rem 3 x y (.v (.int .i64 m)) (.v (.int .i64 N)) = some (.v (.int .i64 (Int.tmod m N))) := fun x y m => bin_rem x y m N hN0
    have hm1 : Int.tmod (o : Int) (N : Int) = ((o % N : Nat) : Int) := rfl
    have hm2 : Int.tmod (w : Int) (N : Int) = ((w % N : Nat) : Int) := rfl
    obtain ⟨x, hx1⟩ := at_lt (wordsT 0 t) (o % N) (by rw [hN]; exact Nat.mod_lt _ (by omega))
    obtain ⟨y, hy1⟩ := at_lt (wordsT 0 t) (w % N) (by rw [hN]; exact Nat.mod_lt _ (by omega))
    generalize o % N = i at hm1 hx1
    generalize w % N = k at hm2 hy1
    have c1 := call15 he t ht ch xs hch hall i
    rw [placeOf_in hT hx1] at c1
    have c2 := call15 he t ht ch xs hch hall k
    rw [placeOf_in hT hy1] at c2
    have c3 := call16 he t ht ch xs hch hall hT i x hx1
    have c4 := call15 he t ht ch xs hch hall (N : Int)
    rw [placeOf_out hT (by omega)] at c4
    have c5 := call15 he t ht ch xs hch hall (-1)
    rw [placeOf_out hT (by omega)] at c5
    have c6 := call17 he t ht ch xs hch hall x.1.1 x.1.2.1 x.1.2.2
    rw [place_in hx1] at c6
    have c7 := call18 he x.1.1 x.1.2.1 x.1.2.2 y.1.1 y.1.2.1 y.1.2.2
    have hb := before_in hx1 hy1
    rw [hb.1] at c7
    simp -implicitDefEqProofs only [Tryz.f3, go_sem, repeatCells, splice, chunk, bsFin, ne_eq, not_true_eq_false, not_false_eq_true, List.headD_cons, Bool.false_eq_true, Nat.le_refl, Nat.zero_mul, Nat.one_mul, Nat.mul_one, assoc_setI, assoc_keep, ↓reduceIte, Nat.reduceEqDiff, Nat.reduceLT, Nat.reduceLeDiff, Nat.reduceAdd, Nat.reduceSub, Nat.reduceMul, decide_true, decide_false, Bool.not_true, Bool.not_false, List.mem_cons, List.not_mem_nil, true_or, or_true, false_or, or_false, and_true, true_and, and_self, List.getElem?_cons_succ, List.getElem?_cons_zero, Option.bind_some, Option.map_some, Option.map_none, List.map_cons, List.map_nil, List.length_cons, List.length_nil, List.filterMap_cons, List.filterMap_nil, List.cons_append, List.nil_append, List.append_nil, Nat.zero_add, Nat.add_zero, List.take_succ_cons, List.take_zero, List.take_nil, List.drop_succ_cons, List.drop_zero, List.drop_nil, List.all_cons, List.all_nil, Bool.and_true, Bool.true_and, Bool.false_and, Bool.and_false, reduceCtorEq, beq_iff_eq, beq_self_eq_true, Int.reduceEq, Int.reduceLT, Int.reduceLE, List.zip_cons_cons, List.zip_nil_right, List.zip_nil_left, setT_nil, setT_cons, intA, hch.cells, hch.flat, hch.bound, call12 hx, h13, h14, hlt]
    refine wp_draw (by kernel_rfl) ?_
    simp -implicitDefEqProofs only [go_sem, repeatCells, splice, chunk, bsFin, ne_eq, not_true_eq_false, not_false_eq_true, List.headD_cons, Bool.false_eq_true, Nat.le_refl, Nat.zero_mul, Nat.one_mul, Nat.mul_one, assoc_setI, assoc_keep, ↓reduceIte, Nat.reduceEqDiff, Nat.reduceLT, Nat.reduceLeDiff, Nat.reduceAdd, Nat.reduceSub, Nat.reduceMul, decide_true, decide_false, Bool.not_true, Bool.not_false, List.mem_cons, List.not_mem_nil, true_or, or_true, false_or, or_false, and_true, true_and, and_self, List.getElem?_cons_succ, List.getElem?_cons_zero, Option.bind_some, Option.map_some, Option.map_none, List.map_cons, List.map_nil, List.length_cons, List.length_nil, List.filterMap_cons, List.filterMap_nil, List.cons_append, List.nil_append, List.append_nil, Nat.zero_add, Nat.add_zero, List.take_succ_cons, List.take_zero, List.take_nil, List.drop_succ_cons, List.drop_zero, List.drop_nil, List.all_cons, List.all_nil, Bool.and_true, Bool.true_and, Bool.false_and, Bool.and_false, reduceCtorEq, beq_iff_eq, beq_self_eq_true, Int.reduceEq, Int.reduceLT, Int.reduceLE, List.zip_cons_cons, List.zip_nil_right, List.zip_nil_left, setT_nil, setT_cons, intA, conv_u16, hw1, hw2, hr, hm1, hm2, hch.cells, hch.flat, hch.bound, c1, c2, c3, c4, c5, c6, c7, eq32, hb.2, bool4]
end Go.Ev
/- From what a statement says of its arguments to values of the evaluator, and back. -/
namespace Go.Ev

/-- the fields lie one behind the other, from k on up to the end -/
def tiled (P : Program) : Nat → List Field → Nat → Bool
  | k, [], e => k == e
  | k, f :: r, e => f.offset == k && tiled P (k + P.cellsOf f.type) r e

/-- types of plain data, by depth -/
def plainT (P : Program) : Nat → TypeId → Bool
  | 0, _ => false
  | n + 1, t =>
    match P.underlying t with
    | some .bool => true
    | some (.int _) => true
    | some .string => true
    | some (.slice e) => decide (0 < P.cellsOf e) && plainT P n e
    | some (.struct fs) => tiled P 0 fs.toList (P.cellsOf t) && fs.toList.all fun f => plainT P n f.type
    | _ => false

/-- an element of a slice, of its cells -/
def elemOf (cs : List AV) : AV := match cs with | [c] => c | cs => .agg cs

/-- what plain data is -/
def Plain (P : Program) : Nat → TypeId → List AV → Prop
  | 0, _, _ => False
  | n + 1, t, cs =>
    match P.underlying t with
    | some .bool => ∃ b, cs = [.v (.bool b)]
    | some (.int k) => ∃ m, cs = [.v (.int k m)] ∧ (Lit.int k m).wf = true
    | some .string => ∃ s, cs = [.v (.string s)] ∧ s.size ≤ maxLen
    | some (.slice e) => ∃ x xs, cs = [x] ∧ SlOf (P.cellsOf e) xs x ∧ xs.length ≤ maxLen ∧ ∀ y ∈ xs, ∃ c, y = elemOf c ∧ c.length = P.cellsOf e ∧ Plain P n e c
    | some (.struct fs) => cs.length = P.cellsOf t ∧ ∀ f ∈ fs.toList, Plain P n f.type ((cs.drop f.offset).take (P.cellsOf f.type))
    | _ => False

theorem elem_cells {cs : List AV} (h : ∀ c ∈ cs, c.flat = true) : (elemOf cs).cells = cs := by
  unfold elemOf
  split
  · rename_i c
    have := h c (by simp)
    cases c <;> simp_all [AV.cells, AV.flat]
  · rfl

theorem exists_list {α : Type} {Q : Nat → α → Prop} : ∀ (n : Nat), (∀ i, i < n → ∃ y, Q i y) → ∃ l : List α, l.length = n ∧ ∀ i y, l[i]? = some y → Q i y
  | 0, _ => ⟨[], rfl, fun i y h => by simp at h⟩
  | n + 1, h => by
    obtain ⟨l, hl, hq⟩ := exists_list n fun i hi => h i (by omega)
    obtain ⟨y, hy⟩ := h n (by omega)
    refine ⟨l ++ [y], by simp [hl], fun i z hz => ?_⟩
    by_cases hi : i < l.length
    · rw [List.getElem?_append_left hi] at hz; exact hq i z hz
    · have hlt := (List.getElem?_eq_some_iff.1 hz).1
      simp at hlt
      have : i = l.length := by omega
      subst this
      simp at hz; subst hz; rw [hl]; exact hy

theorem tile_rep {Z : Fzn} {ρ : Pls} {P : Program} {Q : Field → List AV → Prop} : ∀ (fs : List Field) (k e : Nat) (cs : List Value), tiled P k fs e = true → cs.length = e →
    (∀ f ∈ fs, ∃ a, RepL Z ρ a ((cs.drop f.offset).take (P.cellsOf f.type)) ∧ Q f a ∧ ∀ c ∈ a, c.flat = true) →
    k ≤ e → ∃ A, RepL Z ρ A (cs.drop k) ∧ (∀ c ∈ A, c.flat = true) ∧ ∀ f ∈ fs, k ≤ f.offset ∧ f.offset + P.cellsOf f.type ≤ e ∧ Q f ((A.drop (f.offset - k)).take (P.cellsOf f.type))
  | [], k, e, cs, ht, hl, _, _ => by
    have : k = e := by simpa [tiled] using ht
    subst this
    refine ⟨[], ?_, by simp, by simp⟩
    rw [List.drop_of_length_le (by omega)]; exact RepL.nil
  | f :: r, k, e, cs, ht, hl, hf, hk => by
    simp only [tiled, Bool.and_eq_true, beq_iff_eq] at ht
    obtain ⟨ho, ht⟩ := ht
    have hle : ∀ (fs : List Field) (k : Nat), tiled P k fs e = true → k ≤ e := by
      intro fs
      induction fs with
      | nil => intro k h; have : k = e := by simpa [tiled] using h
               omega
      | cons g s ih => intro k h; simp only [tiled, Bool.and_eq_true] at h; have := ih _ h.2; omega
    have hle' := hle _ _ ht
    obtain ⟨A, hA, hAf, hAq⟩ := tile_rep r (k + P.cellsOf f.type) e cs ht hl (fun g hg => hf g (List.mem_cons_of_mem _ hg)) hle'
    obtain ⟨a, ha, hq, haf⟩ := hf f List.mem_cons_self
    have hal : a.length = P.cellsOf f.type := by rw [ha.1]; simp; omega
    refine ⟨a ++ A, ?_, ?_, ?_⟩
    · have : cs.drop k = (cs.drop f.offset).take (P.cellsOf f.type) ++ cs.drop (k + P.cellsOf f.type) := by
        rw [ho, ← List.drop_drop]; exact (List.take_append_drop _ _).symm
      rw [this]; exact ha.append hA
    · intro c hc
      rcases List.mem_append.1 hc with h | h
      · exact haf c h
      · exact hAf c h
    · intro g hg
      rcases List.mem_cons.1 hg with rfl | hg
      · refine ⟨by omega, by omega, ?_⟩
        rw [ho, Nat.sub_self, List.drop_zero, List.take_append_of_le_length (by omega), List.take_of_length_le (by omega)]
        exact hq
      · obtain ⟨h1, h2, h3⟩ := hAq g hg
        refine ⟨by omega, h2, ?_⟩
        have : (a ++ A).drop (g.offset - k) = A.drop (g.offset - (k + P.cellsOf f.type)) := by
          rw [List.drop_append, List.drop_of_length_le (by omega), List.nil_append, hal]; congr 1; omega
        rw [this]; exact h3

section
variable {HH : Type} {enc : TypeId × Value → HH} {P : Program} {w : World}

theorem cells_at {a : Addr} {n : Nat} {cs : List Value} (h : w.cells? 0 a n = some cs) (hn : 0 < n) : a.spot = none ∧ ∃ arr e fr, w.heap[a.block]? = some (.cells arr e fr) ∧ cs.length = n ∧ ∀ j, j < n → arr[a.off + j]? = cs[j]? := by
  obtain ⟨_, hl, hc⟩ := World.cells?_some h
  have h0 := hc 0 hn
  obtain ⟨c0, hc0⟩ : ∃ c0, cs[0]? = some c0 := ⟨cs[0]'(by omega), List.getElem?_eq_getElem _⟩
  have hsp : a.spot = none := by
    have := World.cell?_spot (h0.trans hc0)
    simpa [Addr.add] using this
  have hcell := h0.trans hc0
  have hb : ∀ j, (a.add j).block = a.block := by intro j; unfold Addr.add; split <;> rfl
  have hs : ∀ j, (a.add j).spot = none := by
    intro j; unfold Addr.add; split
    · exact hsp
    · rfl
  have ho : ∀ j, (a.add j).off = a.off + j := by
    intro j; unfold Addr.add; split
    · rename_i hj; subst hj; rfl
    · rfl
  refine ⟨hsp, ?_⟩
  unfold World.cell? at hcell
  rw [hb] at hcell
  split at hcell
  · rename_i arr e fr hh
    refine ⟨arr, e, fr, hh, hl, fun j hj => ?_⟩
    have := hc j hj
    unfold World.cell? at this
    rw [hb, hh] at this
    simp only [hs, ho, Option.isSome_none, Bool.false_eq_true, if_false] at this
    exact this
  · cases hcell

theorem plain_rep : ∀ (N t fuel : Nat) (cs : List Value) (x : DataW HH × List MemPlace), plainT P N t = true → DataW.trod enc P w 0 (fun _ => true) true fuel t cs = some x →
    ∃ A, RepL (allZ w) noPls A cs ∧ Plain P N t A ∧ ∀ c ∈ A, c.flat = true
  | 0, _, _, _, _, hp, _ => by simp [plainT] at hp
  | N + 1, t, fuel, cs, x, hp, h => by
    unfold plainT at hp
    cases hu : P.underlying t with
    | none => rw [hu] at hp; simp at hp
    | some u =>
      rw [hu] at hp
      cases u <;> simp only [Bool.false_eq_true] at hp
      case bool =>
        obtain ⟨b, rfl, -⟩ := DataW.trod_bool hu h
        exact ⟨[.v (.bool b)], RepL.cons (.v rfl) RepL.nil, by unfold Plain; rw [hu]; exact ⟨b, rfl⟩, by simp [AV.flat]⟩
      case int k =>
        obtain ⟨n, rfl, -, hw⟩ := DataW.trod_int hu h
        exact ⟨[.v (.int k n)], RepL.cons (.v rfl) RepL.nil, by unfold Plain; rw [hu]; exact ⟨n, rfl, hw⟩, by simp [AV.flat]⟩
      case string =>
        obtain ⟨n, rfl, -, hw⟩ := DataW.trod_string hu h
        exact ⟨[.v (.string n)], RepL.cons (.v rfl) RepL.nil, by unfold Plain; rw [hu]; exact ⟨n, rfl, hw⟩, by simp [AV.flat]⟩
      case struct fs =>
        rw [Bool.and_eq_true, List.all_eq_true] at hp
        obtain ⟨xs, n, -, -, hl, hlen, hf⟩ := DataW.trod_struct hu h
        have hall : ∀ f ∈ fs.toList, ∃ a, RepL (allZ w) noPls a ((cs.drop f.offset).take (P.cellsOf f.type)) ∧ Plain P N f.type a ∧ ∀ c ∈ a, c.flat = true := by
          intro f hfm
          obtain ⟨i, hi⟩ := List.getElem?_of_mem hfm
          have hi' : fs[i]? = some f := by simpa using hi
          have hxi := hf i f hi'
          have hlt : i < xs.length := by
            rw [hlen]
            have := (List.getElem?_eq_some_iff.1 hi).1
            simpa using this
          rw [List.getElem?_eq_getElem hlt] at hxi
          exact plain_rep N f.type n _ _ (hp.2 f hfm) hxi
        obtain ⟨A, hA, hAf, hAq⟩ := tile_rep fs.toList 0 (P.cellsOf t) cs hp.1 hl hall (Nat.zero_le _)
        rw [List.drop_zero] at hA
        refine ⟨A, hA, ?_, hAf⟩
        unfold Plain; rw [hu]
        refine ⟨by rw [hA.1]; exact hl, fun f hf => ?_⟩
        have := (hAq f hf).2.2
        rwa [Nat.sub_zero] at this
      case slice e =>
        simp only [Bool.and_eq_true, decide_eq_true_eq] at hp
        rcases DataW.trod_slice hu h with ⟨rfl, -⟩ | ⟨a, len, cap, elems, rest, n, -, rfl, -, -, hlc, hcm, hel, hget, -, -⟩
        · refine ⟨[.v (.slice none 0 0)], RepL.cons (.v rfl) RepL.nil, ?_, by simp [AV.flat]⟩
          unfold Plain; rw [hu]
          exact ⟨_, [], rfl, Or.inl ⟨rfl, rfl⟩, Nat.zero_le _, by simp⟩
        · have hone : ∀ i, i < len → ∃ y : AV, ∃ A ci, w.cells? 0 (a.add (i * P.cellsOf e)) (P.cellsOf e) = some ci ∧ RepL (allZ w) noPls A ci ∧ Plain P N e A ∧ (∀ c ∈ A, c.flat = true) ∧ y = elemOf A := by
            intro i hi
            have := hget i hi
            rw [List.getElem?_eq_getElem (by omega), Option.bind_eq_some_iff] at this
            obtain ⟨ci, hc1, hc2⟩ := this
            obtain ⟨A, h1, h2, h3⟩ := plain_rep N e n ci _ hp.2 hc2
            exact ⟨_, A, ci, hc1, h1, h2, h3, rfl⟩
          obtain ⟨xs, hxl, hxq⟩ := exists_list len hone
          have hsz : ∀ y ∈ xs, y.cells.length = P.cellsOf e := by
            intro y hy
            obtain ⟨i, hi⟩ := List.getElem?_of_mem hy
            obtain ⟨A, ci, h1, h2, h3, h4, rfl⟩ := hxq i y hi
            rw [elem_cells h4, h2.1]
            exact (World.cells?_some h1).2.1
          have hplain : Plain P (N + 1) t [.vs (P.cellsOf e) xs (some cap)] := by
            unfold Plain; rw [hu]
            refine ⟨_, xs, rfl, Or.inr ⟨_, rfl⟩, by omega, fun y hy => ?_⟩
            obtain ⟨i, hi⟩ := List.getElem?_of_mem hy
            obtain ⟨A, ci, h1, h2, h3, h4, rfl⟩ := hxq i y hi
            exact ⟨A, rfl, by rw [h2.1]; exact (World.cells?_some h1).2.1, h3⟩
          by_cases h0 : len = 0
          · subst h0
            have : xs = [] := List.length_eq_zero_iff.1 hxl
            subst this
            exact ⟨_, RepL.cons (.vs0 (by simp)) RepL.nil, hplain, by simp [AV.flat]⟩
          · -- the block
            have hpos := hp.1
            obtain ⟨y0, hy0⟩ : ∃ y, xs[0]? = some y := ⟨xs[0]'(by omega), List.getElem?_eq_getElem _⟩
            obtain ⟨A0, c0, hc0, -⟩ := hxq 0 y0 hy0
            obtain ⟨hsp0, arr, et, fr, hh, -, -⟩ := cells_at hc0 hpos
            have hb : ∀ j, (a.add j).block = a.block := by intro j; unfold Addr.add; split <;> rfl
            have ho : ∀ j, (a.add j).off = a.off + j := by
              intro j; unfold Addr.add; split
              · rename_i hj; subst hj; rfl
              · rfl
            rw [hb] at hh
            have hsp : a.spot = none := by simpa [Addr.add] using hsp0
            have hall : ∀ i j, i < len → j < P.cellsOf e → ∃ A ci, xs[i]? = some (elemOf A) ∧ (∀ c ∈ A, c.flat = true) ∧ RepL (allZ w) noPls A ci ∧ ci.length = P.cellsOf e ∧ arr[a.off + i * P.cellsOf e + j]? = ci[j]? := by
              intro i j hi hj
              obtain ⟨y, hy⟩ : ∃ y, xs[i]? = some y := ⟨xs[i]'(by omega), List.getElem?_eq_getElem _⟩
              obtain ⟨A, ci, h1, h2, h3, h4, rfl⟩ := hxq i y hy
              obtain ⟨-, arr', et', fr', hh', hl', hg⟩ := cells_at h1 hpos
              rw [hb, hh] at hh'
              obtain ⟨rfl, rfl, rfl⟩ : arr = arr' ∧ et = et' ∧ fr = fr' := by simpa using hh'
              have := hg j hj
              rw [ho] at this
              exact ⟨A, ci, hy, h4, h2, hl', this⟩
            have hfl : (xs.flatMap AV.cells).length = len * P.cellsOf e := by rw [flat_len hsz, hxl]
            have hfit : a.off + len * P.cellsOf e ≤ arr.size := by
              obtain ⟨A, ci, -, -, -, hl', hg⟩ := hall (len - 1) (P.cellsOf e - 1) (by omega) (by omega)
              rw [List.getElem?_eq_getElem (by omega)] at hg
              have := (Array.getElem?_eq_some_iff.1 hg).1
              have e1 : (len - 1) * P.cellsOf e + P.cellsOf e = len * P.cellsOf e := by
                have : len = (len - 1) + 1 := by omega
                conv => rhs; rw [this, Nat.succ_mul]
              omega
            refine ⟨[.vs (P.cellsOf e) xs (some cap)], RepL.cons ?_ RepL.nil, hplain, by simp [AV.flat]⟩
            have hval : (Value.slice (some a) len cap) = .slice (some ⟨a.block, (arr.toList.take a.off).length, none⟩) xs.length cap := by
              have : (arr.toList.take a.off).length = a.off := by simp; omega
              rw [this, hxl]; cases a; simp_all
            rw [hval]
            refine .vs (vs := (arr.toList.drop a.off).take (len * P.cellsOf e)) (post := (arr.toList.drop a.off).drop (len * P.cellsOf e)) (pre := arr.toList.take a.off) (e := et) (fz := fr) (arr := arr) hh ?_ hsz ?_ ?_ (by simp) (by omega)
            · rw [List.append_assoc, List.take_append_drop, List.take_append_drop]
            · rw [hfl]; simp; omega
            · intro i c v hc hv
              have hi := (List.getElem?_eq_some_iff.1 hc).1
              rw [hfl] at hi
              have hq : i / P.cellsOf e < len := Nat.div_lt_of_lt_mul (by rw [Nat.mul_comm]; exact hi)
              have hr : i % P.cellsOf e < P.cellsOf e := Nat.mod_lt _ hpos
              have hdm : i / P.cellsOf e * P.cellsOf e + i % P.cellsOf e = i := by rw [Nat.mul_comm]; exact Nat.div_add_mod _ _
              obtain ⟨A, ci, hx, hA, hR, hl', hg⟩ := hall _ _ hq hr
              have hfa := (flat_at hsz hx).1
              rw [elem_cells hA] at hfa
              have hcA : A[i % P.cellsOf e]? = some c := by
                rw [← hfa, List.getElem?_take, if_pos hr, List.getElem?_drop, hdm]; exact hc
              have hvA : ci[i % P.cellsOf e]? = some v := by
                rw [← hg]
                rw [List.getElem?_take, if_pos hi, List.getElem?_drop] at hv
                rw [show a.off + i / P.cellsOf e * P.cellsOf e + i % P.cellsOf e = a.off + i by omega]
                simpa using hv
              exact hR.2 _ _ _ hcA hvA

/-- what is not looked at of spare places -/
theorem plain_spare {base : Nat} {sp : Nat → Bool} : ∀ (N t fuel : Nat) (cs : List Value) (x : DataW HH × List MemPlace), plainT P N t = true → DataW.trod enc P w base (fun _ => true) true fuel t cs = some x →
    (∀ p ∈ x.2, sp p.block = true) → DataW.trod enc P w base sp true fuel t cs = some x
  | 0, _, _, _, _, hp, _, _ => by simp [plainT] at hp
  | N + 1, t, fuel, cs, x, hp, h, hs => by
    unfold plainT at hp
    cases fuel with
    | zero => simp [DataW.trod] at h
    | succ n =>
      cases hu : P.underlying t with
      | none => rw [hu] at hp; simp at hp
      | some u =>
        rw [hu] at hp
        cases u <;> simp only [Bool.false_eq_true] at hp
        case bool => obtain ⟨b, rfl, rfl⟩ := DataW.trod_bool hu h; rw [DataW.trod_step]; unfold DataW.trodStep; rw [hu]
        case int k => obtain ⟨m, rfl, rfl, hw⟩ := DataW.trod_int hu h; rw [DataW.trod_step]; unfold DataW.trodStep; rw [hu]; simp [hw]
        case string => obtain ⟨m, rfl, rfl, hw⟩ := DataW.trod_string hu h; rw [DataW.trod_step]; unfold DataW.trodStep; rw [hu]; simp [hw]
        case struct fs =>
          rw [Bool.and_eq_true, List.all_eq_true] at hp
          rw [DataW.trod_step] at h ⊢
          unfold DataW.trodStep at h ⊢
          rw [hu] at h ⊢
          simp only at h ⊢
          split at h
          · rename_i hl
            rw [if_pos hl]
            simp only [Option.map_eq_some_iff] at h ⊢
            obtain ⟨xs, hxs, rfl⟩ := h
            refine ⟨xs, mapM_carry hxs fun f y hf hy hfy => plain_spare N f.type n _ y (hp.2 f hf) hfy fun p hpm => hs p ?_, rfl⟩
            exact List.mem_flatMap.2 ⟨y, hy, hpm⟩
          · cases h
        case slice e =>
          simp only [Bool.and_eq_true, decide_eq_true_eq] at hp
          have h0 := h
          rw [DataW.trod_step] at h ⊢
          unfold DataW.trodStep at h ⊢
          rw [hu] at h ⊢
          rcases DataW.trod_slice hu h0 with ⟨rfl, rfl⟩ | ⟨a, len, cap, elems, rest, n', hn', rfl, rfl, -, hlc, hcm, hel, hget, hrest, -⟩
          · rfl
          · simp only at h ⊢
            split at h
            · rename_i hc
              rw [if_pos hc]
              simp only [if_true, Option.bind_eq_some_iff, Option.map_eq_some_iff] at h ⊢
              obtain ⟨es, hes, rs, hrs, heq⟩ := h
              have hin : ∀ y, y ∈ es ++ rs → ∀ p ∈ y.2, sp p.block = true := by
                intro y hy p hpm
                refine hs p ?_
                have := congrArg Prod.snd heq
                simp only at this
                rw [← this]
                exact List.mem_append_right _ (List.mem_flatMap.2 ⟨y, hy, hpm⟩)
              refine ⟨es, mapM_carry hes fun i y _ hy hfy => ?_, rs, ?_, heq⟩
              · obtain ⟨ci, h1, h2⟩ := Option.bind_eq_some_iff.1 hfy
                rw [h1]
                exact plain_spare N e n ci y hp.2 h2 (hin y (List.mem_append_left _ hy))
              · have hrl : rs.length = cap - len := by
                  have := mapM_some_length hrs
                  simpa using this
                by_cases hz : cap - len = 0
                · have : rs = [] := List.length_eq_zero_iff.1 (by omega)
                  subst this
                  split
                  · rw [hz] at hrs ⊢; exact hrs
                  · rfl
                · have hsp : sp a.block = true := by
                    have hel' : es.length = len := by
                      have := mapM_some_length hes
                      simpa using this
                    have := congrArg Prod.snd heq
                    simp only at this
                    have hm : MemPlace.cell a.block (a.off + 0) ∈ MemPlace.row a ((elems.length + rest.length) * P.cellsOf e) ++ (elems ++ rest).flatMap (·.2) := by
                      rw [← this]
                      refine List.mem_append_left _ (MemPlace.mem_row.2 ⟨0, ?_, rfl⟩)
                      exact Nat.mul_pos (by omega) hp.1
                    exact hs _ hm
                  rw [if_pos hsp]
                  refine mapM_carry hrs fun i y _ hy hfy => ?_
                  obtain ⟨ci, h1, h2⟩ := Option.bind_eq_some_iff.1 hfy
                  rw [h1]
                  exact plain_spare N e n ci y hp.2 h2 (hin y (List.mem_append_right _ hy))
            · cases h
end
end Go.Ev
/- A law: what the evaluator answers on all plain data is what the statement says. -/
namespace Go.Ev
open Go.ChangeShapes Go.WideShapes Go.ChangeAt Go.RowKit

/-- an argument of a type of plain data -/
def Arg (P : Program) (N : Nat) (t : TypeId) (x : AV) : Prop :=
  match P.underlying t with
  | some (.struct _) => ∃ A, x = .agg A ∧ Plain P N t A
  | _ => Plain P N t [x]

inductive ArgsOf (P : Program) (N : Nat) : List TypeId → List AV → Prop
  | nil : ArgsOf P N [] []
  | cons {t : TypeId} {ts : List TypeId} {x : AV} {xs : List AV} (h : Arg P N t x) (hs : ArgsOf P N ts xs) : ArgsOf P N (t :: ts) (x :: xs)

section
variable {HH : Type} {enc : TypeId × Value → HH} {P : Program} {w : World}

theorem arg_rep {N base : Nat} {t : TypeId} {v : Value} {d : DataW HH} {ps : List MemPlace} (hp : plainT P N t = true) (hok : Value.okWide P w .any base t v) (h : DataW.Trod enc P w 0 (fun _ => true) true t v d ps) :
    ∃ x, Rep (allZ w) noPls x v ∧ Arg P N t x := by
  obtain ⟨fuel, h⟩ := h
  obtain ⟨A, hA, hpl, hfl⟩ := plain_rep N t fuel _ _ hp h
  cases N with
  | zero => simp [plainT] at hp
  | succ N =>
    have one : ∀ (hv : v.cells.toList = [v]), (∃ c, A = [c]) → (∀ fs, P.underlying t ≠ some (.struct fs)) → ∃ x, Rep (allZ w) noPls x v ∧ Arg P (N + 1) t x := by
      rintro hv ⟨c, rfl⟩ hns
      rw [hv] at hA
      obtain ⟨v', ws, e, hr, -⟩ := hA.uncons
      cases e
      refine ⟨c, hr, ?_⟩
      unfold Arg
      split
      · rename_i fs hu; exact absurd hu (hns fs)
      · exact hpl
    unfold plainT at hp
    unfold Value.okWide at hok
    have hpl' := hpl
    unfold Plain at hpl'
    cases hu : P.underlying t with
    | none => rw [hu] at hp; simp at hp
    | some u =>
      rw [hu] at hp hok hpl'
      cases u <;> simp only [Bool.false_eq_true] at hp hok hpl'
      case bool =>
        obtain ⟨b, rfl⟩ := hpl'
        refine one ?_ ⟨_, rfl⟩ (by simp [hu])
        unfold Cell.okWide Cell.ok at hok; rw [hu] at hok
        cases v <;> first | rfl | simp at hok
      case int k =>
        obtain ⟨m, rfl, -⟩ := hpl'
        refine one ?_ ⟨_, rfl⟩ (by simp [hu])
        unfold Cell.okWide Cell.ok at hok; rw [hu] at hok
        cases v <;> first | rfl | simp at hok
      case string =>
        obtain ⟨m, rfl, -⟩ := hpl'
        refine one ?_ ⟨_, rfl⟩ (by simp [hu])
        unfold Cell.okWide Cell.ok at hok; rw [hu] at hok
        cases v <;> first | rfl | simp at hok
      case slice e =>
        obtain ⟨x, xs, rfl, -⟩ := hpl'
        refine one ?_ ⟨_, rfl⟩ (by simp [hu])
        unfold Cell.okWide Cell.ok at hok; rw [hu] at hok
        cases v <;> first | rfl | simp at hok
      case struct fs =>
        obtain ⟨cs, rfl, -, -⟩ := hok
        refine ⟨.agg A, ?_, ?_⟩
        · have := hA.agg
          simpa [Value.cells] using this
        · unfold Arg; rw [hu]; exact ⟨A, rfl, hpl⟩

theorem args_rep {N base : Nat} : ∀ {ts : List TypeId} {vs : List Value} {ds : List (DataW HH)} {ps : List MemPlace}, ts.all (plainT P N) = true → (∀ (j : Nat) t v, ts[j]? = some t → vs[j]? = some v → Value.okWide P w .any base t v) →
    DataW.TrodAll enc P w 0 (fun _ => true) true ts vs ds ps → ∃ xs, RepL (allZ w) noPls xs vs ∧ ArgsOf P N ts xs
  | [], vs, ds, ps, _, _, h => by
    cases vs <;> cases ds <;> simp [DataW.TrodAll] at h
    exact ⟨[], RepL.nil, .nil⟩
  | t :: ts, vs, ds, ps, hp, hok, h => by
    obtain ⟨v, vs', d, ds', p, q, rfl, rfl, rfl, h1, h2⟩ := trodAll_cons h
    simp only [List.all_cons, Bool.and_eq_true] at hp
    obtain ⟨x, hx, hax⟩ := arg_rep hp.1 (hok 0 t v rfl rfl) h1
    obtain ⟨xs, hxs, haxs⟩ := args_rep hp.2 (fun j t' v' ht hv => hok (j + 1) t' v' (by simpa using ht) (by simpa using hv)) h2
    exact ⟨x :: xs, RepL.cons hx hxs, .cons hax haxs⟩

theorem trod_after {w' : World} (hh : ∀ k, k < w.heap.size → w'.heap[k]? = w.heap[k]?) {N : Nat} {sp : Nat → Bool} : ∀ {ts : List TypeId} {vs : List Value} {ds : List (DataW HH)} {ps : List MemPlace}, ts.all (plainT P N) = true →
    DataW.TrodAll enc P w 0 (fun _ => true) true ts vs ds ps → (∀ p ∈ ps, sp p.block = true) → DataW.TrodAll enc P w' 0 sp true ts vs ds ps
  | [], vs, ds, ps, _, h, _ => by
    cases vs <;> cases ds <;> simp [DataW.TrodAll] at h ⊢
    exact h
  | t :: ts, vs, ds, ps, hp, h, hs => by
    obtain ⟨v, vs', d, ds', p, q, rfl, rfl, rfl, ⟨fuel, h1⟩, h2⟩ := trodAll_cons h
    simp only [List.all_cons, Bool.and_eq_true] at hp
    refine ⟨p, q, ⟨fuel, ?_⟩, trod_after hh hp.2 h2 fun p hp => hs p (List.mem_append_right _ hp), rfl⟩
    have hlt := DataW.trod_lt _ _ _ _ h1
    refine plain_spare N t fuel _ _ hp.1 (DataW.trod_carry _ _ _ _ h1 fun p hp => ?_) fun p hp => hs p (List.mem_append_left _ hp)
    have := hlt p hp
    cases p with
    | cell b off =>
      have hb : b < w.heap.size := this
      simp only [World.sameAt, World.cell?, hh b hb]
    | map b =>
      have hb : b < w.heap.size := this
      simp only [World.sameAt, hh b hb]

theorem trodAll_len {b : Nat} {sp : Nat → Bool} {hd : Bool} : ∀ {ts : List TypeId} {vs : List Value} {ds : List (DataW HH)} {ps : List MemPlace}, DataW.TrodAll enc P w b sp hd ts vs ds ps → ds.length = ts.length
  | [], vs, ds, ps, h => by cases vs <;> cases ds <;> simp [DataW.TrodAll] at h ⊢
  | t :: ts, vs, ds, ps, h => by
    obtain ⟨v, vs', d, ds', p, q, rfl, rfl, rfl, h1, h2⟩ := trodAll_cons h
    simp [trodAll_len h2]

theorem grown_of {w' : World} (hos : w'.os = w.os) (hout : w'.output = w.output) (hh : ∀ k, k < w.heap.size → w'.heap[k]? = w.heap[k]?) (hf : ∀ a, w'.frozen? a = w.frozen? a) (hs : w.heap.size ≤ w'.heap.size) : Grown w w' := by
  refine ⟨⟨hos, hout, fun i hi => ?_⟩, hf, hs⟩
  rw [hh i hi]
  cases h : w.heap[i]? with
  | none => simp
  | some o => cases o <;> simp

/-- a law of plain data -/
theorem law_contract {C : Cfg} (hP : C.P = P) (hgo : NoGo P) (hm : P.follows .mixedOrders = true) (hext : ExtOK C) {f : FuncId} {fn : Func} {s : ChangeSpec} {N : Nat} {apart fresh handsOn again : Bool} {tb : TypeId}
    (hpl : fn.params.toList.all (plainT P N) = true) (hvars : s.vars = []) (hspec : ∀ ds : List (DataW HH), ds.length = fn.params.size → s.fn HH ds = { results := [.lit (.bool true)], args := ds })
    (hrt : fn.resultTypes = #[tb]) (htb : P.underlying tb = some .bool)
    (hlaw : ∀ xs, ArgsOf P N fn.params.toList xs → ∃ H', lim C (.call f xs { objs := [], lock := 0 }) = some (.ret (.v (.bool true)) H'))
    {W : World} {base : Nat} {args : Array Value} {ds gs : List (DataW HH)} {before : List MemPlace}
    (hval : ∀ (j : Nat) t v, fn.params[j]? = some t → args[j]? = some v → Value.okWide P W .any base t v)
    (hW : DataW.Whole enc P fn.params.toList s.vars apart W args.toList ds gs before) :
    Calls P f args W fun e W' => ∃ v, e = .returned v ∧ s.post enc P fn apart fresh handsOn again W args v W' := by
  subst hP
  have hW' := hW
  obtain ⟨p, q, hA, hV, rfl, hfz, hnd⟩ := hW
  have hV' := hV
  rw [hvars] at hV'
  obtain ⟨rfl, rfl⟩ := trodVars_none hV'
  obtain ⟨xs, hxs, hax⟩ := args_rep hpl (fun j t v ht hv => hval j t v (by simpa using ht) (by simpa using hv)) hA
  obtain ⟨H', hl⟩ := hlaw xs hax
  have hc := top_calls hgo hm hext hl hxs
  have hlen : ds.length = fn.params.size := by have := trodAll_len hA; simpa using this
  have hsf : s.fn HH (ds ++ []) = { results := [.lit (.bool true)], args := ds } := by rw [List.append_nil]; exact hspec ds hlen
  refine Calls.mono' hc ?_
  rintro e W' ⟨rfl, hh, hsz, hos, hout, -, hfr⟩
  have hg := grown_of hos hout hh hfr hsz
  refine ⟨_, rfl, post_of_same (pa := p) (pv := []) hW' ?_ ?_ ?_ rfl (hg.frame _) hg.2.1 ?_⟩
  · intro b sp hd
    rw [hsf, hrt]
    exact trodAll_mk1 (shut_bool htb true)
  · intro sp hsp
    rw [hsf]
    exact trod_after hh hpl hA fun x hx => hsp x (List.mem_append_left _ hx)
  · intro sp hsp
    rw [hsf, hvars]
    rfl
  · exact ok_one hrt rfl (okWide_bool_mk htb true)
end
end Go.Ev
namespace Go.Ev
open Go.Proofs
set_option maxRecDepth 1000000
def extWord : List AV → Option AV
  | [.v (.string s)] => if s.size < 1000 then some (.v (.bool (wordB s))) else none
  | _ => none
def e0 : Exts := moreExt (fun _ => none) 91 cmpStr
def e1 : Exts := moreExt e0 49 extWord
theorem quiet0 : Quiet e0 := by
  intro f h1 h2
  unfold e0 moreExt
  rw [if_neg]
  intro h; exact h2 (Nat.eq_of_beq_eq_true h)
theorem mixed (e : Exts) : (Cx e).P.follows .mixedOrders = true := by show Tryz.prog.follows .mixedOrders = true; kernel_rfl
theorem nogo_all : (Tryz.prog.funcs.toList.all fun fn => !(fn.body.isSome && (fn.name == "runtime.NumGoroutine"))) = true := by kernel_rfl
theorem nogo (e : Exts) : NoGo (Cx e).P := by
  intro f fn hf hb
  have h := List.all_eq_true.1 nogo_all fn (by
    have : Tryz.prog.funcs[f]? = some fn := hf
    exact List.mem_of_getElem? (by simpa using this))
  rw [hb] at h
  simpa using h
theorem extOK_none : ExtOK (Cx fun _ => none) := by
  intro f g h; cases h
theorem extOK0 : ExtOK (Cx e0) := by
  refine extOK_more (C := Cx fun _ => none) (f := 91) (g := cmpStr) rfl ?_ extOK_none rfl
  intro args v h Z ρ H w vals hs hl
  exact ext_cmp (fn := Tryz.f91) Tryz.func91 (by kernel_rfl) (by kernel_rfl) (by kernel_rfl) (by kernel_rfl) h Z ρ H w vals hs hl
theorem extOK1 : ExtOK (Cx e1) := by
  refine extOK_more (C := Cx e0) (f := 49) (g := extWord) rfl ?_ extOK0 rfl
  intro args v h Z ρ H w vals hs hl
  unfold extWord at h
  split at h
  · rename_i s
    split at h
    · rename_i hsz
      simp only [Option.some.injEq] at h
      subst h
      exact ext_of_ans (nogo e0) (mixed e0) extOK0 (ans49 quiet0 s (by omega)) rfl Z ρ H w vals hs hl
    · cases h
  · cases h
def ansV (o : Option Out) : Option AV := match o with | some (.ret v H) => freezeV { H with lock := 0 } 1000000 v | _ => none
theorem ans_of_ev {C : Cfg} {n : Nat} {f : FuncId} {args : List AV} {v : AV} (h : ansV (evT C n (.call f args { objs := [], lock := 0 })) = some v) : Ans C f args v := by
  refine Ans.iff.2 ?_
  cases ho : evT C n (.call f args { objs := [], lock := 0 }) with
  | none => rw [ho] at h; cases h
  | some o =>
    rw [ho] at h
    cases o with
    | go => cases h
    | ret x H => exact ⟨x, H, lim_iff.2 ⟨n, ho⟩, h⟩
/-! ### the chapter's examples -/
def strA (s : List UInt8) : AV := .v (.string ⟨⟨s⟩⟩)
def wThe := strA [116,104,101]
def wSea := strA [115,101,97]
def wIs := strA [105,115]
def wOld := strA [111,108,100]
def wAnd := strA [97,110,100]
def wCold := strA [99,111,108,100]
def wSalt := strA [115,97,108,116]
def slN (n : Nat) (l : List AV) : AV := .vs n l none
def at3 (a b c : Int) : AV := .agg [intA a, intA b, intA c]
def rdA (a b c : Int) (k : Int) (w : AV) : AV := .agg [intA a, intA b, intA c, .v (.int .u8 k), w]
def seaV : AV := .agg [slN 2 [.agg [intA 7, slN 1 [slN 1 [wThe, wSea, wIs, wOld], slN 1 [wOld, wThe, wSea]]], .agg [intA 3, slN 1 [slN 1 [wSea, wAnd, wSea]]]]]
def saltV : AV := .agg [intA 4, slN 5 [rdA 0 0 3 3 wCold, rdA 0 1 1 1 (strA []), rdA 1 0 3 2 wSalt]]
def wantV : AV := .agg [slN 2 [.agg [intA 7, slN 1 [slN 1 [wThe, wSea, wIs, wCold], slN 1 [wOld, wSea]]], .agg [intA 3, slN 1 [slN 1 [wSea, wAnd, wSea, wSalt]]]]]
def h0 : Heap := { objs := [], lock := 0 }
theorem a_sea : Ans (Cx e1) 35 [] seaV := ans_of_ev (n := 100) (by kernel_rfl)
theorem a_salt : Ans (Cx e1) 36 [] saltV := ans_of_ev (n := 100) (by kernel_rfl)
end Go.Ev
namespace Go.Ev
open Go.Proofs
set_option maxRecDepth 1000000
theorem a_words : Ans (Cx e1) 14 [seaV] (.tup [intA 10, intA 0]) := ans_of_ev (n := 1000) (by kernel_rfl)
end Go.Ev
namespace Go.Ev
open Go.Proofs
set_option maxRecDepth 1000000
theorem a_at : Ans (Cx e1) 19 [seaV, at3 0 1 0] (.tup [wOld, intA 0]) := ans_of_ev (n := 1000) (by kernel_rfl)
end Go.Ev
namespace Go.Ev
open Go.Proofs
set_option maxRecDepth 1000000
theorem a_placeOf : Ans (Cx e1) 15 [seaV, intA 6] (.tup [at3 0 1 2, intA 0]) := ans_of_ev (n := 1000) (by kernel_rfl)
end Go.Ev
namespace Go.Ev
open Go.Proofs
set_option maxRecDepth 1000000
theorem a_places : Ans (Cx e1) 21 [seaV, wSea] (.tup [slN 3 [at3 0 0 1, at3 0 1 2, at3 1 0 0, at3 1 0 2], intA 0]) := ans_of_ev (n := 1000) (by kernel_rfl)
end Go.Ev
namespace Go.Ev
open Go.Proofs
set_option maxRecDepth 1000000
theorem a_vocab : Ans (Cx e1) 20 [seaV] (.tup [slN 1 [wAnd, wIs, wOld, wSea, wThe], intA 0]) := ans_of_ev (n := 1000) (by kernel_rfl)
end Go.Ev
namespace Go.Ev
open Go.Proofs
set_option maxRecDepth 1000000
theorem a_read : Ans (Cx e1) 25 [seaV, saltV] (.tup [wantV, intA 0]) := ans_of_ev (n := 1000) (by kernel_rfl)
end Go.Ev
namespace Go.Ev
open Go.Proofs
set_option maxRecDepth 1000000
theorem a_doubt : Ans (Cx e1) 32 [seaV, .vs 2 [saltV] (some 1)] (.tup [slN 3 [at3 0 0 3, at3 0 1 1], intA 0]) := ans_of_ev (n := 1000) (by kernel_rfl)
end Go.Ev
namespace Go.Ev
def tab0 : List Int := [1, 2, 3, 4, 4, 21, 21, 21, 21, 21, 21, 21, 2, 1, 2, 3, 3, 21, 21, 21, 21, 21, 21, 21, 3, 2, 1, 2, 2, 21, 21, 21, 21, 21, 21, 21, 4, 3, 2, 1, 1, 21, 21, 21, 21, 21, 21, 21, 4, 3, 2, 1, 0, 21, 21, 21, 21, 21, 21, 21, 21, 21, 21, 21, 21, 21, 21, 21, 21, 21, 21, 21, 21, 21, 21, 21, 21, 21, 21, 21, 21, 21, 21, 21, 21, 21, 21, 21, 21, 21, 21, 21, 21, 21, 21, 21, 21, 21, 21, 21, 21, 21, 21, 21, 21, 21, 21, 21, 21, 21, 21, 21, 21, 21, 21, 21, 21, 21, 21, 21, 21, 21, 21, 21, 21, 21, 21, 21, 21, 21, 21, 21, 21, 21, 21, 21, 21, 21, 21, 21, 21, 21, 21, 21]
def pair0 : AV := .agg (slN 1 [wThe, wSea, wIs, wOld] :: slN 1 [wThe, wSea, wIs, wCold] :: tab0.map intA)
def tab1 : List Int := [1, 2, 3, 21, 21, 21, 21, 21, 21, 21, 21, 21, 1, 1, 2, 21, 21, 21, 21, 21, 21, 21, 21, 21, 1, 0, 1, 21, 21, 21, 21, 21, 21, 21, 21, 21, 2, 1, 0, 21, 21, 21, 21, 21, 21, 21, 21, 21, 21, 21, 21, 21, 21, 21, 21, 21, 21, 21, 21, 21, 21, 21, 21, 21, 21, 21, 21, 21, 21, 21, 21, 21, 21, 21, 21, 21, 21, 21, 21, 21, 21, 21, 21, 21, 21, 21, 21, 21, 21, 21, 21, 21, 21, 21, 21, 21, 21, 21, 21, 21, 21, 21, 21, 21, 21, 21, 21, 21, 21, 21, 21, 21, 21, 21, 21, 21, 21, 21, 21, 21, 21, 21, 21, 21, 21, 21, 21, 21, 21, 21, 21, 21, 21, 21, 21, 21, 21, 21, 21, 21, 21, 21, 21, 21]
def pair1 : AV := .agg (slN 1 [wOld, wThe, wSea] :: slN 1 [wOld, wSea] :: tab1.map intA)
def tab2 : List Int := [1, 2, 2, 3, 3, 21, 21, 21, 21, 21, 21, 21, 2, 1, 2, 2, 2, 21, 21, 21, 21, 21, 21, 21, 3, 2, 1, 1, 1, 21, 21, 21, 21, 21, 21, 21, 4, 3, 2, 1, 0, 21, 21, 21, 21, 21, 21, 21, 21, 21, 21, 21, 21, 21, 21, 21, 21, 21, 21, 21, 21, 21, 21, 21, 21, 21, 21, 21, 21, 21, 21, 21, 21, 21, 21, 21, 21, 21, 21, 21, 21, 21, 21, 21, 21, 21, 21, 21, 21, 21, 21, 21, 21, 21, 21, 21, 21, 21, 21, 21, 21, 21, 21, 21, 21, 21, 21, 21, 21, 21, 21, 21, 21, 21, 21, 21, 21, 21, 21, 21, 21, 21, 21, 21, 21, 21, 21, 21, 21, 21, 21, 21, 21, 21, 21, 21, 21, 21, 21, 21, 21, 21, 21, 21]
def pair2 : AV := .agg (slN 1 [wSea, wAnd, wSea] :: slN 1 [wSea, wAnd, wSea, wSalt] :: tab2.map intA)
end Go.Ev
namespace Go.Ev
open Go.Proofs
set_option maxRecDepth 1000000
theorem a_pair0 : Ans (Cx e1) 73 [slN 1 [wThe, wSea, wIs, wOld], slN 1 [wThe, wSea, wIs, wCold]] pair0 := ans_of_ev (n := 1000) (by kernel_rfl)
end Go.Ev
namespace Go.Ev
open Go.Proofs
set_option maxRecDepth 1000000
theorem a_pair1 : Ans (Cx e1) 73 [slN 1 [wOld, wThe, wSea], slN 1 [wOld, wSea]] pair1 := ans_of_ev (n := 1000) (by kernel_rfl)
end Go.Ev
namespace Go.Ev
open Go.Proofs
set_option maxRecDepth 1000000
theorem a_pair2 : Ans (Cx e1) 73 [slN 1 [wSea, wAnd, wSea], slN 1 [wSea, wAnd, wSea, wSalt]] pair2 := ans_of_ev (n := 1000) (by kernel_rfl)
end Go.Ev
namespace Go.Ev
open Go.Proofs
set_option maxRecDepth 1000000
def gPair : List AV → Option AV := fun args =>
  match atArgs [slN 1 [wThe, wSea, wIs, wOld], slN 1 [wThe, wSea, wIs, wCold]] pair0 args with
  | some r => some r
  | none => match atArgs [slN 1 [wOld, wThe, wSea], slN 1 [wOld, wSea]] pair1 args with
    | some r => some r
    | none => atArgs [slN 1 [wSea, wAnd, wSea], slN 1 [wSea, wAnd, wSea, wSalt]] pair2 args
def e2 : Exts := moreExt e1 73 gPair
theorem extOK2 : ExtOK (Cx e2) := by
  refine extOK_more (C := Cx e1) (f := 73) (g := gPair) rfl ?_ extOK1 rfl
  intro args v h Z ρ H w vals hs hl
  have key : Ans (Cx e1) 73 args v ∧ boundL args = 0 := by
    unfold gPair at h
    split at h
    · rename_i r h1; cases h; obtain ⟨rfl, rfl⟩ := atArgs_some h1; exact ⟨a_pair0, rfl⟩
    · split at h
      · rename_i r h1; cases h; obtain ⟨rfl, rfl⟩ := atArgs_some h1; exact ⟨a_pair1, rfl⟩
      · obtain ⟨rfl, rfl⟩ := atArgs_some h; exact ⟨a_pair2, rfl⟩
  exact ext_of_ans (nogo e1) (mixed e1) extOK1 key.1 key.2 Z ρ H w vals hs hl
theorem a_find : Ans (Cx e2) 22 [seaV, wantV, intA 4] (.tup [saltV, intA 0]) := ans_of_ev (n := 1000) (by kernel_rfl)
end Go.Ev
namespace Go.Ev
open Go.Proofs
set_option maxRecDepth 1000000
theorem ext_one {e : Exts} (hx : ExtOK (Cx e)) {C : Cfg} (hC : C.P = (Cx e).P) {e' : Exts} (hx' : ExtOK (Cx e')) {f : FuncId} {K : List AV} {R : AV} (h : Ans (Cx e) f K R) (hb : boundL K = 0) : ExtOK (Cx (moreExt e' f (atArgs K R))) := by
  refine extOK_more (C := Cx e') (f := f) (g := atArgs K R) rfl ?_ hx' rfl
  intro args v hv Z ρ H w vals hs hl
  obtain ⟨rfl, rfl⟩ := atArgs_some hv
  exact ext_of_ans (nogo e) (mixed e) hx h hb Z ρ H w vals hs hl
def e3 : Exts := moreExt (moreExt (moreExt (moreExt (moreExt (moreExt (moreExt (moreExt e1
  14 (atArgs [seaV] (.tup [intA 10, intA 0])))
  19 (atArgs [seaV, at3 0 1 0] (.tup [wOld, intA 0])))
  15 (atArgs [seaV, intA 6] (.tup [at3 0 1 2, intA 0])))
  21 (atArgs [seaV, wSea] (.tup [slN 3 [at3 0 0 1, at3 0 1 2, at3 1 0 0, at3 1 0 2], intA 0])))
  20 (atArgs [seaV] (.tup [slN 1 [wAnd, wIs, wOld, wSea, wThe], intA 0])))
  25 (atArgs [seaV, saltV] (.tup [wantV, intA 0])))
  22 (atArgs [seaV, wantV, intA 4] (.tup [saltV, intA 0])))
  32 (atArgs [seaV, .vs 2 [saltV] (some 1)] (.tup [slN 3 [at3 0 0 3, at3 0 1 1], intA 0]))
theorem extOK3 : ExtOK (Cx e3) := by
  unfold e3
  refine ext_one extOK1 (C := Cx e1) rfl ?_ a_doubt rfl
  refine ext_one extOK2 (C := Cx e1) rfl ?_ a_find rfl
  refine ext_one extOK1 (C := Cx e1) rfl ?_ a_read rfl
  refine ext_one extOK1 (C := Cx e1) rfl ?_ a_vocab rfl
  refine ext_one extOK1 (C := Cx e1) rfl ?_ a_places rfl
  refine ext_one extOK1 (C := Cx e1) rfl ?_ a_placeOf rfl
  refine ext_one extOK1 (C := Cx e1) rfl ?_ a_at rfl
  refine ext_one extOK1 (C := Cx e1) rfl ?_ a_words rfl
  exact extOK1
theorem a_alive : Ans (Cx e3) 12 [] (.v (.bool true)) := ans_of_ev (n := 1000) (by kernel_rfl)
end Go.Ev
namespace Go.Ev
open Go.Proofs
set_option maxRecDepth 100000
set_option linter.unusedSimpArgs false
/-! ### from arguments of plain data to texts -/
theorem all2_of {α β : Type} {R : α → β → Prop} : ∀ (xs : List β), (∀ y ∈ xs, ∃ a, R a y) → ∃ l, All2 R l xs
  | [], _ => ⟨[], rfl, fun i a b h => by simp at h⟩
  | y :: r, h => by
    obtain ⟨a, ha⟩ := h y List.mem_cons_self
    obtain ⟨l, hl⟩ := all2_of r fun z hz => h z (List.mem_cons_of_mem _ hz)
    refine ⟨a :: l, by simp [hl.1], fun i x z hx hz => ?_⟩
    cases i with
    | zero => simp at hx hz; subst hx; subst hz; exact ha
    | succ i => exact hl.2 i x z (by simpa using hx) (by simpa using hz)
theorem All2.mem_left {α β : Type} {R : α → β → Prop} {l : List α} {m : List β} (h : All2 R l m) {a : α} (ha : a ∈ l) : ∃ b ∈ m, R a b := by
  obtain ⟨i, hi⟩ := List.getElem?_of_mem ha
  obtain ⟨b, hb, hr⟩ := h.get hi
  exact ⟨b, List.mem_of_getElem? hb, hr⟩
def fieldsAt (P : Program) (t : TypeId) : List (Nat × Nat) := match P.underlying t with | some (.struct fs) => fs.toList.map fun f => (f.offset, f.type) | _ => []
def isStruct (P : Program) (t : TypeId) : Bool := match P.underlying t with | some (.struct _) => true | _ => false
theorem plain_struct {P : Program} {N t : Nat} {cs : List AV} {l : List (Nat × Nat)} (hs : isStruct P t = true) (hl : fieldsAt P t = l) (h : Plain P (N + 1) t cs) : cs.length = P.cellsOf t ∧ ∀ x ∈ l, Plain P N x.2 ((cs.drop x.1).take (P.cellsOf x.2)) := by
  unfold Plain at h
  unfold isStruct at hs
  unfold fieldsAt at hl
  split at hs
  · rename_i fs hu
    rw [hu] at h hl
    simp only at h hl
    refine ⟨h.1, fun x hx => ?_⟩
    rw [← hl] at hx
    obtain ⟨f, hf, rfl⟩ := List.mem_map.1 hx
    exact h.2 f hf
  · cases hs
theorem arg_struct {P : Program} {N t : Nat} {x : AV} (hs : isStruct P t = true) (h : Arg P N t x) : ∃ A, x = .agg A ∧ Plain P N t A := by
  unfold Arg at h
  unfold isStruct at hs
  split at hs
  · rename_i fs hu; rw [hu] at h; exact h
  · cases hs
theorem plain_slice {P : Program} {N t e c : Nat} {cs : List AV} (hu : P.underlying t = some (.slice e)) (hc : P.cellsOf e = c) (h : Plain P (N + 1) t cs) : ∃ x xs, cs = [x] ∧ SlOf c xs x ∧ xs.length ≤ maxLen ∧ ∀ y ∈ xs, ∃ d, y = elemOf d ∧ d.length = c ∧ Plain P N e d := by
  unfold Plain at h; rw [hu] at h; subst hc; exact h
theorem plain_int {P : Program} {N t : Nat} {k : IntKind} {cs : List AV} (hu : P.underlying t = some (.int k)) (h : Plain P (N + 1) t cs) : ∃ m, cs = [.v (.int k m)] ∧ (Lit.int k m).wf = true := by
  unfold Plain at h; rw [hu] at h; exact h
theorem plain_string {P : Program} {N t : Nat} {cs : List AV} (hu : P.underlying t = some .string) (h : Plain P (N + 1) t cs) : ∃ s, cs = [.v (.string s)] ∧ s.size ≤ maxLen := by
  unfold Plain at h; rw [hu] at h; exact h
theorem two_cells {l : List AV} (h : l.length = 2) : ∃ a b, l = [a, b] := by
  match l, h with
  | [a, b], _ => exact ⟨a, b, rfl⟩
theorem maxLen_lt : maxLen < 2 ^ 63 := by decide
def LineF (ws : Line) (x : AV) : Prop := LineA ws x ∧ ws.length < 2 ^ 63 ∧ ∀ s ∈ ws, s.size < 2 ^ 63
def ChapF (c : Chap) (y : AV) : Prop := ChapA c y ∧ c.2.length < 2 ^ 63 ∧ ∀ l ∈ c.2, l.length < 2 ^ 63 ∧ ∀ s ∈ l, s.size < 2 ^ 63
theorem line_of {N : Nat} {cs : List AV} (h : Plain Tryz.prog (N + 2) 41 cs) : ∃ ws x, cs = [x] ∧ LineF ws x := by
  obtain ⟨x, xs, rfl, hx, hlen, hxs⟩ := plain_slice (c := 1) (by kernel_rfl : Tryz.prog.underlying 41 = some (.slice 9)) (by kernel_rfl) h
  have key : ∀ y ∈ xs, ∃ s : ByteArray, y = .v (.string s) ∧ s.size ≤ maxLen := by
    intro y hy
    obtain ⟨d, rfl, -, hd⟩ := hxs y hy
    obtain ⟨s, rfl, hs⟩ := plain_string (by kernel_rfl : Tryz.prog.underlying 9 = some .string) hd
    exact ⟨s, rfl, hs⟩
  obtain ⟨ws, hws⟩ := all2_of (R := fun (s : ByteArray) y => y = AV.v (.string s) ∧ s.size ≤ maxLen) xs key
  have he : xs = strs ws := by
    unfold strs
    apply List.ext_getElem?
    intro i
    rw [List.getElem?_map]
    cases hi : ws[i]? with
    | none =>
      rw [List.getElem?_eq_none_iff] at hi
      rw [Option.map_none, List.getElem?_eq_none_iff]
      rw [← hws.1]; exact hi
    | some s =>
      obtain ⟨b, hb, rfl, -⟩ := hws.get hi
      rw [hb]; rfl
  have := maxLen_lt
  subst he
  refine ⟨ws, x, rfl, hx, by rw [strs_len] at hlen; omega, fun s hs => ?_⟩
  obtain ⟨b, -, -, h2⟩ := hws.mem_left hs
  omega
theorem chap_of {N : Nat} {cs : List AV} (h : Plain Tryz.prog (N + 4) 46 cs) : ∃ c, ChapF c (.agg cs) := by
  obtain ⟨hl, hf⟩ := plain_struct (l := [(0, 3), (1, 44)]) (by kernel_rfl) (by kernel_rfl) h
  obtain ⟨a, b, rfl⟩ := two_cells (hl.trans (by kernel_rfl))
  have h0 := hf (0, 3) (by simp)
  have h1 := hf (1, 44) (by simp)
  have e0 : Tryz.prog.cellsOf 3 = 1 := by kernel_rfl
  have e1 : Tryz.prog.cellsOf 44 = 1 := by kernel_rfl
  simp only [e0, e1, List.drop_zero, List.drop_succ_cons, List.take_succ_cons, List.take_zero] at h0 h1
  obtain ⟨m, hm, -⟩ := plain_int (by kernel_rfl : Tryz.prog.underlying 3 = some (.int .i64)) h0
  obtain ⟨x, xs, hx, hsl, hlen, hxs⟩ := plain_slice (c := 1) (by kernel_rfl : Tryz.prog.underlying 44 = some (.slice 41)) (by kernel_rfl) h1
  simp only [List.cons.injEq, and_true] at hm hx
  subst hm; subst hx
  have key : ∀ y ∈ xs, ∃ ws, LineF ws y := by
    intro y hy
    obtain ⟨d, rfl, -, hd⟩ := hxs y hy
    obtain ⟨ws, z, rfl, hz⟩ := line_of hd
    exact ⟨ws, hz⟩
  obtain ⟨ls, hls⟩ := all2_of xs key
  have := maxLen_lt
  refine ⟨(m, ls), ⟨_, rfl, xs, hsl, hls.1, fun i a b ha hb => (hls.2 i a b ha hb).1⟩, by have := hls.1; show ls.length < _; omega, fun l hl => ?_⟩
  obtain ⟨b, -, hb⟩ := hls.mem_left hl
  exact ⟨hb.2.1, hb.2.2⟩
theorem text_of {N : Nat} {x : AV} (h : Arg Tryz.prog (N + 6) 24 x) : ∃ t, TextA t x ∧ Fits t := by
  obtain ⟨A, rfl, hp⟩ := arg_struct (by kernel_rfl) h
  obtain ⟨hl, hf⟩ := plain_struct (l := [(0, 22)]) (by kernel_rfl) (by kernel_rfl) hp
  have h0 := hf (0, 22) (by simp)
  have hl1 : A.length = 1 := hl.trans (by kernel_rfl)
  obtain ⟨ch, rfl⟩ : ∃ c, A = [c] := by
    match A, hl1 with
    | [a], _ => exact ⟨a, rfl⟩
  have e0 : Tryz.prog.cellsOf 22 = 1 := by kernel_rfl
  simp only [e0, List.drop_zero, List.take_succ_cons, List.take_zero] at h0
  obtain ⟨y, xs, hy, hsl, hlen, hxs⟩ := plain_slice (c := 2) (by kernel_rfl : Tryz.prog.underlying 22 = some (.slice 46)) (by kernel_rfl) h0
  simp only [List.cons.injEq, and_true] at hy
  subst hy
  have key : ∀ y ∈ xs, ∃ c, ChapF c y := by
    intro y hy
    obtain ⟨d, rfl, hd2, hd⟩ := hxs y hy
    obtain ⟨a, b, rfl⟩ := two_cells hd2
    exact chap_of hd
  obtain ⟨t, ht⟩ := all2_of xs key
  have := maxLen_lt
  have hmem : ∀ c ∈ t, c.2.length < 2 ^ 63 ∧ ∀ l ∈ c.2, l.length < 2 ^ 63 ∧ ∀ s ∈ l, s.size < 2 ^ 63 := fun c hc => by
    obtain ⟨b, -, hb⟩ := ht.mem_left hc
    exact hb.2
  exact ⟨t, ⟨ch, rfl, xs, hsl, ht.1, fun i a b ha hb => (ht.2 i a b ha hb).1⟩, by have := ht.1; omega, fun c hc => (hmem c hc).1, fun c hc l hl => ((hmem c hc).2 l hl).1, fun c hc l hl s hs => ((hmem c hc).2 l hl).2 s hs⟩
theorem u16_of {N : Nat} {x : AV} (h : Arg Tryz.prog (N + 1) 25 x) : ∃ n : Nat, n < 65536 ∧ x = .v (.int .u16 n) := by
  unfold Arg at h
  have hu : Tryz.prog.underlying 25 = some (.int .u16) := by kernel_rfl
  rw [hu] at h
  obtain ⟨m, hm, hw⟩ := plain_int hu h
  simp only [List.cons.injEq, and_true] at hm
  have : 0 ≤ m ∧ m < 65536 := by
    have h2 : (decide (IntKind.u16.min ≤ m) && decide (m ≤ IntKind.u16.max)) = true := hw
    have e1 : IntKind.u16.min = 0 := by decide
    have e2 : IntKind.u16.max = 65535 := by decide
    rw [e1, e2] at h2
    simp at h2; omega
  exact ⟨m.toNat, by omega, by rw [hm, Int.toNat_of_nonneg this.1]⟩
/-! ### the configuration of a law -/
def eA : Exts := moreExt e0 12 (atArgs [] (.v (.bool true)))
theorem extOKA : ExtOK (Cx eA) := by
  refine extOK_more (C := Cx e0) (f := 12) (g := atArgs [] (.v (.bool true))) rfl ?_ extOK0 rfl
  intro args v hv Z ρ H w vals hs hl
  obtain ⟨rfl, rfl⟩ := atArgs_some hv
  exact ext_of_ans (nogo e3) (mixed e3) extOK3 a_alive rfl Z ρ H w vals hs hl
theorem quietA : Quiet eA := by
  intro f h1 h2
  unfold eA moreExt
  rw [if_neg (fun h => h1 (Nat.eq_of_beq_eq_true h))]
  exact quiet0 f h1 h2
theorem eA12 : eA 12 = some (atArgs [] (.v (.bool true))) := rfl
theorem freeze_to_v {H : Heap} {K : Nat} {x : AV} {y : Value} (h : freezeV H K x = some (.v y)) : x = .v y := by
  cases K with
  | zero => cases h
  | succ K =>
    unfold freezeV at h
    cases x with
    | v z => simpa using h
    | ro z k => simp at h
    | vs s l c => simp at h
    | agg l => simp only [Option.map_eq_some_iff] at h; obtain ⟨_, _, h⟩ := h; cases h
    | tup l => simp only [Option.map_eq_some_iff] at h; obtain ⟨_, _, h⟩ := h; cases h
    | ifc t z => simp only [Option.map_eq_some_iff] at h; obtain ⟨_, _, h⟩ := h; cases h
    | mp b => simp only at h; split at h <;> simp at h
    | yld b => simp only at h; split at h <;> simp at h
    | fn f a b => simp only at h; split at h <;> simp at h
    | ptr b v k =>
      simp only at h
      split at h
      · simp at h
      · split at h
        · split at h
          · split at h <;> simp at h
          · simp at h
        · simp at h
    | sl b v off len c =>
      simp only at h
      split at h
      · simp at h
      · split at h
        · split at h
          · split at h
            · simp at h
            · split at h
              · split at h <;> simp at h
              · simp at h
          · simp at h
        · simp at h
theorem Ans.lim {C : Cfg} {f : FuncId} {args : List AV} (h : Ans C f args (.v (.bool true))) : ∃ H', Go.Ev.lim C (.call f args { objs := [], lock := 0 }) = some (.ret (.v (.bool true)) H') := by
  obtain ⟨x, H, h1, h2⟩ := Ans.iff.1 h
  rw [freeze_to_v h2] at h1
  exact ⟨H, h1⟩
end Go.Ev
