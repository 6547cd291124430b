/- What the proof of this claim stands on, part 6: an evaluator of the model, proved right, and what it answers for functions of the program. -/
import Derived.Test.YtpfbekhkakfoiaaGreatDoorPk04
import Derived.Lib.LaidTab
set_option linter.unusedSimpArgs false
namespace Go.Ev
open Go.Proofs
set_option maxRecDepth 100000
set_option linter.unusedSimpArgs false
attribute [local irreducible] Wp WpS
/-- what stands in a place of a valid text -/
theorem words_line {t : Txt} {n : Nat} {x : Plc × ByteArray} (hx : (wordsT 0 t)[n]? = some x) : ∃ c ln, t[x.1.1]? = some c ∧ c.2[x.1.2.1]? = some ln ∧ ln[x.1.2.2]? = some x.2 := by
  obtain ⟨m, k, w, c, l, h1, h2, h3, h4⟩ := (wordsT_mem t 0 x).1 (List.mem_of_getElem? hx)
  rw [Nat.zero_add] at h1
  rw [h1]
  exact ⟨c, l, h2, h3, h4⟩
theorem beforeB_mv {a b a' b' : Nat} {w w' m m' : Int} (h1 : a = a' → b = b' → (w < w' ↔ m < m')) : beforeB ((a : Int), (b : Int), m) ((a' : Int), (b' : Int), m') = beforeB ((a : Int), (b : Int), w) ((a' : Int), (b' : Int), w') := by
  unfold beforeB
  simp only
  by_cases ha : (a : Int) ≠ a'
  · rw [if_pos ha, if_pos ha]
  · rw [if_neg ha, if_neg ha]
    by_cases hb : (b : Int) ≠ b'
    · rw [if_pos hb, if_pos hb]
    · rw [if_neg hb, if_neg hb]
      have := h1 (by omega) (by omega)
      rw [Bool.eq_iff_iff, decide_eq_true_eq, decide_eq_true_eq]; exact this.symm
theorem eqP_mv {a b a' b' : Nat} {w w' m m' : Int} (h1 : a = a' → b = b' → (w = w' ↔ m = m')) : eqP a b m a' b' m' = eqP a b w a' b' w' := by
  unfold eqP
  by_cases ha : (a : Int) = a'
  · by_cases hb : (b : Int) = b'
    · have := h1 (by omega) (by omega)
      rw [decide_eq_true ha, decide_eq_true hb, Bool.true_and, Bool.true_and, Bool.true_and, Bool.true_and, Bool.eq_iff_iff, decide_eq_true_eq, decide_eq_true_eq]; exact this.symm
    · rw [decide_eq_false hb]; simp
  · rw [decide_eq_false ha]; rfl
theorem call31 (me : FuncId) (d : Option Tmp) (H : Heap) : callA (Cx eA) (lim (Cx eA)) me 31 d [] H = some (.v (.bool true), H) := by
  have h : (Cx eA).ext 31 = some (atArgs [] (.v (.bool true))) := eA31
  unfold callA standA
  rw [h]; rfl
set_option maxHeartbeats 8000000 in
theorem ansS11 (t : Txt) (ht : Fits t) (ch : AV) (xs : List AV) (hch : SlOf 2 xs ch) (hall : All2 ChapA t xs) (id : Int) (rs : List Rd) (x : AV) (hx : RdsA rs x) (hrd : ∀ r ∈ rs, RdF r) (n m : Nat) (hn : n < 65536) (hm : m < 65536) : Ans (Cx eA) 11 [.agg [ch], .agg [intA id, x], .v (.int .u16 n), .v (.int .u16 m)] (.v (.bool true)) := by
  have he := quietA
  have hxr := hx
  have hx : SlOf 5 (rs.map rdV) x := hx
  have h15 := fun me d H => call38 he t ht _ ⟨ch, rfl, xs, hch, hall⟩ me d H
  have h56 := fun me d H => call39 he t ht _ ⟨ch, rfl, xs, hch, hall⟩ me d H
  have h57 := fun me d H => call56 he id rs x hxr me d H
  unfold Ans
  rw [fn_step (fn_11 eA) (show Tryz.f11.body = some _ from rfl)]
  cases hg : greatT t
  · rw [hg] at h15
    cases hT : textB t
    · rw [hT] at h56
      simp -implicitDefEqProofs only [Tryz.f11, go_sem, ↓reduceIte, Int.reduceEq, Int.reduceLT, Int.reduceLE, List.reduceReplicate, intA, setT_nil, setT_cons, hch.cells, hch.flat, hch.bound, hx.cells, hx.flat, hx.bound, call31, h15, h56, ↓boolP_bool, ↓iteB_true, ↓iteB_false]
    · rw [hT] at h56
      cases hgc : greatCB rs
      · rw [hgc] at h57
        have hs := small_of hT
        have h58 := fun me d H => (ans57 he t ht (fun c hc l hl => by have := (hs.words c hc l hl).2; omega) ch xs hch hall id rs x hxr hrd).call (ext_58 he) (pure_58 eA me d) (by simp only [boundL_cons, bound_agg, hch.bound, hx.bound, boundL_nil]; rfl) H
        cases hcb : copyB t id rs
        · rw [hcb] at h58
          unfold intA at h58
          simp -implicitDefEqProofs only [Tryz.f11, go_sem, ↓reduceIte, Int.reduceEq, Int.reduceLT, Int.reduceLE, List.reduceReplicate, intA, setT_nil, setT_cons, hch.cells, hch.flat, hch.bound, hx.cells, hx.flat, hx.bound, call31, h15, h56, h57, h58, ↓boolP_bool, ↓iteB_true, ↓iteB_false]
        · rw [hcb] at h58
          unfold intA at h58
          have hR : Right t id rs := Right.of hcb
          have hlen := hR.len
          obtain ⟨ys, o, ho, hys, h58s, h25a⟩ := copyW he t hs ht hT ch xs hch hall id rs x hxr hrd hR
          have hN := wordsT_small hs
          have hNp : 0 < (wordsT 0 t).length := hN.1
          obtain ⟨p, hp⟩ := at_lt (wordsT 0 t) (n % (wordsT 0 t).length) (Nat.mod_lt _ hNp)
          obtain ⟨q, hq⟩ := at_lt (wordsT 0 t) (m % (wordsT 0 t).length) (Nat.mod_lt _ hNp)
          obtain ⟨cp, lp, hcp, hlp, hwp⟩ := words_line hp
          obtain ⟨cq, lq, hcq, hlq, hwq⟩ := words_line hq
          have hLp := lineAt_nat hcp hlp
          have hLq := lineAt_nat hcq hlq
          have hwp1 := (List.getElem?_eq_some_iff.1 hwp).1
          have hwq1 := (List.getElem?_eq_some_iff.1 hwq).1
          have hlp10 := (hs.words cp (List.mem_of_getElem? hcp) lp (List.mem_of_getElem? hlp)).2
          have hlq10 := (hs.words cq (List.mem_of_getElem? hcq) lq (List.mem_of_getElem? hlq)).2
          have b1 : ∀ k : Nat, boundL [AV.agg [ch], .v (.int .u16 k)] = 0 := fun k => by simp only [boundL_cons, bound_agg, hch.bound, boundL_nil]; rfl
          have b2 : boundL [AV.agg [ch], .agg [intA id, x]] = 0 := by simp only [boundL_cons, bound_agg, hch.bound, hx.bound, boundL_nil]; rfl
          have b3 : ∀ a b c : Int, boundL [AV.agg [ch], .agg [intA id, x], .agg [intA a, intA b, intA c]] = 0 := fun a b c => by simp only [boundL_cons, bound_agg, hch.bound, hx.bound, boundL_nil]; rfl
          have b4 : ∀ a b c : Int, boundL [AV.agg [o], .agg [intA a, intA b, intA c]] = 0 := fun a b c => by simp only [boundL_cons, bound_agg, ho.bound, boundL_nil]; rfl
          have c47p := fun me d H => (ansS47 he t ht ch xs hch hall hT n hn p hp).call (ext_47 he) (pure_47 eA me d) (b1 n) H
          have c47q := fun me d H => (ansS47 he t ht ch xs hch hall hT m hm q hq).call (ext_47 he) (pure_47 eA me d) (b1 m) H
          have c59 := fun me d H => h25a.call (ext_59 he) (pure_59 eA me d) b2 H
          have c60 := fun me d H => (ans30 he t ht hT ch xs hch hall id rs x hxr (by omega) h58s p.1.1 p.1.2.1 p.1.2.2 lp hLp p.2 hwp).call (ext_60 he) (pure_60 eA me d) (b3 _ _ _) H
          have a35p := ansS35 he t ht hT ch xs hch hall id rs x hxr (by omega) h58s p.1.1 p.1.2.1 p.1.2.2 lp hLp p.2 hwp (by omega)
          have a35q := ansS35 he t ht hT ch xs hch hall id rs x hxr (by omega) h58s q.1.1 q.1.2.1 q.1.2.2 lq hLq q.2 hwq (by omega)
          have hnep := hs.ne hLp
          have hneq := hs.ne hLq
          unfold intA at c47p c47q c59 c60
          by_cases hep : standL rs p.1.1 p.1.2.1 p.1.2.2 p.2 = emp
          · rw [if_pos hep] at a35p
            rw [hep] at c60
            have c35p := fun me d H => a35p.call (ext_35 he) (pure_35 eA me d) (b3 _ _ _) H
            unfold intA at c35p
            have hd : decide (emp = (⟨#[]⟩ : ByteArray)) = true := decide_eq_true rfl
            obtain ⟨ag, kq, a35q'⟩ : ∃ (g : Int × Int × Int) (k : Int), Ans (Cx eA) 35 [.agg [ch], .agg [intA id, x], .agg [intA q.1.1, intA q.1.2.1, intA q.1.2.2]] (.tup [.agg [intA g.1, intA g.2.1, intA g.2.2], intA k]) := by
              by_cases heq : standL rs q.1.1 q.1.2.1 q.1.2.2 q.2 = emp
              · rw [if_pos heq] at a35q; exact ⟨(0, 0, 0), 6, a35q⟩
              · rw [if_neg heq] at a35q; exact ⟨(_, _, _), 0, a35q⟩
            have c35q := fun me d H => a35q'.call (ext_35 he) (pure_35 eA me d) (b3 _ _ _) H
            unfold intA at c35q
            simp -implicitDefEqProofs only [Tryz.f11, go_sem, ↓reduceIte, Int.reduceEq, Int.reduceLT, Int.reduceLE, List.reduceReplicate, intA, setT_nil, setT_cons, hch.cells, hch.flat, hch.bound, hx.cells, hx.flat, hx.bound, ho.cells, ho.flat, ho.bound, call31, h15, h56, h57, h58, c47p, c47q, c59, c60, c35p, c35q, hd, ↓boolP_bool, ↓iteB_true, ↓iteB_false]
          · rw [if_neg hep] at a35p
            have c35p := fun me d H => a35p.call (ext_35 he) (pure_35 eA me d) (b3 _ _ _) H
            have hd : decide (standL rs p.1.1 p.1.2.1 p.1.2.2 p.2 = (⟨#[]⟩ : ByteArray)) = false := decide_eq_false hep
            obtain ⟨pos, hpos, hst⟩ := hR.cpy.moved_at hLp hnep hwp hep
            obtain ⟨d', hd', hl'⟩ := readT_line (rs := rs) hcp hlp
            have hLu := lineAt_nat hd' hl'
            have hTu := hR.text hT
            have a46 := ansS46 he (readT t rs) (hR.fits ht hrd) o ys ho hys hTu p.1.1 p.1.2.1 pos _ hLu _ hst
            rw [hpos] at a46
            have c46 := fun me d H => a46.call (ext_46 he) (pure_46 eA me d) (b4 _ _ _) H
            by_cases heq : standL rs q.1.1 q.1.2.1 q.1.2.2 q.2 = emp
            · rw [if_pos heq] at a35q
              have c35q := fun me d H => a35q.call (ext_35 he) (pure_35 eA me d) (b3 _ _ _) H
              unfold intA at c35p c35q c46
              simp -implicitDefEqProofs only [Tryz.f11, go_sem, ↓reduceIte, Int.reduceEq, Int.reduceLT, Int.reduceLE, List.reduceReplicate, intA, setT_nil, setT_cons, hch.cells, hch.flat, hch.bound, hx.cells, hx.flat, hx.bound, ho.cells, ho.flat, ho.bound, call31, h15, h56, h57, h58, c47p, c47q, c59, c60, c35p, c35q, c46, hd, ↓boolP_bool, ↓iteB_true, ↓iteB_false]
              refine wp_draw (by kernel_rfl) ?_
              simp -implicitDefEqProofs only [go_sem, ↓reduceIte, Int.reduceEq, Int.reduceLT, Int.reduceLE, List.reduceReplicate, intA, setT_nil, setT_cons, hch.cells, hch.flat, hch.bound, hx.cells, hx.flat, hx.bound, ho.cells, ho.flat, ho.bound, decide_true, ↓boolP_bool, ↓iteB_true, ↓iteB_false]
            · rw [if_neg heq] at a35q
              have c35q := fun me d H => a35q.call (ext_35 he) (pure_35 eA me d) (b3 _ _ _) H
              have b5 : ∀ a b c a' b' c' : Int, boundL [AV.agg [intA a, intA b, intA c], .agg [intA a', intA b', intA c']] = 0 := fun _ _ _ _ _ _ => rfl
              have c61 := fun me d a b c a' b' c' => (ans18 (e := eA) a b c a' b' c').callI (me := me) (d := d) (ext_61 he) (pure_61 eA me d) (b5 a b c a' b' c')
              have key : p.1.1 = q.1.1 → p.1.2.1 = q.1.2.1 → (((p.1.2.2 : Int) < q.1.2.2 → mvd rs p.1.1 p.1.2.1 p.1.2.2 < mvd rs q.1.1 q.1.2.1 q.1.2.2) ∧ ((q.1.2.2 : Int) < p.1.2.2 → mvd rs q.1.1 q.1.2.1 q.1.2.2 < mvd rs p.1.1 p.1.2.1 p.1.2.2) ∧ ((p.1.2.2 : Int) = q.1.2.2 → mvd rs p.1.1 p.1.2.1 p.1.2.2 = mvd rs q.1.1 q.1.2.1 q.1.2.2)) := by
                intro ha hb
                rw [← ha, ← hb] at hLq heq ⊢
                obtain rfl : lp = lq := by rw [hLp] at hLq; exact Option.some.inj hLq
                refine ⟨fun h => ?_, fun h => ?_, fun h => by rw [h]⟩
                · exact hR.cpy.moved_lt hLp hnep hwp hep hwq heq (by omega)
                · exact hR.cpy.moved_lt hLp hnep hwq heq hwp hep (by omega)
              have hmb := beforeB_mv (a := p.1.1) (b := p.1.2.1) (a' := q.1.1) (b' := q.1.2.1) (w := (p.1.2.2 : Int)) (w' := (q.1.2.2 : Int)) (m := mvd rs p.1.1 p.1.2.1 p.1.2.2) (m' := mvd rs q.1.1 q.1.2.1 q.1.2.2) (fun ha hb => by
                obtain ⟨h1, h2, h3⟩ := key ha hb
                omega)
              have hme := eqP_mv (a := p.1.1) (b := p.1.2.1) (a' := q.1.1) (b' := q.1.2.1) (w := (p.1.2.2 : Int)) (w' := (q.1.2.2 : Int)) (m := mvd rs p.1.1 p.1.2.1 p.1.2.2) (m' := mvd rs q.1.1 q.1.2.1 q.1.2.2) (fun ha hb => by
                obtain ⟨h1, h2, h3⟩ := key ha hb
                omega)
              unfold intA at c35p c35q c46 c61
              simp -implicitDefEqProofs only [Tryz.f11, go_sem, ↓reduceIte, Int.reduceEq, Int.reduceLT, Int.reduceLE, List.reduceReplicate, intA, setT_nil, setT_cons, hch.cells, hch.flat, hch.bound, hx.cells, hx.flat, hx.bound, ho.cells, ho.flat, ho.bound, call31, h15, h56, h57, h58, c47p, c47q, c59, c60, c35p, c35q, c46, hd, ↓boolP_bool, ↓iteB_true, ↓iteB_false]
              refine wp_draw (by kernel_rfl) ?_
              simp -implicitDefEqProofs only [go_sem, ↓reduceIte, Int.reduceEq, Int.reduceLT, Int.reduceLE, List.reduceReplicate, intA, setT_nil, setT_cons, hch.cells, hch.flat, hch.bound, hx.cells, hx.flat, hx.bound, ho.cells, ho.flat, ho.bound, c61, hmb, eq32, hme, bool4, decide_true, beq_self_eq_true, ↓boolP_bool, ↓iteB_true, ↓iteB_false]
      · rw [hgc] at h57
        simp -implicitDefEqProofs only [Tryz.f11, go_sem, ↓reduceIte, Int.reduceEq, Int.reduceLT, Int.reduceLE, List.reduceReplicate, intA, setT_nil, setT_cons, hch.cells, hch.flat, hch.bound, hx.cells, hx.flat, hx.bound, call31, h15, h56, h57, ↓boolP_bool, ↓iteB_true, ↓iteB_false]
  · rw [hg] at h15
    simp -implicitDefEqProofs only [Tryz.f11, go_sem, ↓reduceIte, Int.reduceEq, Int.reduceLT, Int.reduceLE, List.reduceReplicate, intA, setT_nil, setT_cons, hch.cells, hch.flat, hch.bound, hx.cells, hx.flat, hx.bound, call31, h15, ↓boolP_bool, ↓iteB_true, ↓iteB_false]
end Go.Ev
namespace Go.Ev
open Go.Proofs
set_option maxRecDepth 100000
set_option linter.unusedSimpArgs false
/-! ### from arguments of plain data to copies -/
theorem map_of {α β : Type} {f : α → β} {Q : α → Prop} : ∀ (xs : List β), (∀ y ∈ xs, ∃ r, y = f r ∧ Q r) → ∃ l : List α, xs = l.map f ∧ ∀ r ∈ l, Q r
  | [], _ => ⟨[], rfl, fun r h => nomatch h⟩
  | y :: xs, h => by
    obtain ⟨r, rfl, hr⟩ := h y (List.mem_cons_self ..)
    obtain ⟨l, rfl, hl⟩ := map_of xs fun z hz => h z (List.mem_cons_of_mem _ hz)
    exact ⟨r :: l, rfl, fun q hq => (List.mem_cons.1 hq).elim (fun e => e ▸ hr) (hl q)⟩
theorem cells3 {l : List AV} (h : l.length = 3) : ∃ a b c, l = [a, b, c] := by
  match l, h with
  | [a, b, c], _ => exact ⟨a, b, c, rfl⟩
theorem cells5 {l : List AV} (h : l.length = 5) : ∃ a b c d e, l = [a, b, c, d, e] := by
  match l, h with
  | [a, b, c, d, e], _ => exact ⟨a, b, c, d, e, rfl⟩
theorem place_of {N : Nat} {cs : List AV} (h : Plain Tryz.prog (N + 2) 28 cs) : ∃ a b c, cs = [intA a, intA b, intA c] := by
  obtain ⟨hl, hf⟩ := plain_struct (l := [(0, 3), (1, 3), (2, 3)]) (by kernel_rfl) (by kernel_rfl) h
  obtain ⟨a, b, c, rfl⟩ := cells3 (hl.trans (by kernel_rfl))
  have h0 := hf (0, 3) (by simp)
  have h1 := hf (1, 3) (by simp)
  have h2 := hf (2, 3) (by simp)
  have e0 : Tryz.prog.cellsOf 3 = 1 := by kernel_rfl
  simp only [e0, List.drop_zero, List.drop_succ_cons, List.take_succ_cons, List.take_zero] at h0 h1 h2
  obtain ⟨m, hm, -⟩ := plain_int (by kernel_rfl : Tryz.prog.underlying 3 = some (.int .i64)) h0
  obtain ⟨n, hn, -⟩ := plain_int (by kernel_rfl : Tryz.prog.underlying 3 = some (.int .i64)) h1
  obtain ⟨k, hk, -⟩ := plain_int (by kernel_rfl : Tryz.prog.underlying 3 = some (.int .i64)) h2
  simp only [List.cons.injEq, and_true] at hm hn hk
  exact ⟨m, n, k, by rw [hm, hn, hk]; rfl⟩
theorem u8_wf {m : Int} (h : (Lit.int .u8 m).wf = true) : 0 ≤ m ∧ m < 256 := by
  have h2 : (decide (IntKind.u8.min ≤ m) && decide (m ≤ IntKind.u8.max)) = true := h
  have e1 : IntKind.u8.min = 0 := by decide
  have e2 : IntKind.u8.max = 255 := by decide
  rw [e1, e2] at h2
  simp at h2; omega
theorem rd_of {N : Nat} {cs : List AV} (h : Plain Tryz.prog (N + 3) 105 cs) : ∃ r, AV.agg cs = rdV r ∧ RdF r := by
  obtain ⟨hl, hf⟩ := plain_struct (l := [(0, 28), (3, 5), (4, 9)]) (by kernel_rfl) (by kernel_rfl) h
  obtain ⟨a, b, c, d, e, rfl⟩ := cells5 (hl.trans (by kernel_rfl))
  have h0 := hf (0, 28) (by simp)
  have h1 := hf (3, 5) (by simp)
  have h2 := hf (4, 9) (by simp)
  have e0 : Tryz.prog.cellsOf 28 = 3 := by kernel_rfl
  have e1 : Tryz.prog.cellsOf 5 = 1 := by kernel_rfl
  have e2 : Tryz.prog.cellsOf 9 = 1 := by kernel_rfl
  simp only [e0, e1, e2, List.drop_zero, List.drop_succ_cons, List.take_succ_cons, List.take_zero] at h0 h1 h2
  obtain ⟨x, y, z, hp⟩ := place_of h0
  obtain ⟨m, hm, hw⟩ := plain_int (by kernel_rfl : Tryz.prog.underlying 5 = some (.int .u8)) h1
  obtain ⟨s, hs, hsz⟩ := plain_string (by kernel_rfl : Tryz.prog.underlying 9 = some .string) h2
  simp only [List.cons.injEq, and_true] at hp hm hs
  obtain ⟨rfl, rfl, rfl⟩ := hp
  subst hm hs
  have := u8_wf hw
  have hml := maxLen_lt
  exact ⟨⟨x, y, z, m, s⟩, rfl, ⟨this.1, this.2, by show s.size < _; omega⟩⟩
theorem copy_of {N : Nat} {x : AV} (h : Arg Tryz.prog (N + 5) 66 x) : ∃ id rs y, x = .agg [intA id, y] ∧ RdsA rs y ∧ ∀ r ∈ rs, RdF r := by
  obtain ⟨A, rfl, hp⟩ := arg_struct (by kernel_rfl) h
  obtain ⟨hl, hf⟩ := plain_struct (l := [(0, 3), (1, 64)]) (by kernel_rfl) (by kernel_rfl) hp
  obtain ⟨a, b, rfl⟩ := two_cells (hl.trans (by kernel_rfl))
  have h0 := hf (0, 3) (by simp)
  have h1 := hf (1, 64) (by simp)
  have e0 : Tryz.prog.cellsOf 3 = 1 := by kernel_rfl
  have e1 : Tryz.prog.cellsOf 64 = 1 := by kernel_rfl
  simp only [e0, e1, List.drop_zero, List.drop_succ_cons, List.take_succ_cons, List.take_zero] at h0 h1
  obtain ⟨m, hm, -⟩ := plain_int (by kernel_rfl : Tryz.prog.underlying 3 = some (.int .i64)) h0
  obtain ⟨y, xs, hy, hsl, hlen, hxs⟩ := plain_slice (c := 5) (by kernel_rfl : Tryz.prog.underlying 64 = some (.slice 105)) (by kernel_rfl) h1
  simp only [List.cons.injEq, and_true] at hm hy
  subst hm
  have key : ∀ z ∈ xs, ∃ r, z = rdV r ∧ RdF r := by
    intro z hz
    obtain ⟨d, rfl, hd5, hd⟩ := hxs z hz
    obtain ⟨a1, a2, a3, a4, a5, rfl⟩ := cells5 hd5
    exact rd_of hd
  obtain ⟨rs, rfl, hrs⟩ := map_of xs key
  exact ⟨m, rs, b, rfl, by rw [hy]; exact hsl, hrs⟩
end Go.Ev
/- From a row's condition on package variables to what memory stands for. -/
namespace Go.Ev
open Go.Lib
theorem tabIs_of_vars {P : Program} {W : World} {name : String} {k : IntKind} {zs : List Int} {g : Nat} {t e : TypeId} {n : Nat}
    (hg : P.globalNamed name = some g) (hty : (P.globals[g]?).map (·.type) = some t) (ht : P.underlying t = some (.array n e)) (he : P.underlying e = some (.int k)) (hce : P.cellsOf e = 1) (hct : P.cellsOf t = n) :
    ∀ {l : List (String × DataW Unit)} {ps : List MemPlace}, (name, tabData k zs) ∈ l → DataW.LaidVars P W l ps → TabIs P W name k zs
  | [], _, hm, _ => by cases hm
  | (nm, d) :: rest, ps, hm, h => by
    obtain ⟨g', t', cs, fuel, p, q, hg', ht', hvar, hd, hr, _⟩ := h
    rcases List.mem_cons.1 hm with hm | hm
    · cases hm
      obtain rfl := Option.some.inj (hg.symm.trans hg')
      obtain rfl := Option.some.inj (hty.symm.trans ht')
      unfold TabIs
      rw [hvar, ← cells_of_tab ht he hce hct hd]
    · exact tabIs_of_vars hg hty ht he hce hct hm hr
theorem heap_of_tab {P : Program} {W : World} {name : String} {k : IntKind} {zs : List Int} {g : Nat} (hg : P.globalNamed name = some g) (h : TabIs P W name k zs) :
    ∃ e fz, allZ W g = some (.cells (zs.map fun z => Value.int k z).toArray e fz) := by
  unfold TabIs World.var? at h
  rw [hg] at h
  simp only [Option.bind_some] at h
  unfold allZ
  cases ho : W.heap[g]? with
  | none => rw [ho] at h; cases h
  | some o =>
    rw [ho] at h
    cases o <;> simp at h
    subst h
    exact ⟨_, _, rfl⟩
end Go.Ev
