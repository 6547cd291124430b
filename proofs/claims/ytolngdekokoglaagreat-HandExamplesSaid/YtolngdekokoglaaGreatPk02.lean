/- What the proof of this claim stands on, part 3: an evaluator of the model, proved right, and what it answers for functions of the program. -/
import Derived.Test.YtolngdekokoglaaGreatPk01
import Derived.ChangeReads
import Derived.ChangeOld
import Derived.ChangeArms
import Derived.RowKit3
import Derived.WalkKit
import Derived.ProofKit
import Derived.OpenShut
import Derived.KernelRfl
import Derived.Lib.Overlaps
import Derived.Shelf.Strings.OnBuilder
import Derived.Test.YtolngdekokoglaaGreatProg
/- From what a statement says of its arguments to values of the evaluator, and back. -/
namespace Go.Ev

/-- the fields lie one behind the other, from k on up to the end -/
def tiled (P : Program) : Nat → List Field → Nat → Bool
  | k, [], e => k == e
  | k, f :: r, e => f.offset == k && tiled P (k + P.cellsOf f.type) r e

/-- types of plain data, by depth -/
def plainT (P : Program) : Nat → TypeId → Bool
  | 0, _ => false
  | n + 1, t =>
    match P.underlying t with
    | some .bool => true
    | some (.int _) => true
    | some .string => true
    | some (.slice e) => decide (0 < P.cellsOf e) && plainT P n e
    | some (.struct fs) => tiled P 0 fs.toList (P.cellsOf t) && fs.toList.all fun f => plainT P n f.type
    | _ => false

/-- an element of a slice, of its cells -/
def elemOf (cs : List AV) : AV := match cs with | [c] => c | cs => .agg cs

/-- what plain data is -/
def Plain (P : Program) : Nat → TypeId → List AV → Prop
  | 0, _, _ => False
  | n + 1, t, cs =>
    match P.underlying t with
    | some .bool => ∃ b, cs = [.v (.bool b)]
    | some (.int k) => ∃ m, cs = [.v (.int k m)] ∧ (Lit.int k m).wf = true
    | some .string => ∃ s, cs = [.v (.string s)] ∧ s.size ≤ maxLen
    | some (.slice e) => ∃ x xs, cs = [x] ∧ SlOf (P.cellsOf e) xs x ∧ xs.length ≤ maxLen ∧ ∀ y ∈ xs, ∃ c, y = elemOf c ∧ c.length = P.cellsOf e ∧ Plain P n e c
    | some (.struct fs) => cs.length = P.cellsOf t ∧ ∀ f ∈ fs.toList, Plain P n f.type ((cs.drop f.offset).take (P.cellsOf f.type))
    | _ => False

theorem elem_cells {cs : List AV} (h : ∀ c ∈ cs, c.flat = true) : (elemOf cs).cells = cs := by
  unfold elemOf
  split
  · rename_i c
    have := h c (by simp)
    cases c <;> simp_all [AV.cells, AV.flat]
  · rfl

theorem exists_list {α : Type} {Q : Nat → α → Prop} : ∀ (n : Nat), (∀ i, i < n → ∃ y, Q i y) → ∃ l : List α, l.length = n ∧ ∀ i y, l[i]? = some y → Q i y
  | 0, _ => ⟨[], rfl, fun i y h => by simp at h⟩
  | n + 1, h => by
    obtain ⟨l, hl, hq⟩ := exists_list n fun i hi => h i (by omega)
    obtain ⟨y, hy⟩ := h n (by omega)
    refine ⟨l ++ [y], by simp [hl], fun i z hz => ?_⟩
    by_cases hi : i < l.length
    · rw [List.getElem?_append_left hi] at hz; exact hq i z hz
    · have hlt := (List.getElem?_eq_some_iff.1 hz).1
      simp at hlt
      have : i = l.length := by omega
      subst this
      simp at hz; subst hz; rw [hl]; exact hy

theorem tile_rep {Z : Fzn} {ρ : Pls} {P : Program} {Q : Field → List AV → Prop} : ∀ (fs : List Field) (k e : Nat) (cs : List Value), tiled P k fs e = true → cs.length = e →
    (∀ f ∈ fs, ∃ a, RepL Z ρ a ((cs.drop f.offset).take (P.cellsOf f.type)) ∧ Q f a ∧ ∀ c ∈ a, c.flat = true) →
    k ≤ e → ∃ A, RepL Z ρ A (cs.drop k) ∧ (∀ c ∈ A, c.flat = true) ∧ ∀ f ∈ fs, k ≤ f.offset ∧ f.offset + P.cellsOf f.type ≤ e ∧ Q f ((A.drop (f.offset - k)).take (P.cellsOf f.type))
  | [], k, e, cs, ht, hl, _, _ => by
    have : k = e := by simpa [tiled] using ht
    subst this
    refine ⟨[], ?_, by simp, by simp⟩
    rw [List.drop_of_length_le (by omega)]; exact RepL.nil
  | f :: r, k, e, cs, ht, hl, hf, hk => by
    simp only [tiled, Bool.and_eq_true, beq_iff_eq] at ht
    obtain ⟨ho, ht⟩ := ht
    have hle : ∀ (fs : List Field) (k : Nat), tiled P k fs e = true → k ≤ e := by
      intro fs
      induction fs with
      | nil => intro k h; have : k = e := by simpa [tiled] using h
               omega
      | cons g s ih => intro k h; simp only [tiled, Bool.and_eq_true] at h; have := ih _ h.2; omega
    have hle' := hle _ _ ht
    obtain ⟨A, hA, hAf, hAq⟩ := tile_rep r (k + P.cellsOf f.type) e cs ht hl (fun g hg => hf g (List.mem_cons_of_mem _ hg)) hle'
    obtain ⟨a, ha, hq, haf⟩ := hf f List.mem_cons_self
    have hal : a.length = P.cellsOf f.type := by rw [ha.1]; simp; omega
    refine ⟨a ++ A, ?_, ?_, ?_⟩
    · have : cs.drop k = (cs.drop f.offset).take (P.cellsOf f.type) ++ cs.drop (k + P.cellsOf f.type) := by
        rw [ho, ← List.drop_drop]; exact (List.take_append_drop _ _).symm
      rw [this]; exact ha.append hA
    · intro c hc
      rcases List.mem_append.1 hc with h | h
      · exact haf c h
      · exact hAf c h
    · intro g hg
      rcases List.mem_cons.1 hg with rfl | hg
      · refine ⟨by omega, by omega, ?_⟩
        rw [ho, Nat.sub_self, List.drop_zero, List.take_append_of_le_length (by omega), List.take_of_length_le (by omega)]
        exact hq
      · obtain ⟨h1, h2, h3⟩ := hAq g hg
        refine ⟨by omega, h2, ?_⟩
        have : (a ++ A).drop (g.offset - k) = A.drop (g.offset - (k + P.cellsOf f.type)) := by
          rw [List.drop_append, List.drop_of_length_le (by omega), List.nil_append, hal]; congr 1; omega
        rw [this]; exact h3

section
variable {HH : Type} {enc : TypeId × Value → HH} {P : Program} {w : World}

theorem cells_at {a : Addr} {n : Nat} {cs : List Value} (h : w.cells? 0 a n = some cs) (hn : 0 < n) : a.spot = none ∧ ∃ arr e fr, w.heap[a.block]? = some (.cells arr e fr) ∧ cs.length = n ∧ ∀ j, j < n → arr[a.off + j]? = cs[j]? := by
  obtain ⟨_, hl, hc⟩ := World.cells?_some h
  have h0 := hc 0 hn
  obtain ⟨c0, hc0⟩ : ∃ c0, cs[0]? = some c0 := ⟨cs[0]'(by omega), List.getElem?_eq_getElem _⟩
  have hsp : a.spot = none := by
    have := World.cell?_spot (h0.trans hc0)
    simpa [Addr.add] using this
  have hcell := h0.trans hc0
  have hb : ∀ j, (a.add j).block = a.block := by intro j; unfold Addr.add; split <;> rfl
  have hs : ∀ j, (a.add j).spot = none := by
    intro j; unfold Addr.add; split
    · exact hsp
    · rfl
  have ho : ∀ j, (a.add j).off = a.off + j := by
    intro j; unfold Addr.add; split
    · rename_i hj; subst hj; rfl
    · rfl
  refine ⟨hsp, ?_⟩
  unfold World.cell? at hcell
  rw [hb] at hcell
  split at hcell
  · rename_i arr e fr hh
    refine ⟨arr, e, fr, hh, hl, fun j hj => ?_⟩
    have := hc j hj
    unfold World.cell? at this
    rw [hb, hh] at this
    simp only [hs, ho, Option.isSome_none, Bool.false_eq_true, if_false] at this
    exact this
  · cases hcell

theorem plain_rep : ∀ (N t fuel : Nat) (cs : List Value) (x : DataW HH × List MemPlace), plainT P N t = true → DataW.trod enc P w 0 (fun _ => true) true fuel t cs = some x →
    ∃ A, RepL (allZ w) noPls A cs ∧ Plain P N t A ∧ ∀ c ∈ A, c.flat = true
  | 0, _, _, _, _, hp, _ => by simp [plainT] at hp
  | N + 1, t, fuel, cs, x, hp, h => by
    unfold plainT at hp
    cases hu : P.underlying t with
    | none => rw [hu] at hp; simp at hp
    | some u =>
      rw [hu] at hp
      cases u <;> simp only [Bool.false_eq_true] at hp
      case bool =>
        obtain ⟨b, rfl, -⟩ := DataW.trod_bool hu h
        exact ⟨[.v (.bool b)], RepL.cons (.v rfl) RepL.nil, by unfold Plain; rw [hu]; exact ⟨b, rfl⟩, by simp [AV.flat]⟩
      case int k =>
        obtain ⟨n, rfl, -, hw⟩ := DataW.trod_int hu h
        exact ⟨[.v (.int k n)], RepL.cons (.v rfl) RepL.nil, by unfold Plain; rw [hu]; exact ⟨n, rfl, hw⟩, by simp [AV.flat]⟩
      case string =>
        obtain ⟨n, rfl, -, hw⟩ := DataW.trod_string hu h
        exact ⟨[.v (.string n)], RepL.cons (.v rfl) RepL.nil, by unfold Plain; rw [hu]; exact ⟨n, rfl, hw⟩, by simp [AV.flat]⟩
      case struct fs =>
        rw [Bool.and_eq_true, List.all_eq_true] at hp
        obtain ⟨xs, n, -, -, hl, hlen, hf⟩ := DataW.trod_struct hu h
        have hall : ∀ f ∈ fs.toList, ∃ a, RepL (allZ w) noPls a ((cs.drop f.offset).take (P.cellsOf f.type)) ∧ Plain P N f.type a ∧ ∀ c ∈ a, c.flat = true := by
          intro f hfm
          obtain ⟨i, hi⟩ := List.getElem?_of_mem hfm
          have hi' : fs[i]? = some f := by simpa using hi
          have hxi := hf i f hi'
          have hlt : i < xs.length := by
            rw [hlen]
            have := (List.getElem?_eq_some_iff.1 hi).1
            simpa using this
          rw [List.getElem?_eq_getElem hlt] at hxi
          exact plain_rep N f.type n _ _ (hp.2 f hfm) hxi
        obtain ⟨A, hA, hAf, hAq⟩ := tile_rep fs.toList 0 (P.cellsOf t) cs hp.1 hl hall (Nat.zero_le _)
        rw [List.drop_zero] at hA
        refine ⟨A, hA, ?_, hAf⟩
        unfold Plain; rw [hu]
        refine ⟨by rw [hA.1]; exact hl, fun f hf => ?_⟩
        have := (hAq f hf).2.2
        rwa [Nat.sub_zero] at this
      case slice e =>
        simp only [Bool.and_eq_true, decide_eq_true_eq] at hp
        rcases DataW.trod_slice hu h with ⟨rfl, -⟩ | ⟨a, len, cap, elems, rest, n, -, rfl, -, -, hlc, hcm, hel, hget, -, -⟩
        · refine ⟨[.v (.slice none 0 0)], RepL.cons (.v rfl) RepL.nil, ?_, by simp [AV.flat]⟩
          unfold Plain; rw [hu]
          exact ⟨_, [], rfl, Or.inl ⟨rfl, rfl⟩, Nat.zero_le _, by simp⟩
        · have hone : ∀ i, i < len → ∃ y : AV, ∃ A ci, w.cells? 0 (a.add (i * P.cellsOf e)) (P.cellsOf e) = some ci ∧ RepL (allZ w) noPls A ci ∧ Plain P N e A ∧ (∀ c ∈ A, c.flat = true) ∧ y = elemOf A := by
            intro i hi
            have := hget i hi
            rw [List.getElem?_eq_getElem (by omega), Option.bind_eq_some_iff] at this
            obtain ⟨ci, hc1, hc2⟩ := this
            obtain ⟨A, h1, h2, h3⟩ := plain_rep N e n ci _ hp.2 hc2
            exact ⟨_, A, ci, hc1, h1, h2, h3, rfl⟩
          obtain ⟨xs, hxl, hxq⟩ := exists_list len hone
          have hsz : ∀ y ∈ xs, y.cells.length = P.cellsOf e := by
            intro y hy
            obtain ⟨i, hi⟩ := List.getElem?_of_mem hy
            obtain ⟨A, ci, h1, h2, h3, h4, rfl⟩ := hxq i y hi
            rw [elem_cells h4, h2.1]
            exact (World.cells?_some h1).2.1
          have hplain : Plain P (N + 1) t [.vs (P.cellsOf e) xs (some cap)] := by
            unfold Plain; rw [hu]
            refine ⟨_, xs, rfl, Or.inr ⟨_, rfl⟩, by omega, fun y hy => ?_⟩
            obtain ⟨i, hi⟩ := List.getElem?_of_mem hy
            obtain ⟨A, ci, h1, h2, h3, h4, rfl⟩ := hxq i y hi
            exact ⟨A, rfl, by rw [h2.1]; exact (World.cells?_some h1).2.1, h3⟩
          by_cases h0 : len = 0
          · subst h0
            have : xs = [] := List.length_eq_zero_iff.1 hxl
            subst this
            exact ⟨_, RepL.cons (.vs0 (by simp)) RepL.nil, hplain, by simp [AV.flat]⟩
          · -- the block
            have hpos := hp.1
            obtain ⟨y0, hy0⟩ : ∃ y, xs[0]? = some y := ⟨xs[0]'(by omega), List.getElem?_eq_getElem _⟩
            obtain ⟨A0, c0, hc0, -⟩ := hxq 0 y0 hy0
            obtain ⟨hsp0, arr, et, fr, hh, -, -⟩ := cells_at hc0 hpos
            have hb : ∀ j, (a.add j).block = a.block := by intro j; unfold Addr.add; split <;> rfl
            have ho : ∀ j, (a.add j).off = a.off + j := by
              intro j; unfold Addr.add; split
              · rename_i hj; subst hj; rfl
              · rfl
            rw [hb] at hh
            have hsp : a.spot = none := by simpa [Addr.add] using hsp0
            have hall : ∀ i j, i < len → j < P.cellsOf e → ∃ A ci, xs[i]? = some (elemOf A) ∧ (∀ c ∈ A, c.flat = true) ∧ RepL (allZ w) noPls A ci ∧ ci.length = P.cellsOf e ∧ arr[a.off + i * P.cellsOf e + j]? = ci[j]? := by
              intro i j hi hj
              obtain ⟨y, hy⟩ : ∃ y, xs[i]? = some y := ⟨xs[i]'(by omega), List.getElem?_eq_getElem _⟩
              obtain ⟨A, ci, h1, h2, h3, h4, rfl⟩ := hxq i y hy
              obtain ⟨-, arr', et', fr', hh', hl', hg⟩ := cells_at h1 hpos
              rw [hb, hh] at hh'
              obtain ⟨rfl, rfl, rfl⟩ : arr = arr' ∧ et = et' ∧ fr = fr' := by simpa using hh'
              have := hg j hj
              rw [ho] at this
              exact ⟨A, ci, hy, h4, h2, hl', this⟩
            have hfl : (xs.flatMap AV.cells).length = len * P.cellsOf e := by rw [flat_len hsz, hxl]
            have hfit : a.off + len * P.cellsOf e ≤ arr.size := by
              obtain ⟨A, ci, -, -, -, hl', hg⟩ := hall (len - 1) (P.cellsOf e - 1) (by omega) (by omega)
              rw [List.getElem?_eq_getElem (by omega)] at hg
              have := (Array.getElem?_eq_some_iff.1 hg).1
              have e1 : (len - 1) * P.cellsOf e + P.cellsOf e = len * P.cellsOf e := by
                have : len = (len - 1) + 1 := by omega
                conv => rhs; rw [this, Nat.succ_mul]
              omega
            refine ⟨[.vs (P.cellsOf e) xs (some cap)], RepL.cons ?_ RepL.nil, hplain, by simp [AV.flat]⟩
            have hval : (Value.slice (some a) len cap) = .slice (some ⟨a.block, (arr.toList.take a.off).length, none⟩) xs.length cap := by
              have : (arr.toList.take a.off).length = a.off := by simp; omega
              rw [this, hxl]; cases a; simp_all
            rw [hval]
            refine .vs (vs := (arr.toList.drop a.off).take (len * P.cellsOf e)) (post := (arr.toList.drop a.off).drop (len * P.cellsOf e)) (pre := arr.toList.take a.off) (e := et) (fz := fr) (arr := arr) hh ?_ hsz ?_ ?_ (by simp) (by omega)
            · rw [List.append_assoc, List.take_append_drop, List.take_append_drop]
            · rw [hfl]; simp; omega
            · intro i c v hc hv
              have hi := (List.getElem?_eq_some_iff.1 hc).1
              rw [hfl] at hi
              have hq : i / P.cellsOf e < len := Nat.div_lt_of_lt_mul (by rw [Nat.mul_comm]; exact hi)
              have hr : i % P.cellsOf e < P.cellsOf e := Nat.mod_lt _ hpos
              have hdm : i / P.cellsOf e * P.cellsOf e + i % P.cellsOf e = i := by rw [Nat.mul_comm]; exact Nat.div_add_mod _ _
              obtain ⟨A, ci, hx, hA, hR, hl', hg⟩ := hall _ _ hq hr
              have hfa := (flat_at hsz hx).1
              rw [elem_cells hA] at hfa
              have hcA : A[i % P.cellsOf e]? = some c := by
                rw [← hfa, List.getElem?_take, if_pos hr, List.getElem?_drop, hdm]; exact hc
              have hvA : ci[i % P.cellsOf e]? = some v := by
                rw [← hg]
                rw [List.getElem?_take, if_pos hi, List.getElem?_drop] at hv
                rw [show a.off + i / P.cellsOf e * P.cellsOf e + i % P.cellsOf e = a.off + i by omega]
                simpa using hv
              exact hR.2 _ _ _ hcA hvA

/-- what is not looked at of spare places -/
theorem plain_spare {base : Nat} {sp : Nat → Bool} : ∀ (N t fuel : Nat) (cs : List Value) (x : DataW HH × List MemPlace), plainT P N t = true → DataW.trod enc P w base (fun _ => true) true fuel t cs = some x →
    (∀ p ∈ x.2, sp p.block = true) → DataW.trod enc P w base sp true fuel t cs = some x
  | 0, _, _, _, _, hp, _, _ => by simp [plainT] at hp
  | N + 1, t, fuel, cs, x, hp, h, hs => by
    unfold plainT at hp
    cases fuel with
    | zero => simp [DataW.trod] at h
    | succ n =>
      cases hu : P.underlying t with
      | none => rw [hu] at hp; simp at hp
      | some u =>
        rw [hu] at hp
        cases u <;> simp only [Bool.false_eq_true] at hp
        case bool => obtain ⟨b, rfl, rfl⟩ := DataW.trod_bool hu h; rw [DataW.trod_step]; unfold DataW.trodStep; rw [hu]
        case int k => obtain ⟨m, rfl, rfl, hw⟩ := DataW.trod_int hu h; rw [DataW.trod_step]; unfold DataW.trodStep; rw [hu]; simp [hw]
        case string => obtain ⟨m, rfl, rfl, hw⟩ := DataW.trod_string hu h; rw [DataW.trod_step]; unfold DataW.trodStep; rw [hu]; simp [hw]
        case struct fs =>
          rw [Bool.and_eq_true, List.all_eq_true] at hp
          rw [DataW.trod_step] at h ⊢
          unfold DataW.trodStep at h ⊢
          rw [hu] at h ⊢
          simp only at h ⊢
          split at h
          · rename_i hl
            rw [if_pos hl]
            simp only [Option.map_eq_some_iff] at h ⊢
            obtain ⟨xs, hxs, rfl⟩ := h
            refine ⟨xs, mapM_carry hxs fun f y hf hy hfy => plain_spare N f.type n _ y (hp.2 f hf) hfy fun p hpm => hs p ?_, rfl⟩
            exact List.mem_flatMap.2 ⟨y, hy, hpm⟩
          · cases h
        case slice e =>
          simp only [Bool.and_eq_true, decide_eq_true_eq] at hp
          have h0 := h
          rw [DataW.trod_step] at h ⊢
          unfold DataW.trodStep at h ⊢
          rw [hu] at h ⊢
          rcases DataW.trod_slice hu h0 with ⟨rfl, rfl⟩ | ⟨a, len, cap, elems, rest, n', hn', rfl, rfl, -, hlc, hcm, hel, hget, hrest, -⟩
          · rfl
          · simp only at h ⊢
            split at h
            · rename_i hc
              rw [if_pos hc]
              simp only [if_true, Option.bind_eq_some_iff, Option.map_eq_some_iff] at h ⊢
              obtain ⟨es, hes, rs, hrs, heq⟩ := h
              have hin : ∀ y, y ∈ es ++ rs → ∀ p ∈ y.2, sp p.block = true := by
                intro y hy p hpm
                refine hs p ?_
                have := congrArg Prod.snd heq
                simp only at this
                rw [← this]
                exact List.mem_append_right _ (List.mem_flatMap.2 ⟨y, hy, hpm⟩)
              refine ⟨es, mapM_carry hes fun i y _ hy hfy => ?_, rs, ?_, heq⟩
              · obtain ⟨ci, h1, h2⟩ := Option.bind_eq_some_iff.1 hfy
                rw [h1]
                exact plain_spare N e n ci y hp.2 h2 (hin y (List.mem_append_left _ hy))
              · have hrl : rs.length = cap - len := by
                  have := mapM_some_length hrs
                  simpa using this
                by_cases hz : cap - len = 0
                · have : rs = [] := List.length_eq_zero_iff.1 (by omega)
                  subst this
                  split
                  · rw [hz] at hrs ⊢; exact hrs
                  · rfl
                · have hsp : sp a.block = true := by
                    have hel' : es.length = len := by
                      have := mapM_some_length hes
                      simpa using this
                    have := congrArg Prod.snd heq
                    simp only at this
                    have hm : MemPlace.cell a.block (a.off + 0) ∈ MemPlace.row a ((elems.length + rest.length) * P.cellsOf e) ++ (elems ++ rest).flatMap (·.2) := by
                      rw [← this]
                      refine List.mem_append_left _ (MemPlace.mem_row.2 ⟨0, ?_, rfl⟩)
                      exact Nat.mul_pos (by omega) hp.1
                    exact hs _ hm
                  rw [if_pos hsp]
                  refine mapM_carry hrs fun i y _ hy hfy => ?_
                  obtain ⟨ci, h1, h2⟩ := Option.bind_eq_some_iff.1 hfy
                  rw [h1]
                  exact plain_spare N e n ci y hp.2 h2 (hin y (List.mem_append_right _ hy))
            · cases h
end
end Go.Ev
/- A law: what the evaluator answers on all plain data is what the statement says. -/
namespace Go.Ev
open Go.ChangeShapes Go.WideShapes Go.ChangeAt Go.RowKit

/-- an argument of a type of plain data -/
def Arg (P : Program) (N : Nat) (t : TypeId) (x : AV) : Prop :=
  match P.underlying t with
  | some (.struct _) => ∃ A, x = .agg A ∧ Plain P N t A
  | _ => Plain P N t [x]

inductive ArgsOf (P : Program) (N : Nat) : List TypeId → List AV → Prop
  | nil : ArgsOf P N [] []
  | cons {t : TypeId} {ts : List TypeId} {x : AV} {xs : List AV} (h : Arg P N t x) (hs : ArgsOf P N ts xs) : ArgsOf P N (t :: ts) (x :: xs)

section
variable {HH : Type} {enc : TypeId × Value → HH} {P : Program} {w : World}

theorem arg_rep {N base : Nat} {t : TypeId} {v : Value} {d : DataW HH} {ps : List MemPlace} (hp : plainT P N t = true) (hok : Value.okWide P w .any base t v) (h : DataW.Trod enc P w 0 (fun _ => true) true t v d ps) :
    ∃ x, Rep (allZ w) noPls x v ∧ Arg P N t x := by
  obtain ⟨fuel, h⟩ := h
  obtain ⟨A, hA, hpl, hfl⟩ := plain_rep N t fuel _ _ hp h
  cases N with
  | zero => simp [plainT] at hp
  | succ N =>
    have one : ∀ (hv : v.cells.toList = [v]), (∃ c, A = [c]) → (∀ fs, P.underlying t ≠ some (.struct fs)) → ∃ x, Rep (allZ w) noPls x v ∧ Arg P (N + 1) t x := by
      rintro hv ⟨c, rfl⟩ hns
      rw [hv] at hA
      obtain ⟨v', ws, e, hr, -⟩ := hA.uncons
      cases e
      refine ⟨c, hr, ?_⟩
      unfold Arg
      split
      · rename_i fs hu; exact absurd hu (hns fs)
      · exact hpl
    unfold plainT at hp
    unfold Value.okWide at hok
    have hpl' := hpl
    unfold Plain at hpl'
    cases hu : P.underlying t with
    | none => rw [hu] at hp; simp at hp
    | some u =>
      rw [hu] at hp hok hpl'
      cases u <;> simp only [Bool.false_eq_true] at hp hok hpl'
      case bool =>
        obtain ⟨b, rfl⟩ := hpl'
        refine one ?_ ⟨_, rfl⟩ (by simp [hu])
        unfold Cell.okWide Cell.ok at hok; rw [hu] at hok
        cases v <;> first | rfl | simp at hok
      case int k =>
        obtain ⟨m, rfl, -⟩ := hpl'
        refine one ?_ ⟨_, rfl⟩ (by simp [hu])
        unfold Cell.okWide Cell.ok at hok; rw [hu] at hok
        cases v <;> first | rfl | simp at hok
      case string =>
        obtain ⟨m, rfl, -⟩ := hpl'
        refine one ?_ ⟨_, rfl⟩ (by simp [hu])
        unfold Cell.okWide Cell.ok at hok; rw [hu] at hok
        cases v <;> first | rfl | simp at hok
      case slice e =>
        obtain ⟨x, xs, rfl, -⟩ := hpl'
        refine one ?_ ⟨_, rfl⟩ (by simp [hu])
        unfold Cell.okWide Cell.ok at hok; rw [hu] at hok
        cases v <;> first | rfl | simp at hok
      case struct fs =>
        obtain ⟨cs, rfl, -, -⟩ := hok
        refine ⟨.agg A, ?_, ?_⟩
        · have := hA.agg
          simpa [Value.cells] using this
        · unfold Arg; rw [hu]; exact ⟨A, rfl, hpl⟩

theorem args_rep {N base : Nat} : ∀ {ts : List TypeId} {vs : List Value} {ds : List (DataW HH)} {ps : List MemPlace}, ts.all (plainT P N) = true → (∀ (j : Nat) t v, ts[j]? = some t → vs[j]? = some v → Value.okWide P w .any base t v) →
    DataW.TrodAll enc P w 0 (fun _ => true) true ts vs ds ps → ∃ xs, RepL (allZ w) noPls xs vs ∧ ArgsOf P N ts xs
  | [], vs, ds, ps, _, _, h => by
    cases vs <;> cases ds <;> simp [DataW.TrodAll] at h
    exact ⟨[], RepL.nil, .nil⟩
  | t :: ts, vs, ds, ps, hp, hok, h => by
    obtain ⟨v, vs', d, ds', p, q, rfl, rfl, rfl, h1, h2⟩ := trodAll_cons h
    simp only [List.all_cons, Bool.and_eq_true] at hp
    obtain ⟨x, hx, hax⟩ := arg_rep hp.1 (hok 0 t v rfl rfl) h1
    obtain ⟨xs, hxs, haxs⟩ := args_rep hp.2 (fun j t' v' ht hv => hok (j + 1) t' v' (by simpa using ht) (by simpa using hv)) h2
    exact ⟨x :: xs, RepL.cons hx hxs, .cons hax haxs⟩

theorem trod_after {w' : World} (hh : ∀ k, k < w.heap.size → w'.heap[k]? = w.heap[k]?) {N : Nat} {sp : Nat → Bool} : ∀ {ts : List TypeId} {vs : List Value} {ds : List (DataW HH)} {ps : List MemPlace}, ts.all (plainT P N) = true →
    DataW.TrodAll enc P w 0 (fun _ => true) true ts vs ds ps → (∀ p ∈ ps, sp p.block = true) → DataW.TrodAll enc P w' 0 sp true ts vs ds ps
  | [], vs, ds, ps, _, h, _ => by
    cases vs <;> cases ds <;> simp [DataW.TrodAll] at h ⊢
    exact h
  | t :: ts, vs, ds, ps, hp, h, hs => by
    obtain ⟨v, vs', d, ds', p, q, rfl, rfl, rfl, ⟨fuel, h1⟩, h2⟩ := trodAll_cons h
    simp only [List.all_cons, Bool.and_eq_true] at hp
    refine ⟨p, q, ⟨fuel, ?_⟩, trod_after hh hp.2 h2 fun p hp => hs p (List.mem_append_right _ hp), rfl⟩
    have hlt := DataW.trod_lt _ _ _ _ h1
    refine plain_spare N t fuel _ _ hp.1 (DataW.trod_carry _ _ _ _ h1 fun p hp => ?_) fun p hp => hs p (List.mem_append_left _ hp)
    have := hlt p hp
    cases p with
    | cell b off =>
      have hb : b < w.heap.size := this
      simp only [World.sameAt, World.cell?, hh b hb]
    | map b =>
      have hb : b < w.heap.size := this
      simp only [World.sameAt, hh b hb]

theorem trodAll_len {b : Nat} {sp : Nat → Bool} {hd : Bool} : ∀ {ts : List TypeId} {vs : List Value} {ds : List (DataW HH)} {ps : List MemPlace}, DataW.TrodAll enc P w b sp hd ts vs ds ps → ds.length = ts.length
  | [], vs, ds, ps, h => by cases vs <;> cases ds <;> simp [DataW.TrodAll] at h ⊢
  | t :: ts, vs, ds, ps, h => by
    obtain ⟨v, vs', d, ds', p, q, rfl, rfl, rfl, h1, h2⟩ := trodAll_cons h
    simp [trodAll_len h2]

theorem kept_of {w' : World} (hos : w'.os = w.os) (hout : w'.output = w.output) (hh : ∀ k, k < w.heap.size → w'.heap[k]? = w.heap[k]?) : w.keptBut w' (fun _ => False) := by
  refine ⟨hos, hout, fun i hi => ?_⟩
  rw [hh i hi]
  cases h : w.heap[i]? with
  | none => simp
  | some o => cases o <;> simp

/-- what the call leaves as it was: only what was there need not be frozen anew -/
theorem post_of_old {f : Func} {s : ChangeSpec} {apart fresh handsOn again : Bool} {W W' : World} {args : Array Value} {v : Value} {ds gs : List (DataW HH)} {before pa pv : List MemPlace}
    (hW : DataW.Whole enc P f.params.toList s.vars apart W args.toList ds gs before)
    (hres : ∀ (b : Nat) (sp : Nat → Bool) (hd : Bool), DataW.TrodAll enc P W' b sp hd f.resultTypes.toList (v.resultList f.resultTypes.size) (s.fn HH (ds ++ gs)).results [])
    (hargs : ∀ sp : Nat → Bool, (∀ p ∈ before, sp p.block = true) → DataW.TrodAll enc P W' 0 sp true f.params.toList args.toList (s.fn HH (ds ++ gs)).args pa)
    (hvars : ∀ sp : Nat → Bool, (∀ p ∈ before, sp p.block = true) → DataW.TrodVars enc P W' sp s.vars (s.fn HH (ds ++ gs)).vars pv)
    (hps : before = pa ++ pv) (hk : W.keptBut W' (· ∈ before)) (hfz : ∀ a : Addr, a.block < W.heap.size → W'.frozen? a = W.frozen? a)
    (hok : ∀ (j : Nat) (t : TypeId) (r : Value), f.resultTypes[j]? = some t → (v.resultList f.resultTypes.size)[j]? = some r → Value.okWide P W' .any 0 t r) :
    s.post enc P f apart fresh handsOn again W args v W' := by
  have hold : ∀ p ∈ before, (fun b => decide (b < W.heap.size)) p.block = true := fun p hp => by simpa using hW.lt p hp
  have hlt := hW.lt
  refine ⟨ds, gs, before, [], pa, pv, hW, hres _ _ _, hargs _ hold, hvars _ hold, World.keptBut_mono (fun p hp => ⟨hp, ?_⟩) hk, fun _ => ?_⟩
  · rw [hps, List.mem_append] at hp
    exact Or.inr hp
  · obtain ⟨_, _, _, _, _, hz, hn⟩ := hW
    refine ⟨hok, _, _, ([] ++ pa) ++ pv, ⟨[] ++ pa, pv, trodAll_append (hargs _ (fun _ _ => rfl)) (hres _ _ _), hvars _ (fun _ _ => rfl), rfl, ?_, ?_⟩, ?_⟩
    · intro b off hp
      have hp' : MemPlace.cell b off ∈ before := by rw [hps]; simpa using hp
      rw [hfz ⟨b, off, none⟩ (hlt _ hp')]
      exact hz b off hp'
    · intro ha
      have := hn ha
      rw [hps] at this
      simpa using this
    · intro p hp _
      rw [hps]
      simpa using hp

/-- a law of plain data -/
theorem law_contract {C : Cfg} (hP : C.P = P) (hgo : NoGo P) (hm : P.follows .mixedOrders = true) (hext : ExtOK C) {f : FuncId} {fn : Func} {s : ChangeSpec} {N : Nat} {apart fresh handsOn again : Bool} {tb : TypeId}
    (hpl : fn.params.toList.all (plainT P N) = true) (hvars : s.vars = []) (hspec : ∀ ds : List (DataW HH), ds.length = fn.params.size → s.fn HH ds = { results := [.lit (.bool true)], args := ds })
    (hrt : fn.resultTypes = #[tb]) (htb : P.underlying tb = some .bool)
    (hlaw : ∀ xs, ArgsOf P N fn.params.toList xs → ∃ H', lim C (.call f xs { objs := [], lock := 0 }) = some (.ret (.v (.bool true)) H'))
    {W : World} {base : Nat} {args : Array Value} {ds gs : List (DataW HH)} {before : List MemPlace}
    (hval : ∀ (j : Nat) t v, fn.params[j]? = some t → args[j]? = some v → Value.okWide P W .any base t v)
    (hW : DataW.Whole enc P fn.params.toList s.vars apart W args.toList ds gs before) (hg : laidOk (allZ W) := by intro p hp; cases hp) :
    Calls P f args W fun e W' => ∃ v, e = .returned v ∧ s.post enc P fn apart fresh handsOn again W args v W' := by
  subst hP
  have hW' := hW
  obtain ⟨p, q, hA, hV, rfl, hfz, hnd⟩ := hW
  have hV' := hV
  rw [hvars] at hV'
  obtain ⟨rfl, rfl⟩ := trodVars_none hV'
  obtain ⟨xs, hxs, hax⟩ := args_rep hpl (fun j t v ht hv => hval j t v (by simpa using ht) (by simpa using hv)) hA
  obtain ⟨H', hl⟩ := hlaw xs hax
  have hc := top_calls hg hgo hm hext hl hxs
  have hlen : ds.length = fn.params.size := by have := trodAll_len hA; simpa using this
  have hsf : s.fn HH (ds ++ []) = { results := [.lit (.bool true)], args := ds } := by rw [List.append_nil]; exact hspec ds hlen
  refine Calls.mono' hc ?_
  rintro e W' ⟨rfl, hh, hsz, hos, hout, -, hfr⟩
  refine ⟨_, rfl, post_of_old (pa := p) (pv := []) hW' ?_ ?_ ?_ rfl (World.keptBut_mono (fun _ h => h.elim) (kept_of hos hout hh)) hfr ?_⟩
  · intro b sp hd
    rw [hsf, hrt]
    exact trodAll_mk1 (shut_bool htb true)
  · intro sp hsp
    rw [hsf]
    exact trod_after hh hpl hA fun x hx => hsp x (List.mem_append_left _ hx)
  · intro sp hsp
    rw [hsf, hvars]
    rfl
  · exact ok_one hrt rfl (okWide_bool_mk htb true)
end
end Go.Ev
/- Closed evaluations, in pieces that are told once. -/
namespace Go.Ev

/-- a call on closed arguments, and what it answers -/
structure Tell where
  f : Nat
  K : List AV
  R : AV

def tabHas : List Tell → Nat → Bool
  | [], _ => false
  | t :: r, f => Nat.beq t.f f || tabHas r f
def tabFn : List Tell → Nat → List AV → Option AV
  | [], _, _ => none
  | t :: r, f, args => if Nat.beq t.f f && listEq (eqA 30) args t.K then some t.R else tabFn r f args
def tabExt (e : FuncId → Option (List AV → Option AV)) (T : List Tell) : FuncId → Option (List AV → Option AV) := fun f => if tabHas T f then some (tabFn T f) else e f
def Cfg.more (C : Cfg) (e : FuncId → Option (List AV → Option AV)) : Cfg := { C with ext := e }

/-- a call that looks at memory, and what it answers -/
structure TellH where
  f : Nat
  K : List AV
  G : List (Option AObj)
  R : AV

def eqEnt : List (AV × AV × Nat) → List (AV × AV × Nat) → Bool
  | [], [] => true
  | (a, b, n) :: r, (a', b', n') :: s => eqQ 30 a a' && eqQ 30 b b' && Nat.beq n n' && eqEnt r s
  | _, _ => false
def sameX : Option AObj → Option AObj → Bool
  | none, none => true
  | some .dead, some .dead => true
  | some .dfr, some .dfr => true
  | some (.cells v m e sz g cs), some (.cells v' m' e' sz' g' cs') => Nat.beq v v' && Nat.beq m m' && Nat.beq e e' && Nat.beq sz sz' && (g == g') && eqLQ (eqQ 30) cs cs'
  | some (.map m es c), some (.map m' es' c') => Nat.beq m m' && eqEnt es es' && Nat.beq c c'
  | _, _ => false
def sameL : List (Option AObj) → List (Option AObj) → Bool
  | [], [] => true
  | x :: r, y :: s => sameX x y && sameL r s
  | _, _ => false
theorem eqEnt_eq : ∀ {l m : List (AV × AV × Nat)}, eqEnt l m = true → l = m
  | [], [], _ => rfl
  | [], _ :: _, h => by cases h
  | _ :: _, [], h => by cases h
  | (a, b, n) :: r, (a', b', n') :: s, h => by
    simp only [eqEnt, Bool.and_eq_true] at h
    obtain ⟨⟨⟨h1, h2⟩, h3⟩, h4⟩ := h
    rw [eqQ_eq 30 _ _ h1, eqQ_eq 30 _ _ h2, Nat.eq_of_beq_eq_true h3, eqEnt_eq h4]
theorem sameX_eq {x y : Option AObj} (h : sameX x y = true) : x = y := by
  unfold sameX at h
  split at h
  · rfl
  · rfl
  · rfl
  · simp only [Bool.and_eq_true, beq_iff_eq] at h
    obtain ⟨⟨⟨⟨⟨h1, h2⟩, h3⟩, h4⟩, h5⟩, h6⟩ := h
    rw [Nat.eq_of_beq_eq_true h1, Nat.eq_of_beq_eq_true h2, Nat.eq_of_beq_eq_true h3, Nat.eq_of_beq_eq_true h4, h5, eqLQ_eq (eqQ_eq 30) h6]
  · simp only [Bool.and_eq_true] at h
    obtain ⟨⟨h1, h2⟩, h3⟩ := h
    rw [Nat.eq_of_beq_eq_true h1, eqEnt_eq h2, Nat.eq_of_beq_eq_true h3]
  · cases h
theorem sameL_eq : ∀ {l m : List (Option AObj)}, sameL l m = true → l = m
  | [], [], _ => rfl
  | [], _ :: _, h => by cases h
  | _ :: _, [], h => by cases h
  | x :: r, y :: s, h => by
    simp only [sameL, Bool.and_eq_true] at h
    rw [sameX_eq h.1, sameL_eq h.2]
def tabHHas : List TellH → Nat → Bool
  | [], _ => false
  | t :: r, f => Nat.beq t.f f || tabHHas r f
def tabH : List TellH → Nat → List AV → Heap → Option AV
  | [], _, _, _ => none
  | t :: r, f, args, H => if Nat.beq t.f f && (eqLQ (eqQ 30) args t.K && sameL H.objs t.G) then some t.R else tabH r f args H
def atom1 : AV → Bool
  | .v _ => true
  | _ => false
/-- a value that leads to no memory -/
def atomR : AV → Bool
  | .v _ => true
  | .tup cs => cs.all atom1
  | .agg cs => cs.all atom1
  | _ => false
/-- a call on arguments that lie in memory: what it answers if nothing of that memory is turned -/
def borH (T : List Tell) (f : Nat) (args : List AV) (H : Heap) : Option AV :=
  match freezeL { H with lock := 0 } 100000 args with
  | some l => match tabFn T f l with | some R => if atomR R then some R else none | none => none
  | none => none
def tabX (T : List Tell) (TH : List TellH) (f : Nat) (args : List AV) (H : Heap) : Option AV := match tabH TH f args H with | some v => some v | none => borH T f args H
def tabExh (e : FuncId → Option (List AV → Heap → Option AV)) (T : List Tell) (TH : List TellH) : FuncId → Option (List AV → Heap → Option AV) := fun f => if tabHHas TH f || tabHas T f then some (tabX T TH f) else e f
def Cfg.more2 (C : Cfg) (e : FuncId → Option (List AV → Option AV)) (x : FuncId → Option (List AV → Heap → Option AV)) : Cfg := { C with ext := e, exh := x }
def ansH (n : Nat) (o : Option Out) : Option AV := match o with | some (.ret v H) => freezeV { H with lock := n } 1000000 v | _ => none

/-- what is told of a call is so -/
def GoodC (C : Cfg) (t : Tell) : Prop := (∃ e x, ExtOK (C.more2 e x) ∧ Ans (C.more2 e x) t.f t.K t.R) ∧ boundL t.K = 0
def GoodH (C : Cfg) (t : TellH) : Prop := (∃ e x, ExtOK (C.more2 e x) ∧ ∃ n, ansH t.G.length (evT (C.more2 e x) n (.call t.f t.K { objs := t.G, lock := t.G.length })) = some t.R) ∧ (Nat.beq (boundL t.K) 0 || t.K.any isYld) = false
def AllG (C : Cfg) : List Tell → Prop
  | [] => True
  | t :: r => GoodC C t ∧ AllG C r
def AllH (C : Cfg) : List TellH → Prop
  | [] => True
  | t :: r => GoodH C t ∧ AllH C r

theorem tabFn_some {C : Cfg} : ∀ {T : List Tell} {f : Nat} {args : List AV} {v : AV}, AllG C T → tabFn T f args = some v → ∃ t, GoodC C t ∧ t.f = f ∧ args = t.K ∧ v = t.R
  | [], _, _, _, _, h => by cases h
  | t :: r, f, args, v, hT, h => by
    unfold tabFn at h
    split at h
    · rename_i hq
      simp only [Bool.and_eq_true] at hq
      exact ⟨t, hT.1, Nat.eq_of_beq_eq_true hq.1, listEq_eq (eqA_eq 30) hq.2, by simpa using h.symm⟩
    · exact tabFn_some hT.2 h
theorem tabH_some {C : Cfg} : ∀ {T : List TellH} {f : Nat} {args : List AV} {H : Heap} {v : AV}, AllH C T → tabH T f args H = some v → ∃ t, GoodH C t ∧ t.f = f ∧ args = t.K ∧ H.objs = t.G ∧ v = t.R
  | [], _, _, _, _, _, h => by cases h
  | t :: r, f, args, H, v, hT, h => by
    unfold tabH at h
    split at h
    · rename_i hq
      simp only [Bool.and_eq_true] at hq
      exact ⟨t, hT.1, Nat.eq_of_beq_eq_true hq.1, eqLQ_eq (eqQ_eq 30) hq.2.1, sameL_eq hq.2.2, by simpa using h.symm⟩
    · exact tabH_some hT.2 h

theorem atom1_rep {Z Z' : Fzn} {ρ ρ' : Pls} {x : AV} {v : Value} (h : Rep Z ρ x v) (ha : atom1 x = true) : Rep Z' ρ' x v := by
  cases h with
  | v h => exact .v h
  | _ => cases ha
theorem atomR_rep {Z Z' : Fzn} {ρ ρ' : Pls} {x : AV} {v : Value} (h : Rep Z ρ x v) (ha : atomR x = true) : Rep Z' ρ' x v := by
  cases h with
  | v h => exact .v h
  | agg hl h => exact .agg hl fun i c v hc hv => atom1_rep (h i c v hc hv) (List.all_eq_true.1 (show List.all _ atom1 = true from ha) c (List.mem_of_getElem? hc))
  | tup hl h => exact .tup hl fun i c v hc hv => atom1_rep (h i c v hc hv) (List.all_eq_true.1 (show List.all _ atom1 = true from ha) c (List.mem_of_getElem? hc))
  | _ => cases ha

/-- what a run from memory that is all frozen leaves, of a world that stands for more -/
theorem back_frozen {Z : Fzn} {ρ : Pls} {H : Heap} {w : World} (hs : Sim Z ρ H w) {R : AV} (hR : atomR R = true) {x : Value} {w' : World} (h : After (allZ w) noPls { objs := [], lock := 0 } w R { objs := [], lock := 0 } x w') : After Z ρ H w R H x w' := by
  obtain ⟨Z', ρ', h1, h2, h3⟩ := h
  have hsame : ∀ k, k < w.heap.size → w'.heap[k]? = w.heap[k]? := fun k hk => h3.frame k hk (start_own w k)
  refine ⟨Z, ρ, atomR_rep h1 hR, ⟨fun b o hb hl => ?_, hs.inj, fun k o hk => ?_, hs.fresh, hs.lk, hs.lg⟩, ⟨.refl _, .refl _, fun k hk _ => hsame k hk, fun _ _ h => h, h3.size, h3.os, h3.output, h3.tape, h3.drawn, h3.fz, rfl, fun _ _ => rfl, Nat.le_refl _, fun _ _ _ => rfl, fun _ _ _ => rfl, fun _ _ h _ => ⟨h, fun _ => rfl⟩⟩⟩
  · obtain ⟨pl, obj, q1, q2, q3, q4⟩ := hs.objs b o hb hl
    exact ⟨pl, obj, q1, (hsame _ (Array.getElem?_eq_some_iff.1 q2).1).trans q2, q3, q4⟩
  · have := hs.zok k o hk
    exact (hsame _ (Array.getElem?_eq_some_iff.1 this).1).trans this

theorem extOK_tab {C : Cfg} (hgo : NoGo C.P) (hm : C.P.follows .mixedOrders = true) (h0 : ExtOK C) {T : List Tell} (hT : AllG C T) {TH : List TellH} (hH : AllH C TH) : ExtOK (C.more2 (tabExt C.ext T) (tabExh C.exh T TH)) := by
  refine ⟨fun f g hf args v hv Z ρ H w vals hs hl => ?_, h0.lay, fun f g hf args v H hv Z ρ w vals hs hl => ?_⟩
  · have hf' : (if tabHas T f then some (tabFn T f) else C.ext f) = some g := hf
    split at hf'
    · simp only [Option.some.injEq] at hf'
      subst hf'
      obtain ⟨t, ⟨⟨e, x, he, ha⟩, hb⟩, rfl, rfl, rfl⟩ := tabFn_some hT hv
      exact ext_of_ans (C := C.more2 e x) hgo hm he ha hb Z ρ H w vals hs hl
    · exact h0.ext f g hf' args v hv Z ρ H w vals hs hl
  · have hf' : (if tabHHas TH f || tabHas T f then some (tabX T TH f) else C.exh f) = some g := hf
    split at hf'
    · simp only [Option.some.injEq] at hf'
      subst hf'
      unfold tabX at hv
      split at hv
      case h_2 =>
        unfold borH at hv
        split at hv
        · rename_i l hfz
          split at hv
          · rename_i R hR
            split at hv
            · rename_i hat
              simp only [Option.some.injEq] at hv
              subst hv
              have hlz : RepL (allZ w) noPls l vals := (freeze_rep (ρ := noPls) (Z1 := Z) (Z2 := allZ w) (ρ1 := ρ) (H1 := { H with lock := 0 }) (w1 := w) ⟨hs.objs, hs.inj, hs.zok, hs.fresh, Nat.zero_le _, hs.lg⟩ (fun k o hk => hs.zok k o hk) (fun b o pl _ _ _ _ => rfl) (fun b v p hb _ => absurd hb (Nat.not_lt_zero _)) 100000).2 _ _ _ hfz hl
              obtain ⟨t, ⟨⟨e, x, he, ha⟩, hb⟩, rfl, rfl, rfl⟩ := tabFn_some hT hR
              have hm1 := ext_of_ans (C := C.more2 e x) hgo hm he ha hb (allZ w) noPls { objs := [], lock := 0 } w vals (start_sim w (hs.lg.mono fun k o hk => hs.zok k o hk)) hlz
              rcases hm1 with ⟨y, w', h1, h2⟩ | ⟨h1, h2⟩
              · exact Or.inl ⟨y, w', h1, back_frozen hs hat h2⟩
              · exact Or.inr ⟨h1, Calls.mono' h2 fun en w' he => by
                  obtain ⟨y, rfl, h3⟩ := he
                  exact ⟨y, rfl, back_frozen hs hat h3⟩⟩
            · cases hv
          · cases hv
        · cases hv
      rename_i v2 hv2
      simp only [Option.some.injEq] at hv
      subst hv
      obtain ⟨t, ⟨⟨e, x, he, n, ha⟩, hb⟩, rfl, rfl, hG, rfl⟩ := tabH_some hH hv2
      have hrec : RecOK C.P (evT (C.more2 e x) n) := (ev_sound (C := C.more2 e x) hgo he (draw_ok hm he) n).1
      let D : Cfg := { C.more2 e x with pure := fun _ _ _ => true }
      have hk : callKind D t.f t.f none t.K = 2 := by
        simp only [Bool.or_eq_false_iff] at hb
        unfold callKind
        simp only [hb.1, hb.2, Bool.false_eq_true, if_false, if_true, D]
      have hB : callB D (evT (C.more2 e x) n) t.f t.f none t.K H = some (t.R, H) := by
        unfold callB; rw [hk]
        have h1 : ({ H with lock := H.size } : Heap) = { objs := t.G, lock := t.G.length } := by
          obtain ⟨objs, lock⟩ := H
          simp only at hG
          subst hG
          rfl
        have h2 : H.size = t.G.length := by unfold Heap.size; rw [hG]
        simp only
        rw [h1, h2]
        unfold ansH at ha
        split at ha
        · rename_i v1 H1 h3
          rw [h3]
          simp only [ha, Option.map_some]
        · cases ha
      obtain ⟨hbody, hc⟩ := callB_sound (C := D) hrec hs hl hB
      exact Or.inr ⟨hbody.run _ _, hc⟩
    · exact h0.exh f g hf' args v H hv Z ρ w vals hs hl

def ansC (o : Option Out) : Option AV := match o with | some (.ret v H) => freezeV { H with lock := 0 } 1000000 v | _ => none
theorem ans_of_evC {C : Cfg} {n : Nat} {f : FuncId} {args : List AV} {v : AV} (h : ansC (evT C n (.call f args { objs := [], lock := 0 })) = some v) : Ans C f args v := by
  refine Ans.iff.2 ?_
  cases ho : evT C n (.call f args { objs := [], lock := 0 }) with
  | none => rw [ho] at h; cases h
  | some o =>
    rw [ho] at h
    cases o with
    | go => cases h
    | ret x H => exact ⟨x, H, lim_iff.2 ⟨n, ho⟩, h⟩

theorem goodC {C : Cfg} (hgo : NoGo C.P) (hm : C.P.follows .mixedOrders = true) (h0 : ExtOK C) {t : Tell} (T : List Tell) (hT : AllG C T) (TH : List TellH) (hH : AllH C TH) (n : Nat)
    (h : ansC (evT (C.more2 (tabExt C.ext T) (tabExh C.exh T TH)) n (.call t.f t.K { objs := [], lock := 0 })) = some t.R) (hb : boundL t.K = 0) : GoodC C t :=
  ⟨⟨_, _, extOK_tab hgo hm h0 hT hH, ans_of_evC h⟩, hb⟩
theorem goodH {C : Cfg} (hgo : NoGo C.P) (hm : C.P.follows .mixedOrders = true) (h0 : ExtOK C) {t : TellH} (T : List Tell) (hT : AllG C T) (TH : List TellH) (hH : AllH C TH) (n : Nat)
    (h : ansH t.G.length (evT (C.more2 (tabExt C.ext T) (tabExh C.exh T TH)) n (.call t.f t.K { objs := t.G, lock := t.G.length })) = some t.R) (hb : (Nat.beq (boundL t.K) 0 || t.K.any isYld) = false) : GoodH C t :=
  ⟨⟨_, _, extOK_tab hgo hm h0 hT hH, n, h⟩, hb⟩
theorem freeze_toV {H : Heap} {K : Nat} {x : AV} {y : Value} (h : freezeV H K x = some (.v y)) : x = .v y := by
  cases K with
  | zero => cases h
  | succ K =>
    unfold freezeV at h
    cases x with
    | v z => simpa using h
    | ro z k => simp at h
    | vs s l c => simp at h
    | agg l => simp only [Option.map_eq_some_iff] at h; obtain ⟨_, _, h⟩ := h; cases h
    | tup l => simp only [Option.map_eq_some_iff] at h; obtain ⟨_, _, h⟩ := h; cases h
    | ifc t z => simp only [Option.map_eq_some_iff] at h; obtain ⟨_, _, h⟩ := h; cases h
    | mp b => simp only at h; split at h <;> simp at h
    | yld b => simp only at h; split at h <;> simp at h
    | fn f a b => simp only at h; split at h <;> simp at h
    | ptr b v k =>
      simp only at h
      split at h
      · simp at h
      · split at h
        · split at h
          · split at h <;> simp at h
          · simp at h
        · simp at h
    | sl b v off len c =>
      simp only at h
      split at h
      · simp at h
      · split at h
        · split at h
          · split at h
            · simp at h
            · split at h
              · split at h <;> simp at h
              · simp at h
          · simp at h
        · simp at h
theorem Ans.limT {C : Cfg} {f : FuncId} {args : List AV} (h : Ans C f args (.v (.bool true))) : ∃ H', Go.Ev.lim C (.call f args { objs := [], lock := 0 }) = some (.ret (.v (.bool true)) H') := by
  obtain ⟨x, H, h1, h2⟩ := Ans.iff.1 h
  rw [freeze_toV h2] at h1
  exact ⟨H, h1⟩

/-- a law without arguments -/
theorem closed_law {C : Cfg} {f : FuncId} (h : GoodC C ⟨f, [], .v (.bool true)⟩) : ∃ e x, ExtOK (C.more2 e x) ∧ ∀ P N xs, ArgsOf P N [] xs → ∃ H', Go.Ev.lim (C.more2 e x) (.call f xs { objs := [], lock := 0 }) = some (.ret (.v (.bool true)) H') := by
  obtain ⟨⟨e, x, he, ha⟩, -⟩ := h
  refine ⟨e, x, he, fun P N xs hx => ?_⟩
  cases hx
  exact ha.limT
end Go.Ev
/- Do two slices lie in one memory: what stands for it. -/
namespace Go.Ev

def lapsA (args : List AV) (H : Heap) : Option AV :=
  match args with
  | [x, .sl b ver _ _ _] =>
    match H.get b with
    | some (.cells v _ _ _ _ _) =>
      if v = ver then
        match x with
        | .vs sz _ _ => if sz = 0 then none else some (.v (.bool false))
        | .sl b' ver' _ _ _ =>
          match H.get b' with
          | some (.cells v' _ _ _ _ _) => if v' = ver' then (if b' = b then none else some (.v (.bool false))) else none
          | _ => none
        | _ => none
      else none
    | _ => none
  | _ => none

theorem run_laps {P : Program} (w : World) (tS tR e : TypeId) (ht : P.underlying tS = some (.slice e)) (size : Nat) (hz : ∀ w, (Go.sizeOf e).run P w = .ok size w)
    (a b : Addr) (la ca lb cb : Nat) (hne : a.block ≠ b.block) {arrA arrB : Array Value} {eA eB : TypeId} {fzA : Nat × Nat}
    (hA : w.heap[a.block]? = some (.cells arrA eA fzA)) (hB : w.heap[b.block]? = some (.cells arrB eB (0, 0))) (hn : la = 0 ∨ arrA.size ≠ 0 ∨ fzA = (0, 0)) :
    (Extern.SlicesOverlaps.overlaps #[tS, tS] #[tR] #[.slice (some a) la ca, .slice (some b) lb cb]).run P w = .ok (.bool false) w := by
  have hnb : (a.block != b.block) = true := by simpa using hne
  have hnb' : (a.block == b.block) = false := by simpa using hne
  change Sem.run P (α := Value) (do
    let some t := (#[tS, tS] : Array TypeId)[0]? | stuck "slices.overlaps: no parameter types"
    let .slice elem ← underlying t | stuck "slices.overlaps: slice type expected"
    let size ← sizeOf elem
    match (some a : Option Addr), (some b : Option Addr) with
    | some a, some b =>
      if la = 0 ∨ lb = 0 ∨ size = 0 then pure (Value.bool false)
      else if a.block != b.block && (← frozen a) && (← frozen b) then unsupported .addressObserved
      else do
        if a.block != b.block then do
          noView a; noView b
          if ← mayBeOne a b then return Value.bool ((← choose (.extern "sameAddr.stringBytes" 2)) == 1)
        pure (Value.bool (a.block == b.block && a.off < b.off + lb * size && b.off < a.off + la * size))
    | _, _ => pure (Value.bool false)) w = _
  have hsa : w.shape? a.block = some (eA, arrA.size) := by simp [World.shape?, hA]
  have hsb : w.shape? b.block = some (eB, arrB.size) := by simp [World.shape?, hB]
  have hfb : ∀ o, w.frozen? { block := b.block, off := o } = false := fun o => by simp [World.frozen?, hB]
  have hfb' : w.frozen? b = false := by simp [World.frozen?, hB]
  by_cases h0 : la = 0 ∨ lb = 0 ∨ size = 0
  · simp [run_underlying ht, hz, h0]
  · have hn' : arrA.size ≠ 0 ∨ fzA = (0, 0) := by
      rcases hn with h | h
      · exact absurd (Or.inl h) h0
      · exact h
    rcases hn' with hk | hk
    · cases hka : arrA.size with
      | zero => exact absurd hka hk
      | succ n =>
        rw [hka] at hsa
        generalize hfa : w.frozen? a = fa
        generalize hfe : w.frozen? { block := a.block, off := n + 1 } = fe
        cases fa <;> cases fe <;> simp [run_underlying ht, hz, h0, hnb, hnb', frozen, noView, viewAt, mayBeOne, stringish, shape, Sem.run, hsa, hsb, hfa, hfe, hfb, hfb']
    · subst hk
      have hfa : ∀ o, w.frozen? { block := a.block, off := o } = false := fun o => by simp [World.frozen?, hA]
      have hfa' : w.frozen? a = false := by simp [World.frozen?, hA]
      simp [run_underlying ht, hz, h0, hnb, hnb', frozen, noView, viewAt, mayBeOne, stringish, shape, Sem.run, hsa, hsb, hfa, hfa', hfb, hfb']

theorem run_laps0 {P : Program} (w : World) (tS tR e : TypeId) (ht : P.underlying tS = some (.slice e)) (size : Nat) (hz : ∀ w, (Go.sizeOf e).run P w = .ok size w) (a b : Addr) (ca lb cb : Nat) :
    (Extern.SlicesOverlaps.overlaps #[tS, tS] #[tR] #[.slice (some a) 0 ca, .slice (some b) lb cb]).run P w = .ok (.bool false) w := by
  change Sem.run P (α := Value) (do
    let some t := (#[tS, tS] : Array TypeId)[0]? | stuck "slices.overlaps: no parameter types"
    let .slice elem ← underlying t | stuck "slices.overlaps: slice type expected"
    let size ← sizeOf elem
    match (some a : Option Addr), (some b : Option Addr) with
    | some a, some b =>
      if (0 : Nat) = 0 ∨ lb = 0 ∨ size = 0 then pure (Value.bool false)
      else if a.block != b.block && (← frozen a) && (← frozen b) then unsupported .addressObserved
      else do
        if a.block != b.block then do
          noView a; noView b
          if ← mayBeOne a b then return Value.bool ((← choose (.extern "sameAddr.stringBytes" 2)) == 1)
        pure (Value.bool (a.block == b.block && a.off < b.off + lb * size && b.off < a.off + 0 * size))
    | _, _ => pure (Value.bool false)) w = _
  simp [run_underlying ht, hz]

theorem exh_laps {P : Program} {f : FuncId} {fn : Func} (hf : P.funcs[f]? = some fn) (hb : fn.body = none) (hn : (fn.name == "runtime.NumGoroutine") = false) (h1 : (Extern.findNext fn).isNone = true)
    {tS tR e : TypeId} (h2 : Extern.find fn = some (Extern.SlicesOverlaps.overlaps #[tS, tS] #[tR])) (ht : P.underlying tS = some (.slice e)) {size : Nat} (hz : ∀ w, (Go.sizeOf e).run P w = .ok size w)
    {args : List AV} {v : AV} {H : Heap} (h : lapsA args H = some v) (Z : Fzn) (ρ : Pls) (w : World) (vals : List Value) (hs : Sim Z ρ H w) (hl : RepL Z ρ args vals) : FnMeets P f vals w (After Z ρ H w v H) := by
  have hrow : ∀ {b : Nat} {v m : Nat} {t : TypeId} {sz : Nat} {g : Bool} {cs : List AV} {pl : Pl}, H.get b = some (.cells v m t sz g cs) → ρ b v = some pl → ∃ arr e, w.heap[pl.blk]? = some (.cells arr e (0, 0)) ∧ Z pl.blk = none := by
    intro b v m t sz g cs pl hg hp
    obtain ⟨pl', obj, q1, q2, q3, q4⟩ := hs.objs b _ hg rfl
    simp only [AObj.ver] at q1
    rw [hp] at q1; cases q1
    cases obj <;> simp only [RepO] at q3
    obtain ⟨rfl, -⟩ := q3
    exact ⟨_, _, q2, q4⟩
  have key : ∀ (a b : Addr) (la ca lb cb : Nat), vals = [.slice (some a) la ca, .slice (some b) lb cb] → a.block ≠ b.block → (∃ arrA eA fzA, w.heap[a.block]? = some (.cells arrA eA fzA) ∧ (la = 0 ∨ arrA.size ≠ 0 ∨ fzA = (0, 0))) →
      (∃ arrB eB, w.heap[b.block]? = some (.cells arrB eB (0, 0))) → FnMeets P f vals w (After Z ρ H w (.v (.bool false)) H) := by
    rintro a b la ca lb cb rfl hne ⟨arrA, eA, fzA, hA, hna⟩ ⟨arrB, eB, hB⟩
    refine Or.inl ⟨.bool false, w, ?_, Z, ρ, .v rfl, hs, Ext.refl _ _ _ _⟩
    have hfn : Extern.findNext fn = none := Option.isNone_iff_eq_none.1 h1
    have := run_laps (P := P) w tS tR e ht size hz a b la ca lb cb hne hA hB hna
    have hn' : ¬ fn.name = "runtime.NumGoroutine" := by
      intro e; rw [e] at hn; simp at hn
    simp [callFunc, hf, hn', hb, hfn, h2, this]
  unfold lapsA at h
  split at h
  · rename_i x b ver off len cap
    obtain ⟨v1, ws, rfl, hv1, hl⟩ := hl.uncons
    obtain ⟨v2, ws, rfl, hv2, hl⟩ := hl.uncons
    have : ws = [] := by have := hl.1; exact List.length_eq_zero_iff.1 this.symm
    subst this
    split at h
    · rename_i vr m t sz g cs hg
      split at h
      · rename_i hver
        subst hver
        cases hv2 with
        | sl hp hc hcn hle =>
        obtain ⟨arrB, eB, hB, hZ⟩ := hrow hg hp
        split at h
        · rename_i sz xs cap1
          split at h
          · cases h
          · rename_i hsz
            simp only [Option.some.injEq] at h; subst h
            cases hv1 with
            | vs hz' ha hs' hl' h' hc' hle' =>
              refine key _ _ _ _ _ _ rfl ?_ ?_ ⟨_, _, hB⟩
              · intro hE
                simp only at hE
                rw [hE, hZ] at hz'; cases hz'
              · refine ⟨_, _, _, hs.zok _ _ hz', ?_⟩
                by_cases hx : xs.length = 0
                · exact .inl hx
                · right; left
                  intro h0
                  have hlen := congrArg List.length ha
                  simp only [Array.length_toList, h0, List.length_append] at hlen
                  cases xs with
                  | nil => exact hx rfl
                  | cons y ys =>
                    have hy := hs' y (by simp)
                    simp only [List.flatMap_cons, List.length_append] at hl'
                    omega
            | vs0 hc' =>
              rename_i a
              refine Or.inl ⟨.bool false, w, ?_, Z, ρ, .v rfl, hs, Ext.refl _ _ _ _⟩
              have hfn : Extern.findNext fn = none := Option.isNone_iff_eq_none.1 h1
              have : ∀ b ca cb lb, (Extern.SlicesOverlaps.overlaps #[tS, tS] #[tR] #[.slice (some a) 0 ca, .slice (some b) lb cb]).run P w = .ok (.bool false) w := fun b ca cb lb => run_laps0 w tS tR e ht size hz a b ca lb cb
              have hn' : ¬ fn.name = "runtime.NumGoroutine" := by
                intro e; rw [e] at hn; simp at hn
              simp [callFunc, hf, hn', hb, hfn, h2, this]
        · rename_i b' ver' off' len' cap'
          split at h
          · rename_i vr' m' t' sz' g' cs' hg'
            split at h
            · rename_i hver'
              subst hver'
              split at h
              · cases h
              · rename_i hbb
                simp only [Option.some.injEq] at h; subst h
                cases hv1 with
                | sl hp' hc' hcn' hle' =>
                obtain ⟨arrA, eA, hA, hZ'⟩ := hrow hg' hp'
                refine key _ _ _ _ _ _ rfl ?_ ⟨_, _, _, hA, .inr (.inr rfl)⟩ ⟨_, _, hB⟩
                intro hE
                exact hbb (hs.inj b' b _ _ _ _ hg' rfl hg rfl (by simpa [AObj.ver] using hp') (by simpa [AObj.ver] using hp) hE)
            · cases h
          · cases h
        · cases h
      · cases h
    · cases h
  · cases h

theorem extOK_laps {C C' : Cfg} (hP : C'.P = C.P) {f : FuncId} (hg : ∀ args v H, lapsA args H = some v → ∀ (Z : Fzn) (ρ : Pls) (w : World) (vals : List Value), Sim Z ρ H w → RepL Z ρ args vals → FnMeets C.P f vals w (After Z ρ H w v H))
    (hext : ExtOK C) (he : C'.ext = C.ext := by rfl) (hlay : C'.lay = C.lay := by rfl) (hexh : C'.exh = fun f' => if Nat.beq f' f then some lapsA else C.exh f') : ExtOK C' := by
  refine ⟨fun f' g' hf' => by rw [hP]; rw [he] at hf'; exact hext.ext f' g' hf', fun f' g' hf' => by rw [hP]; rw [hlay] at hf'; exact hext.lay f' g' hf', fun f' g' hf' args v H hv Z ρ w vals hs hl => ?_⟩
  rw [hP]
  rw [hexh] at hf'
  simp only at hf'
  split at hf'
  · rename_i hb
    have := Nat.eq_of_beq_eq_true hb
    subst this
    simp only [Option.some.injEq] at hf'
    subst hf'
    exact hg args v H hv Z ρ w vals hs hl
  · exact hext.exh f' g' hf' args v H hv Z ρ w vals hs hl
end Go.Ev
/- A function of Go's library that stands for itself: internal/bytealg.IndexByteString. -/
namespace Go.Ev

/-! ### the first byte of a kind -/
def idxB (c : Nat) : Int → List UInt8 → Int
  | _, [] => -1
  | i, b :: r => if Nat.beq b.toNat c then i else idxB c (i + 1) r
theorem idxB_eq (c : UInt8) : ∀ (l : List UInt8) (i : Int), idxB c.toNat i l = if Lib.indexByte l c = -1 then -1 else Lib.indexByte l c + i
  | [], i => by simp [idxB, Lib.indexByte]
  | b :: l, i => by
    unfold idxB Lib.indexByte
    by_cases h : b = c
    · subst h
      have h1 : Nat.beq b.toNat b.toNat = true := Nat.beq_refl _
      simp
    · have h1 : Nat.beq b.toNat c.toNat = false := by
        cases hb : Nat.beq b.toNat c.toNat
        · rfl
        · exact absurd (UInt8.toNat_inj.1 (Nat.eq_of_beq_eq_true hb)) h
      have hge := Lib.indexByte_ge l c
      rw [h1, idxB_eq c l (i + 1)]
      simp only [Bool.false_eq_true, if_false, beq_iff_eq, h]
      by_cases h2 : Lib.indexByte l c = -1
      · simp [h2]
      · simp only [h2, if_false]
        rw [if_neg (by omega)]; omega
def idxStr : List AV → Option AV
  | [.v (.string s), .v (.int .u8 c)] => if 0 ≤ c ∧ c < 256 then some (.v (.int .i64 (idxB c.toNat 0 s.data.toList))) else none
  | _ => none
theorem ext_idx {P : Program} {f : FuncId} {fn : Func} (hf : P.funcs[f]? = some fn) (hb : fn.body = none) (hn : (fn.name == "runtime.NumGoroutine") = false) (h1 : (Extern.findNext fn).isNone = true) (h2 : Extern.find fn = some Extern.BytealgIndexByte.indexByte)
    {args : List AV} {v : AV} (h : idxStr args = some v) (Z : Fzn) (ρ : Pls) (H : Heap) (w : World) (vals : List Value) (hs : Sim Z ρ H w) (hl : RepL Z ρ args vals) : FnMeets P f vals w (After Z ρ H w v H) := by
  unfold idxStr at h
  split at h
  · rename_i s c
    split at h
    · rename_i hc
      obtain ⟨v1, ws, rfl, hv1, hl⟩ := hl.uncons
      obtain ⟨v2, ws, rfl, hv2, hl⟩ := hl.uncons
      have : ws = [] := List.length_eq_zero_iff.1 hl.1.symm
      subst this
      obtain ⟨rfl, -⟩ := hv1.v_inv
      obtain ⟨rfl, -⟩ := hv2.v_inv
      simp only [Option.some.injEq] at h
      subst h
      refine Or.inl ⟨.int .i64 (Lib.indexByte s.data.toList c.toNat.toUInt8), w, ?_, Z, ρ, ?_, hs, Ext.refl _ _ _ _⟩
      · have hfn : Extern.findNext fn = none := Option.isNone_iff_eq_none.1 h1
        have := Lib.run_indexByteString (P := P) s c w
        have hn' : ¬ fn.name = "runtime.NumGoroutine" := by
          intro e; rw [e] at hn; simp at hn
        simp [callFunc, hf, hn', hb, hfn, h2, this]
      · have hcn : c.toNat.toUInt8.toNat = c.toNat := by
          have : c.toNat < 256 := by omega
          simp [Nat.toUInt8, Nat.mod_eq_of_lt this]
        have := idxB_eq c.toNat.toUInt8 s.data.toList 0
        rw [hcn] at this
        have e : idxB c.toNat 0 s.data.toList = Lib.indexByte s.data.toList c.toNat.toUInt8 := by
          rw [this]; split
          · rename_i h; exact h.symm
          · omega
        rw [e]; exact .v rfl
    · cases h
  · cases h
end Go.Ev
/- A function of Go's library that stands for itself: strings.Join. -/
namespace Go.Ev
open Go.Proofs Go.Shelf Go.RowKit

theorem Sim.below {Z : Fzn} {ρ : Pls} {H : Heap} {w w' : World} (hs : Sim Z ρ H w) (hb : Below w.heap.size w w') : Sim Z ρ H w' :=
  ⟨fun b o h hl => let ⟨pl, obj, h1, h2, h3, h4⟩ := hs.objs b o h hl; ⟨pl, obj, h1, (hb.block _ (Array.getElem?_eq_some_iff.1 h2).1).trans h2, h3, h4⟩, hs.inj,
    fun k o hk => (hb.block k (Array.getElem?_eq_some_iff.1 (hs.zok k o hk)).1).trans (hs.zok k o hk), hs.fresh, hs.lk, hs.lg⟩
theorem Ext.below {Z : Fzn} {ρ : Pls} {H : Heap} {w w' : World} (hb : Below w.heap.size w w') : Ext Z ρ H w Z ρ H w' :=
  ⟨.refl _, .refl _, fun k hk _ => hb.block k hk, fun _ _ h => h, hb.size, hb.os, hb.output, hb.tape, (fun s => nomatch (show true = false from s)), fun _ ha => hb.frozen ha, rfl, fun _ _ => rfl, Nat.le_refl _, fun _ _ _ => rfl, fun _ _ _ => rfl, fun _ _ h _ => ⟨h, fun _ => rfl⟩⟩

/-! ### strings.Join -/
def strsOf : List AV → Option (List ByteArray)
  | [] => some []
  | .v (.string s) :: r => match strsOf r with | some l => some (s :: l) | none => none
  | _ => none
def joinStr : List AV → Option AV
  | [.v (.slice none 0 0), .v (.string _)] => some (.v (.string ⟨#[]⟩))
  | [.vs _ xs _, .v (.string sep)] =>
    match strsOf xs with
    | some l => if l.length ≤ 100000 ∧ (Lib.join (l.map (·.data.toList)) sep.data.toList).length ≤ 100000 then some (.v (.string ⟨(Lib.join (l.map (·.data.toList)) sep.data.toList).toArray⟩)) else none
    | none => none
  | _ => none
theorem strsOf_some : ∀ {xs : List AV} {l : List ByteArray}, strsOf xs = some l → xs = l.map fun s => .v (.string s)
  | [], l, h => by simp [strsOf] at h; subst h; rfl
  | x :: r, l, h => by
    unfold strsOf at h
    split at h
    · rename_i h'; cases h'
    · rename_i s r' h'
      simp only [List.cons.injEq] at h'
      obtain ⟨rfl, rfl⟩ := h'
      split at h
      · rename_i l' hl
        simp only [Option.some.injEq] at h
        subst h
        rw [strsOf_some hl]; rfl
      · cases h
    · cases h
theorem flat_strs : ∀ l : List ByteArray, (l.map fun s => AV.v (.string s)).flatMap AV.cells = l.map fun s => AV.v (.string s)
  | [] => rfl
  | a :: r => by simp only [List.map_cons, List.flatMap_cons, flat_strs r]; rfl
theorem ext_join {P : Program} {ρn : Ren} (L : Lays.n156 P ρn) (X : Builder.Extra P ρn) {f : FuncId} (hf : ρn.f 156 = f) (hbody : HasBody P f)
    {args : List AV} {v : AV} (h : joinStr args = some v) (Z : Fzn) (ρ : Pls) (H : Heap) (w : World) (vals : List Value) (hs : Sim Z ρ H w) (hl : RepL Z ρ args vals) : FnMeets P f vals w (After Z ρ H w v H) := by
  subst hf
  unfold joinStr at h
  split at h
  · rename_i sep
    obtain ⟨v1, ws, rfl, hv1, hl⟩ := hl.uncons
    obtain ⟨v2, ws, rfl, hv2, hl⟩ := hl.uncons
    have : ws = [] := List.length_eq_zero_iff.1 hl.1.symm
    subst this
    obtain ⟨rfl, -⟩ := hv1.v_inv
    obtain ⟨rfl, -⟩ := hv2.v_inv
    simp only [Option.some.injEq] at h
    subst h
    refine Or.inr ⟨hbody.run _ _, Calls.mono' (Any.strings_Join_none L X none 0 sep w) ?_⟩
    rintro e w' ⟨rfl, rfl⟩
    exact ⟨_, rfl, Z, ρ, .v rfl, hs, Ext.refl _ _ _ _⟩
  · rename_i sz xs cap sep
    obtain ⟨v1, ws, rfl, hv1, hl⟩ := hl.uncons
    obtain ⟨v2, ws, rfl, hv2, hl⟩ := hl.uncons
    have : ws = [] := List.length_eq_zero_iff.1 hl.1.symm
    subst this
    obtain ⟨rfl, -⟩ := hv2.v_inv
    split at h
    · rename_i l hstr
      split at h
      · rename_i hc
        simp only [Option.some.injEq] at h
        subst h
        have hxs := strsOf_some hstr
        refine Or.inr ⟨hbody.run _ _, ?_⟩
        cases hv1 with
        | vs hz ha hsz hl' hh hcap hle =>
          rename_i c blk arr e fz pre vs post
          have hblk := (Array.getElem?_eq_some_iff.1 (hs.zok _ _ hz)).1
          have hlen : xs.length = l.length := by rw [hxs, List.length_map]
          have hcells : (xs.flatMap AV.cells) = l.map fun s => AV.v (.string s) := by
            rw [hxs]
            exact flat_strs l
          have hget : ∀ (j : Nat) (x : ByteArray), l[j]? = some x → w.cell? ⟨blk, pre.length + j, none⟩ = some (.string x) := by
            intro j x hj
            have h1 : (xs.flatMap AV.cells)[j]? = some (.v (.string x)) := by rw [hcells, List.getElem?_map, hj]; rfl
            have hlt : j < vs.length := by rw [← hl']; exact (List.getElem?_eq_some_iff.1 h1).1
            have h2 : vs[j]? = some vs[j] := List.getElem?_eq_getElem hlt
            have h3 := (hh j _ _ h1 h2).v_inv.1
            rw [cell_at (hs.zok _ _ hz) ha h2, h3]
          have hcall := Any.strings_Join L X blk pre.length c l sep w hget hblk (by have := hc.1; omega) (by omega) (by have := hc.2; omega)
          rw [← hlen] at hcall
          refine Calls.mono' hcall ?_
          rintro e w' ⟨rfl, hb⟩
          exact ⟨_, rfl, Z, ρ, .v rfl, hs.below hb, Ext.below hb⟩
        | vs0 hcap =>
          have hl0 : l = [] := by
            cases l with
            | nil => rfl
            | cons a r => simp at hxs
          subst hl0
          refine Calls.mono' (Any.strings_Join_none L X _ _ sep w) ?_
          rintro e w' ⟨rfl, rfl⟩
          exact ⟨_, rfl, Z, ρ, .v rfl, hs, Ext.refl _ _ _ _⟩
      · cases h
    · cases h
  · cases h
end Go.Ev
/-
  DERIVED: THE SHELF's CONTRACTS AT THIS DUMP, IN PLAIN WORDS (tools/lay-plain.mjs out of 'TryzShelf.lean', which tools/lay-shelf.mjs wrote): THE SAME DECLARATIONS UNDER THE SAME NAMES: 'import', 'namespace', 'open', 'def', 'theorem' AND NOTHING ELSE: no command of the shelf's: FOR A HAND-IN. Each laying: the table of numbers ('.._ren') and one theorem, a field a fact of the dump's own or the kernel's comparison; each contract: ONE APPLICATION.
-/
namespace Go.Proofs
open Go.Shelf
def Tryz.lays156_ren : Go.Shelf.Ren := ⟨fun | 156 => 201 | 165 => 231 | 166 => 232 | 169 => 233 | 240 => 253 | 241 => 254 | 276 => 266 | 277 => 267 | n => n, fun | 31 => 66 | 9 => 9 | 3 => 3 | 4 => 4 | 0 => 0 | 20 => 20 | 72 => 334 | 76 => 338 | 70 => 331 | 37 => 332 | 75 => 337 | 127 => 362 | 164 => 381 | 5 => 5 | 80 => 340 | n => n, fun | n => n⟩
theorem Tryz.lays156 : Go.Proofs.Lays.n156 Tryz.prog Tryz.lays156_ren := {
  mixed := by kernel_rfl
  f156 := Tryz.func201.trans (congrArg some (by kernel_rfl))
  f165 := Tryz.func231.trans (congrArg some (by kernel_rfl))
  f166 := Tryz.func232.trans (congrArg some (by kernel_rfl))
  f169 := Tryz.func233.trans (congrArg some (by kernel_rfl))
  f240 := Tryz.func253.trans (congrArg some (by kernel_rfl))
  f241 := Tryz.func254.trans (congrArg some (by kernel_rfl))
  f276 := Tryz.func266.trans (congrArg some (by kernel_rfl))
  f277 := Tryz.func267.trans (congrArg some (by kernel_rfl))
  t0 := Tryz.underlying0
  a0 := Tryz.isAgg0
  z0 := Tryz.sizeOf0
  v0 := Tryz.zeroValue0
  t3 := Tryz.underlying3
  a3 := Tryz.isAgg3
  z3 := Tryz.sizeOf3
  v3 := Tryz.zeroValue3
  t4 := Tryz.underlying4
  a4 := Tryz.isAgg4
  z4 := Tryz.sizeOf4
  v4 := Tryz.zeroValue4
  t9 := Tryz.underlying9
  a9 := Tryz.isAgg9
  z9 := Tryz.sizeOf9
  v9 := Tryz.zeroValue9
  t20 := Tryz.underlying20
  a20 := Tryz.isAgg20
  z20 := Tryz.sizeOf20
  v20 := Tryz.zeroValue20
  t31 := Tryz.underlying66
  a31 := Tryz.isAgg66
  z31 := Tryz.sizeOf66
  v31 := Tryz.zeroValue66
  t37 := Tryz.underlying332
  a37 := Tryz.isAgg332
  z37 := Tryz.sizeOf332
  v37 := Tryz.zeroValue332
  t70 := Tryz.underlying331
  a70 := Tryz.isAgg331
  z70 := Tryz.sizeOf331
  v70 := Tryz.zeroValue331
  t72 := Tryz.underlying334
  a72 := Tryz.isAgg334
  z72 := Tryz.sizeOf334
  v72 := Tryz.zeroValue334
  t75 := Tryz.underlying337
  a75 := Tryz.isAgg337
  z75 := Tryz.sizeOf337
  v75 := Tryz.zeroValue337
  t76 := Tryz.underlying338
  a76 := Tryz.isAgg338
  z76 := Tryz.sizeOf338
  v76 := Tryz.zeroValue338
  t127 := Tryz.underlying362
  a127 := Tryz.isAgg362
  z127 := Tryz.sizeOf362
  v127 := Tryz.zeroValue362
  t164 := Tryz.underlying381
  a164 := Tryz.isAgg381
  z164 := Tryz.sizeOf381
  v164 := Tryz.zeroValue381 }
theorem Tryz.Builder_Extra_156 : Builder.Extra Tryz.prog Tryz.lays156_ren := {
  sizeBuilder := by kernel_rfl
  liesBuilder := by kernel_rfl
  t5 := Tryz.underlying5
  a5 := Tryz.isAgg5
  z5 := Tryz.sizeOf5
  v5 := Tryz.zeroValue5
  infoByte := by kernel_rfl
  cellsByte := by kernel_rfl
  sizeByte := by kernel_rfl
  neB5 := by decide }
open Go.RowKit in
/-- No element: the empty string; the world is as it was. (Whatever the slice's address and capacity: a nil slice too.) (LAID: no walk: one application.) -/
theorem Tryz.strings_Join_none (a : Option Addr) (c : Nat) (sep : ByteArray) (w : World) :
    Calls Tryz.prog 201 #[.slice a 0 c, .string sep] w fun e w' => e = .returned (.string ⟨#[]⟩) ∧ w' = w := Any.strings_Join_none Tryz.lays156 Tryz.Builder_Extra_156 a c sep w
open Go.RowKit in
/-- strings.Join: "Join concatenates the elements of its first argument to create a single string. The separator string sep is placed between elements in the resulting string.": HOWEVER MANY ELEMENTS. Below the heap's end the world is as it was. (LAID: no walk: one application.) -/
theorem Tryz.strings_Join (bk o c : Nat) (xs : List ByteArray) (sep : ByteArray) (w : World) (hcells : ∀ (j : Nat) x, xs[j]? = some x → w.cell? ⟨bk, o + j, none⟩ = some (.string x)) (hbk : bk < w.heap.size) (hN : xs.length ≤ 140737488355328) (hcap : xs.length ≤ c) (hlen : (Lib.join (xs.map (·.data.toList)) sep.data.toList).length ≤ 140737488355328) :
    Calls Tryz.prog 201 #[.slice (some ⟨bk, o, none⟩) xs.length c, .string sep] w fun e w' => e = .returned (.string ⟨(Lib.join (xs.map (·.data.toList)) sep.data.toList).toArray⟩) ∧ Below w.heap.size w w' := Any.strings_Join Tryz.lays156 Tryz.Builder_Extra_156 bk o c xs sep w hcells hbk hN hcap hlen
end Go.Proofs
/- The configuration over this seat's program, for closed evaluations. Made by program. -/
namespace Go.Ev
open Go.Proofs
set_option maxRecDepth 1000000
def impF : List Nat := [66, 68, 69, 74, 85, 96, 102, 116, 118, 139, 148, 185, 197, 221, 246, 253, 264, 265, 278, 280, 282]
def impC : List (Nat × Nat × Nat) := [(90, 31, 2), (4, 31, 67), (4, 31, 68), (4, 31, 122), (218, 244, 4), (212, 244, 45), (212, 244, 52), (150, 151, 7)]
def altF : List Nat := [31]
def altC : List (Nat × Nat) := []
def nearF : List Nat := [212]
def nearC : List (Nat × Nat) := [(168, 31), (23, 24), (23, 8)]
def keepF : Nat → List Nat
  | 2 => []
  | 3 => [0, 2, 4, 25, 9, 1, 6, 3, 10, 12, 11, 13, 14, 16, 15, 17, 18, 21, 19, 22, 20, 23, 8]
  | 4 => [27, 2, 1, 4, 3, 6, 5, 66, 7, 8, 9, 21, 11, 13, 16, 18, 20, 23, 0]
  | 5 => [0, 2, 5, 33, 6, 44, 43, 45, 9, 1, 56, 65, 10, 76, 7, 11, 89, 8, 95, 13, 15, 17, 20, 16, 18, 19, 146, 12, 150, 149, 151, 148, 21, 23, 157, 14, 165, 164, 166, 163, 25, 180, 4]
  | 6 => [0, 2, 5, 32, 7, 9, 11, 14, 6, 12, 13, 10, 84, 90, 89, 91, 88, 8, 96, 95, 97, 94, 18, 17, 20, 15, 120, 133, 132, 134, 1, 23, 140, 22, 148, 147, 149, 21, 24, 162, 4]
  | 7 => [0, 1, 3, 27, 5, 35, 6, 44, 43, 45, 42, 9, 4, 8, 56, 74, 78, 77, 79, 76, 7, 10, 11, 102, 101, 103, 100, 14, 109, 108, 110, 15, 12, 132, 136, 135, 137, 134, 17, 16, 148, 19, 18, 170, 2]
  | 8 => [0, 2, 5, 34, 1, 6, 8, 49, 84, 83, 85, 82, 12, 10, 7, 14, 15, 118, 124, 147, 16, 156, 11, 9, 160, 13, 17, 18, 20, 19, 186, 209, 230, 4]
  | 9 => [0, 3, 7, 32, 1, 8, 2, 9, 10, 58, 12, 68, 67, 69, 66, 14, 16, 89, 13, 11, 18, 17, 6]
  | 10 => [0, 1, 2, 3, 5, 32, 7, 9, 11, 61, 10, 64, 63, 65, 62, 15, 71, 13, 77, 76, 78, 75, 16, 17, 8, 18, 12, 6, 19, 122, 127, 4]
  | 11 => [0, 1, 3, 4, 7, 39, 2, 9, 8, 68, 11, 13, 15, 17, 12, 10, 120, 124, 14, 128, 127, 129, 126, 18, 16, 20, 143, 6]
  | 12 => [0, 4, 9, 42, 1, 2, 10, 13, 63, 15, 11, 3, 16, 14, 17, 18, 127, 126, 128, 125, 20, 134, 22, 19, 21, 12, 170, 173, 172, 174, 23, 24, 25, 27, 28, 26, 8]
  | 13 => [0, 3, 7, 25, 1, 8, 11, 13, 9, 12, 54, 58, 57, 59, 15, 2, 16, 14, 10, 17, 6]
  | 14 => [0, 2, 5, 36, 42, 41, 43, 40, 6, 8, 1, 9, 11, 13, 15, 17, 91, 19, 18, 102, 10, 117, 116, 118, 115, 20, 23, 22, 21, 138, 143, 142, 144, 141, 26, 156, 24, 12, 162, 161, 163, 160, 28, 27, 186, 4]
  | 15 => [0, 2, 5, 38, 1, 6, 7, 12, 68, 14, 78, 11, 13, 10, 84, 8, 9, 108, 107, 109, 106, 17, 128, 15, 18, 153, 160, 20, 19, 4]
  | 16 => [0, 1, 2, 3, 5, 51, 7, 9, 11, 80, 85, 84, 86, 83, 14, 15, 16, 17, 19, 18, 137, 140, 139, 141, 138, 12, 21, 8, 156, 155, 157, 154, 22, 24, 10, 166, 165, 167, 164, 25, 27, 6, 176, 175, 177, 174, 31, 183, 28, 193, 192, 194, 191, 34, 206, 32, 29, 243, 4]
  | 17 => [0, 1, 26, 3, 31, 41, 4, 50, 63, 5, 75, 91, 2]
  | 18 => [0, 1, 4, 21, 3, 2]
  | 19 => [0, 2, 1, 7, 16, 6, 21, 8, 28, 4, 5]
  | 20 => [0, 2, 6, 20, 1, 28, 35, 7, 8, 9, 10, 69, 12, 13, 79, 14, 98, 15, 117, 11, 16, 162, 190, 4, 5]
  | 21 => [0, 1, 2, 7, 20, 3, 30, 6, 8, 38, 37, 39, 36, 12, 9, 13, 54, 10, 4, 5]
  | 22 => [0, 1, 2, 6, 19, 3, 7, 24, 13, 9, 38, 47, 12, 15, 54, 14, 8, 89, 11, 4, 5]
  | 23 => [0, 2, 6, 15, 1, 19, 7, 8, 4, 5]
  | 24 => [0, 2, 7, 17, 1, 21, 8, 9, 12, 11, 34, 13, 54, 61, 10, 4, 5, 6]
  | 25 => [0, 1, 10, 5, 14, 25, 4]
  | 26 => [0, 1, 10, 5, 14, 25, 4]
  | 27 => [0, 1, 10, 5, 14, 25, 4]
  | 28 => [0, 1, 2, 3, 40, 5, 45, 58, 6, 63, 76, 7, 81, 112, 4]
  | 29 => [2, 1, 4, 3, 6, 5, 8, 7, 10, 9, 13, 11, 12, 15, 14, 17, 16, 19, 18, 22, 20, 21, 24, 23, 0]
  | 30 => [0, 2, 1, 7, 15, 6, 4, 5]
  | 31 => [0]
  | 32 => [0, 1, 5, 12, 4, 2, 3]
  | 33 => [0, 2, 7, 14, 1, 6, 21, 4, 5]
  | 34 => [0, 1, 5, 12, 4, 2, 3]
  | 35 => [0, 1, 5, 12, 4, 2, 3]
  | 36 => [0, 2]
  | 37 => [0, 1, 4, 2]
  | 38 => [0, 1, 2]
  | 39 => [0, 7, 1, 4]
  | 40 => [0, 2, 1, 5, 4]
  | 41 => [1, 2, 0, 23, 22, 24, 21, 11, 13, 10, 43, 9, 12, 52, 14, 15, 67, 8, 99, 6, 7]
  | 42 => [4, 0, 8, 3, 2]
  | 43 => [0, 1, 5, 12, 4, 2, 3]
  | 44 => [0, 1, 4, 12, 5, 2, 3]
  | 45 => [0, 1, 3]
  | 46 => [0, 9, 8, 10, 7, 6, 1, 15, 4]
  | 47 => [1, 11, 10, 12, 9, 0, 6, 18, 2, 22, 21, 23, 20, 8, 37, 4]
  | 48 => [0, 1, 10, 5, 19, 30, 4]
  | 49 => [0, 4, 1, 10, 5, 21, 3, 2]
  | 50 => [0, 1, 4, 2]
  | 51 => [0, 1, 10, 5, 14, 26, 4]
  | 52 => [0, 1, 2, 3, 7, 18, 6, 22, 23, 24, 8, 10, 4, 5]
  | 53 => [0, 1, 10, 5, 14, 25, 4]
  | 54 => [0, 1, 2]
  | 55 => [0, 1, 2, 3, 6, 11, 4, 5]
  | 56 => [1, 2, 16, 15, 17, 14, 3, 23, 22, 24, 21, 0, 10, 11, 53, 7, 59, 9, 8, 83, 6, 5]
  | 57 => [0, 1, 2, 7, 14, 6, 3, 19, 4, 5]
  | 58 => [2, 1, 4, 3, 6, 5, 0]
  | 59 => [0, 1, 3, 8, 12, 2]
  | 60 => [0, 2]
  | 61 => [0, 13, 2, 22, 3, 15, 14, 37, 6, 7, 1, 42, 11, 12, 9, 10, 16, 18, 17, 19, 8]
  | 62 => [0, 1, 2, 3, 4, 5, 10, 18, 6, 12, 27, 7, 36, 13, 11, 40, 8, 9]
  | 63 => [0, 1, 12, 3, 17, 4, 35, 5, 38, 49, 6, 54, 64, 7, 72, 84, 2]
  | 64 => [0, 1, 9, 3, 14, 24, 4, 33, 46, 5, 58, 74, 2]
  | 65 => [0, 4, 1, 11, 6, 29, 5, 3, 2]
  | 66 => [0, 2, 7, 14, 4, 6, 1, 20, 5]
  | 67 => [0, 2, 1, 4]
  | 68 => [0, 2, 1, 19, 20, 21, 5, 6, 7, 4]
  | 69 => [0, 1, 2, 3, 10, 6, 19, 5, 22, 23, 7, 4]
  | 70 => [0, 1, 4, 10, 5, 18, 3, 26, 2]
  | 71 => [0, 1, 2, 6]
  | 72 => [0, 6, 17, 5, 1, 7, 30, 8, 34, 46, 70, 9, 92, 118, 4]
  | 73 => [0, 1, 4]
  | 74 => [0, 1, 4, 14, 2, 23, 22, 24, 21, 7, 31, 30, 32, 29, 5, 9, 6, 8, 69, 3]
  | 75 => [0, 1, 12, 11, 13, 10, 2, 7, 18, 19, 20, 5, 8, 4]
  | 76 => [0, 1, 3, 2]
  | 77 => [1, 0, 8, 7, 9, 3, 5, 16, 4]
  | 78 => [0, 1, 4]
  | 79 => [0, 1, 5, 2]
  | 80 => [0, 5, 1, 12, 4, 6, 3, 31, 2]
  | 81 => [0, 1, 2, 3, 6, 14, 9, 8, 21, 7, 4, 5]
  | 82 => [5, 0, 9, 1, 17, 4]
  | 83 => [0, 2]
  | 84 => [1, 0, 8, 9, 6, 3, 7, 5, 17, 4]
  | 85 => [0, 1, 2, 4, 3, 5, 6]
  | 86 => [0, 1, 2]
  | 87 => [0, 1, 2, 3, 4]
  | 88 => [0, 3, 10, 4, 18, 12, 1, 24, 2, 32, 11, 43, 9, 8]
  | 89 => [0, 1, 2, 3, 15, 5, 20, 6, 7, 46, 8, 51, 65, 4]
  | 90 => [1, 0]
  | 91 => [0, 1, 10, 5, 14, 25, 4]
  | 92 => [0, 1, 16, 15, 17, 14, 2, 8, 5, 9, 10, 6, 7, 4]
  | 93 => [0, 2, 1, 4]
  | 94 => [0, 2, 1, 4]
  | 95 => [1, 0, 4]
  | 96 => [0, 4, 2]
  | 97 => [0, 1, 2, 4]
  | 98 => [0, 4, 1, 11, 5, 20, 3, 2]
  | 99 => [0, 1, 13, 12, 14, 3, 4, 22, 21, 23, 20, 7, 35, 5, 2]
  | 100 => [0, 1, 6, 2, 3]
  | 101 => [0, 1, 2, 3, 14, 4, 6, 22, 5]
  | 102 => [0, 1, 2, 3, 4]
  | 103 => [0, 1, 2, 6]
  | 104 => [0, 1, 2, 5, 9, 3, 4]
  | 105 => [0, 1, 2, 3, 13, 12, 14, 11, 7, 20, 19, 21, 5, 8, 4]
  | 106 => [0, 1, 3, 2, 4]
  | 107 => [0, 1, 3, 2, 13, 5, 27, 4]
  | 108 => [0]
  | 109 => [2, 1, 4, 3, 6, 5, 8, 7, 10, 9, 0]
  | 110 => [0, 1, 5, 2]
  | 111 => [0, 1, 31, 3, 36, 4, 59, 5, 62, 73, 7, 82, 8, 6, 117, 159, 9, 179, 10, 184, 194, 11, 202, 214, 2]
  | 112 => [0, 1, 2, 7, 16, 4, 5, 6, 20, 21, 22, 8, 3, 25, 9]
  | 113 => [0, 1, 2, 7, 16, 4, 5, 6, 19, 20, 21, 9, 3, 24, 8]
  | 114 => [0, 1, 2, 6]
  | 115 => [3, 0, 7, 19, 2]
  | 116 => [0, 1, 2, 3, 4]
  | 117 => [0, 1, 3, 2, 4]
  | 118 => [0, 1, 2, 3, 4]
  | 119 => [1, 0, 8, 9, 6, 3, 7, 5, 17, 4]
  | 120 => [0, 1, 2, 3, 4]
  | 121 => [0, 6, 15, 5, 1, 7, 28, 65, 80, 95, 4]
  | 122 => [0, 11, 14, 13, 15, 12, 4, 3, 5, 29, 2]
  | 123 => [0, 1, 9, 12, 11, 13, 10, 2, 6, 5, 28, 4]
  | 124 => [0, 1, 2, 4]
  | 125 => [0, 8, 7, 9, 1, 6, 13, 5, 4]
  | 126 => [1, 0, 3]
  | 127 => [1, 0, 2, 4]
  | 128 => [0, 8, 7, 9, 1, 5, 16, 4]
  | 129 => [6, 1, 9, 0, 16, 5, 4]
  | 130 => [0, 5, 2, 10, 1, 42, 4]
  | 131 => [0, 1, 2, 5, 9, 3, 4]
  | 132 => [0, 4, 1, 11, 5, 22, 6, 36, 3, 2]
  | 133 => [0, 1, 2, 3, 5, 8, 9, 7, 13, 38, 14, 45, 15, 4, 12, 62, 10, 11, 18, 105, 107, 114, 17, 16, 121, 6]
  | 134 => [0, 1, 9, 8, 10, 7, 6, 2, 22, 4]
  | 135 => [1, 10, 9, 11, 5, 2, 20, 19, 21, 6, 0, 7, 3, 40]
  | 136 => [0, 1, 2, 7, 12, 13, 14, 8, 3, 4, 6]
  | 137 => [0, 1, 21, 20, 22, 19, 4, 11, 9, 10, 12, 2, 3, 51, 50, 52, 49, 13, 15, 8]
  | 138 => [1, 0, 8, 9, 6, 3, 7, 5, 17, 4]
  | 139 => [0, 1, 2]
  | 140 => [0, 1, 4]
  | 141 => [0, 8, 7, 9, 6, 5, 3, 14, 2]
  | 142 => [0, 1, 5, 11, 6, 12, 13, 16, 19, 4]
  | 143 => [0, 11, 10, 12, 9, 5, 1, 19, 6, 7, 8, 28, 35, 4]
  | 144 => [0, 3, 2, 1, 7, 6]
  | 145 => [0, 2, 1, 5, 4]
  | 146 => [0, 1, 3, 9, 10, 8, 2, 6, 21, 4, 26, 27, 28, 7, 52]
  | 147 => [0, 1, 11, 15, 14, 16, 13, 4, 3, 38, 2]
  | 148 => [0, 1, 14, 17, 16, 18, 15, 7, 2, 8, 9, 30, 6]
  | 149 => [0, 1, 2, 3, 4]
  | 150 => [0, 1, 7, 8, 9, 3, 4, 5, 2, 19]
  | 151 => [0, 1, 2]
  | 152 => [0, 1, 13, 14, 16, 17, 6, 7, 5, 8, 36, 9, 42, 4]
  | 153 => [0, 1, 5, 2]
  | 154 => [0, 1, 2, 10, 9, 11, 5, 3, 6, 4]
  | 155 => [0, 2, 1, 5, 4]
  | 156 => [1, 0, 4]
  | 157 => [0]
  | 158 => [0, 1, 2, 3, 4, 8, 15, 6, 5, 10, 25, 7]
  | 159 => [0, 1, 4]
  | 160 => [0, 1, 2, 3, 4, 8, 16, 6, 5, 10, 26, 7]
  | 161 => [0]
  | 162 => [0, 1, 2, 3, 4, 8, 14, 6, 5, 19, 7]
  | 163 => [0, 1, 2, 3, 4, 5, 9, 21, 6, 8, 25, 31, 30, 32, 29, 12, 56, 58, 59, 10, 65, 7]
  | 164 => [0]
  | 165 => [0, 1, 2, 3, 7, 15, 4, 6, 5]
  | 166 => [0, 1, 2]
  | 167 => [1, 2, 4, 5, 17, 0, 28]
  | 168 => [10, 11, 9, 5, 1, 2, 8, 0, 6, 7, 36]
  | 169 => [0]
  | 170 => [0, 1, 10, 2]
  | 171 => [0, 2, 1, 3]
  | 172 => [0, 1, 2]
  | 173 => [0, 1, 4]
  | 174 => [0, 1, 3, 2, 4]
  | 175 => [0, 1, 5, 2, 31, 4]
  | 176 => [0, 1, 4]
  | 177 => [0, 1, 2]
  | 178 => [0, 1, 5, 2]
  | 179 => [0, 2, 1, 4]
  | 180 => [0, 2, 1, 7, 8, 50, 6, 9, 5, 56, 76, 4]
  | 181 => [0, 2, 1, 9, 8, 20, 10, 29, 6, 7, 4, 5]
  | 182 => [1, 0, 5, 3, 11, 4]
  | 183 => [0, 4, 11, 3, 2]
  | 184 => [4, 0, 8, 12, 3, 2]
  | 185 => [0, 1, 2]
  | 186 => [1, 23, 22, 24, 5, 6, 7, 4, 35, 40, 39, 41, 8, 3, 9, 10, 11, 69, 0, 76]
  | 187 => [0, 1, 4]
  | 188 => [1, 0, 3, 4]
  | 189 => [0, 2]
  | 190 => [0, 1, 10, 13, 12, 14, 5, 24, 4]
  | 191 => [0, 3, 1, 2, 6]
  | 192 => [0, 1, 9, 8, 10, 7, 6, 2, 22, 4]
  | 193 => [0, 2]
  | 194 => [1, 0, 3, 4]
  | 195 => [0, 12, 15, 14, 16, 4, 25, 31, 30, 32, 29, 6, 37, 3, 2]
  | 196 => [1, 10, 9, 11, 8, 4, 18, 17, 19, 0, 3, 5, 31]
  | 197 => [1, 0, 2, 21, 25]
  | 198 => [0, 1, 2]
  | 199 => [0, 1, 4, 3, 2, 21, 20, 22, 19, 9, 28, 27, 29, 26, 7, 11, 8, 10, 6]
  | 200 => [0, 2, 1, 5, 4]
  | 201 => [0, 12, 13, 15, 1, 22, 29, 5, 41, 40, 42, 39, 7, 49, 8, 65, 64, 66, 63, 10, 4]
  | 202 => [0, 1, 2, 3, 4, 5, 7, 6]
  | 203 => [0, 2, 1, 5, 15, 19, 18, 20, 17, 7, 10, 31, 4]
  | 204 => [0, 1, 2, 3, 7, 15, 4, 6, 5]
  | 205 => [0, 1, 2]
  | 206 => [0, 1, 2, 3, 7, 22, 4, 6, 9, 36, 5]
  | 207 => [0, 1, 2, 3, 4, 9, 19, 8, 5, 24, 28, 27, 29, 26, 11, 40, 6, 7]
  | 208 => [0, 1, 2, 7, 14, 4, 6, 3, 20, 5]
  | 209 => [0, 1, 2, 15, 14, 16, 13, 5, 7, 29, 30, 31, 8, 10, 9, 3, 4]
  | 210 => [0, 1, 8, 9, 10, 4, 13, 12, 14, 11, 5, 3, 2, 6, 24]
  | 211 => [0, 1, 3, 2, 18, 4, 5, 7, 37, 6]
  | 212 => [0, 1, 3, 2, 25, 4, 5, 9, 10, 57, 8, 7, 6]
  | 213 => [0, 1, 3, 2, 12, 4, 5, 6]
  | 214 => [0, 8, 7, 9, 1, 5, 16, 4]
  | 215 => [0, 8, 7, 9, 1, 5, 16, 4]
  | 216 => [0, 1, 4]
  | 217 => [0, 2]
  | 218 => [0, 2]
  | 219 => [1, 3, 8, 0, 18]
  | 220 => [1, 0, 8, 7, 9, 3, 5, 16, 4]
  | 221 => [0, 1, 4]
  | 222 => [0, 2, 1, 3]
  | 223 => [0, 2]
  | 224 => [0, 9, 12, 11, 13, 3, 24, 2]
  | 225 => [1, 0, 2, 6]
  | 226 => [0, 1, 9, 8, 10, 7, 6, 2, 22, 4]
  | 227 => [0]
  | 228 => [1, 0, 8, 9, 6, 3, 7, 5, 17, 4]
  | 229 => [0, 1, 3, 2, 4]
  | 230 => [0, 1, 3, 4, 10, 2, 5]
  | 231 => [0, 1, 7, 21]
  | 232 => [0, 1, 4, 5]
  | 233 => [0, 2]
  | 234 => [0, 2, 5, 11, 1, 15, 14, 16, 13, 7, 22, 4]
  | 235 => [0, 1, 11, 10, 12, 5, 6, 21, 36, 2, 3, 4]
  | 236 => [0, 1, 2, 12, 11, 13, 10, 7, 3, 28, 4, 5]
  | 237 => [0, 2, 1, 4]
  | 238 => [0, 1, 2, 4]
  | 239 => [0]
  | 240 => [0, 1, 8, 9, 10, 3, 5, 4, 2]
  | 241 => [0, 1, 3, 2, 30, 35, 36, 37, 5, 7, 4]
  | 242 => [0, 1, 15, 14, 16, 13, 6, 8, 9, 5, 4]
  | 243 => [1, 0, 11, 10, 12, 9, 7, 8, 3, 24, 5, 4]
  | 244 => [0, 2]
  | 245 => [0, 8, 7, 9, 1, 5, 16, 4]
  | 246 => [0, 8, 7, 9, 1, 5, 16, 4]
  | 247 => [0, 1, 2, 3, 4]
  | 248 => [0, 1, 2, 3, 4]
  | 249 => [0, 1, 2, 3, 9, 4]
  | 250 => [0, 1, 2]
  | 251 => [1, 10, 9, 11, 4, 2, 5, 28, 27, 29, 7, 32, 6, 46, 0, 53]
  | 252 => [0, 6, 1, 4]
  | 253 => [0, 6, 19]
  | 254 => [0, 1, 4]
  | 255 => [0, 1, 3, 16, 2, 4]
  | 256 => [0, 1, 2, 3, 4]
  | 257 => [0, 1, 2]
  | 258 => [0, 1, 4]
  | 259 => [0, 1, 3]
  | 260 => [0, 1, 2]
  | 261 => [0, 1, 12, 11, 13, 10, 2, 7, 8, 5, 42, 4]
  | 262 => [3, 0, 9, 4, 5, 38, 2]
  | 263 => [0]
  | 264 => [0, 2, 1, 4]
  | 265 => [0, 2, 1, 4]
  | 268 => [0, 1, 4]
  | 269 => [0, 1, 2, 3]
  | 270 => [0, 1, 8, 9, 7, 6, 2, 3, 22, 4]
  | 271 => [0, 1, 2, 3, 4]
  | 272 => [0, 1, 2]
  | 273 => [0, 8, 7, 9, 1, 5, 16, 4]
  | 274 => [1, 11, 10, 12, 9, 4, 6, 0, 5, 28]
  | 275 => [0, 1, 10, 9, 11, 8, 5, 18, 17, 19, 3, 4, 6, 2]
  | 276 => [0, 1, 2, 3, 4]
  | 277 => [1, 3, 0, 4]
  | 278 => [0, 2, 4]
  | 279 => [1, 0, 3, 4]
  | 280 => [0, 2, 1, 4]
  | 281 => [1, 3, 0, 4]
  | 282 => [0, 2, 1, 4]
  | 283 => [0, 8, 7, 9, 1, 5, 16, 4]
  | 284 => [0]
  | 285 => [0, 1, 2]
  | 286 => [0, 1, 2, 4]
  | 287 => [0, 1, 2]
  | 288 => [0, 1, 2, 3, 4]
  | 289 => [0, 1, 2]
  | 290 => [0, 1, 3, 2, 4]
  | 291 => [0, 1, 2]
  | 292 => [0, 1, 4]
  | 293 => [0, 1, 2]
  | 294 => [0, 1, 3, 4]
  | _ => []
def isImp (me f : Nat) (d : Option Nat) : Bool := impF.any (Nat.beq f) || impC.any fun t => Nat.beq t.1 me && Nat.beq t.2.1 f && (match d with | some d => Nat.beq t.2.2 d | none => false)
noncomputable def CC : Cfg := { P := Tryz.prog, pure := fun me f d => !(isImp me f d), alter := fun me d => altF.any (Nat.beq me) || (match d with | some d => altC.any fun t => Nat.beq t.1 me && Nat.beq t.2 d | none => false), keep := keepF, ext := fun f' => if Nat.beq f' 201 then some joinStr else none, near := fun me d => nearF.any (Nat.beq me) || (match d with | some d => nearC.any fun t => Nat.beq t.1 me && Nat.beq t.2 d | none => false) }
theorem mixedC : CC.P.follows .mixedOrders = true := by show Tryz.prog.follows .mixedOrders = true; kernel_rfl
theorem nogo_allC : (Tryz.prog.funcs.toList.all fun fn => !(fn.body.isSome && (fn.name == "runtime.NumGoroutine"))) = true := by kernel_rfl
theorem nogoC : NoGo CC.P := by
  intro f fn hf hb
  have h := List.all_eq_true.1 nogo_allC fn (by
    have : Tryz.prog.funcs[f]? = some fn := hf
    exact List.mem_of_getElem? (by simpa using this))
  rw [hb] at h
  simpa using h
theorem extOKZ : ExtOK { CC with ext := fun _ => none, exh := fun _ => none } := by
  exact ⟨fun _ _ h => (nomatch h), fun _ _ h => (nomatch h), fun _ _ h => (nomatch h)⟩
theorem extOKN : ExtOK (CC.more fun _ => none) := extOKZ
theorem extOKE0 : ExtOK (CC.more (fun f' => if Nat.beq f' 201 then some joinStr else none)) := by
  refine extOK_more (C := CC.more (fun _ => none)) (f := 201) (g := joinStr) rfl ?_ extOKN rfl
  intro args v h Z ρ H w vals hs hl
  exact ext_join Go.Proofs.Tryz.lays156 Go.Proofs.Tryz.Builder_Extra_156 (f := 201) rfl ⟨_, Tryz.func201, by kernel_rfl, by kernel_rfl⟩ h Z ρ H w vals hs hl
theorem extOKC : ExtOK CC := extOKE0
abbrev Good (t : Tell) : Prop := GoodC CC t
abbrev GoodM (t : TellH) : Prop := GoodH CC t
theorem good {t : Tell} (T : List Tell) (hT : AllG CC T) (TH : List TellH) (hH : AllH CC TH) (h : ansC (evT (CC.more2 (tabExt CC.ext T) (tabExh CC.exh T TH)) 1000 (.call t.f t.K { objs := [], lock := 0 })) = some t.R) (hb : boundL t.K = 0) : Good t :=
  goodC nogoC mixedC extOKC T hT TH hH 1000 h hb
theorem goodm {t : TellH} (T : List Tell) (hT : AllG CC T) (TH : List TellH) (hH : AllH CC TH) (h : ansH t.G.length (evT (CC.more2 (tabExt CC.ext T) (tabExh CC.exh T TH)) 1000 (.call t.f t.K { objs := t.G, lock := t.G.length })) = some t.R) (hb : (Nat.beq (boundL t.K) 0 || t.K.any isYld) = false) : GoodM t :=
  goodH nogoC mixedC extOKC T hT TH hH 1000 h hb
end Go.Ev
/- Values that are met. Made by program. -/
namespace Go.Ev
set_option maxRecDepth 1000000
def q0 : AV := .v (.string ⟨⟨[116,104,101]⟩⟩)
def q1 : AV := .v (.string ⟨⟨[115,101,97]⟩⟩)
def q2 : AV := .v (.string ⟨⟨[105,115]⟩⟩)
def q3 : AV := .v (.string ⟨⟨[111,108,100]⟩⟩)
def q4 : AV := .vs 1 [q0, q1, q2, q3] none
def q5 : AV := .vs 1 [q3, q0, q1] none
def q6 : AV := .vs 1 [q4, q5] none
def q7 : AV := .v (.string ⟨⟨[97,110,100]⟩⟩)
def q8 : AV := .vs 1 [q1, q7, q1] none
def q9 : AV := .vs 1 [q8] none
def q10 : AV := .v (.int .i64 7)
def q11 : AV := .v (.int .i64 3)
def q12 : AV := .vs 2 [.agg [q10, q6], .agg [q11, q9]] none
def q13 : AV := .agg [q12]
def q14 : AV := .v (.int .i64 0)
def q15 : AV := .v (.int .i64 4)
def q16 : AV := .v (.int .i64 2)
def q17 : AV := .v (.int .i64 1)
def q18 : AV := .agg [q15, q16, q17]
def q19 : AV := .v (.int .i64 5)
def q20 : AV := .agg [q16, q19, q11]
def q21 : AV := .vs 3 [q18, q20] none
def q22 : AV := .agg [q14, q17, q14, q11]
def q23 : AV := .agg [q17, q16, q17, q15]
def q24 : AV := .vs 1 [q4] (some 1)
def q25 : AV := .agg [.vs 2 [.agg [q14, q24]] (some 1)]
def q26 : AV := .tup [q25, q14]
def q27 : AV := .v (.string ⟨⟨[97]⟩⟩)
def q28 : AV := .vs 1 [q3, q27, q1] none
def q29 : AV := .vs 1 [q28] (some 1)
def q30 : AV := .agg [.vs 2 [.agg [q14, q29]] (some 1)]
def q31 : AV := .agg [.v (.bool true), .vs 1 [q4, q28] none]
def q32 : AV := .vs 1 [q5] (some 1)
def q33 : AV := .agg [.vs 2 [.agg [q14, q32]] (some 1)]
def q34 : AV := .tup [q33, q14]
def q35 : AV := .vs 1 [q8] (some 1)
def q36 : AV := .agg [.vs 2 [.agg [q14, q35]] (some 1)]
def q37 : AV := .tup [q36, q14]
def q38 : AV := .agg [.v (.bool true), .vs 1 [q5, q8] none]
def q39 : AV := .vs 4 [q22, q23] none
def q40 : AV := .vs 2 [q31, q38] none
def q41 : AV := .agg [q12, q21, q39, q40]
def q42 : AV := .vs 1 [q0, q1, q2, q3] (some 4)
def q43 : AV := .vs 1 [q3, q0, q1] (some 3)
def q44 : AV := .vs 1 [q42, q42, q43] (some 3)
def q45 : AV := .agg [.v (.bool true), q44]
def q46 : AV := .vs 2 [q45, q38] none
def q47 : AV := .agg [q12, q21, q39, q46]
def q48 : AV := .vs 1 [q42] (some 1)
def q49 : AV := .agg [.vs 2 [.agg [q14, q48]] (some 1)]
def q50 : AV := .vs 1 [q43] (some 1)
def q51 : AV := .agg [.vs 2 [.agg [q14, q50]] (some 1)]
def q52 : AV := .vs 1 [q14] none
def q53 : AV := .tup [q52, q14]
def q54 : AV := .vs 2 [.agg [q14, q17]] none
def q55 : AV := .vs 1 [q17] none
def q56 : AV := .agg [q12, q21, q39, q40, .sl 5 2 0 3 none, .sl 6 2 0 3 none]
def o57 : Option AObj := some (.cells 0 0 29 1 false [q12, q21, q39, q40])
def o58 : Option AObj := some (.cells 0 7 127 1 false [q12, q21, q39, q40, .sl 5 2 0 3 none, .sl 6 2 0 3 none])
def o59 : Option AObj := some (.cells 0 0 90 1 false [q10, q6])
def o60 : Option AObj := some (.cells 2 0 66 1 true [q4, q5, q8])
def o61 : Option AObj := some (.cells 2 0 101 3 true [q14, q14, q14, q14, q17, q14, q17, q14, q14])
def q62 : AV := .v (.slice none 0 0)
def q63 : AV := .agg [q14, q14, q14]
def q64 : AV := .v (.int .i64 21)
def q65 : AV := .tup [q14, q14]
def q66 : AV := .tup [q11, q14]
def q67 : AV := .vs 3 [.agg [.v (.int .u8 2), q14, q14]] none
def o68 : Option AObj := some (.cells 0 0 29 1 false [q12, q21, q39, q46])
def o69 : Option AObj := some (.cells 0 9 127 1 false [q12, q21, q39, q46, .sl 7 2 0 3 none, .sl 8 2 0 3 none])
def o70 : Option AObj := some (.cells 0 21 133 1 false [.sl 20 1 0 2 none, q44, .mp 13])
def q71 : AV := .v (.int .i64 1000)
def o72 : Option AObj := some (.map 0 [(.agg [q16, q16, .v (.bool false)], q71, 0), (.agg [q17, q16, .v (.bool true)], q14, 1), (.agg [q16, q16, .v (.bool true)], q17, 2), (.agg [q16, q17, .v (.bool false)], q71, 3), (.agg [q17, q17, .v (.bool true)], q17, 4), (.agg [q16, q17, .v (.bool true)], q71, 5), (.agg [q16, q14, .v (.bool false)], q71, 6), (.agg [q17, q14, .v (.bool false)], q71, 7), (.agg [q14, q14, .v (.bool false)], q17, 8)] 9)
def o73 : Option AObj := some (.cells 0 0 3 1 false [q14])
def o74 : Option AObj := some (.cells 0 0 62 1 false [q14, q17, q14, q11])
def o75 : Option AObj := some (.cells 1 0 191 2 true [q14, q4, q17, q5])
def q76 : AV := .v (.int .i64 12)
def q77 : AV := .v (.int .u8 1)
def q78 : AV := .agg [q76, q77]
def q79 : AV := .agg [q76, q77, .vs 1 [q0, q1, q2, q3, q3, q0, q1] none, .vs 3 [q63, .agg [q14, q14, q17], .agg [q14, q14, q16], .agg [q14, q14, q11], .agg [q14, q17, q14], .agg [q14, q17, q17], .agg [q14, q17, q16]] none]
def q80 : AV := .agg [q76, q77, q8, .vs 3 [.agg [q17, q14, q14], .agg [q17, q14, q17], .agg [q17, q14, q16]] none]
def q81 : AV := .v (.int .i64 10)
def q82 : AV := .v (.string ⟨⟨[]⟩⟩)
def q83 : AV := .v (.string ⟨⟨[115,101,97,32,105,115]⟩⟩)
def q84 : AV := .agg [q14, q14, q14, q0, q82, q83]
def q85 : AV := .agg [q14, q14, q17, q1, q0, q2]
def q86 : AV := .v (.string ⟨⟨[116,104,101,32,115,101,97]⟩⟩)
def q87 : AV := .agg [q14, q14, q16, q2, q86, q82]
def q88 : AV := .v (.int .i64 11)
def q89 : AV := .agg [q14, q16, q88]
def q90 : AV := .v (.string ⟨⟨[111,108,100,32,116,104,101]⟩⟩)
def q91 : AV := .agg [q14, q14, q11, q3, q82, q90]
def q92 : AV := .agg [q17, q17, q88]
def q93 : AV := .agg [q14, q17, q14, q3, q3, q0]
def q94 : AV := .agg [q16, q14, q88]
def q95 : AV := .v (.string ⟨⟨[111,108,100,32,111,108,100]⟩⟩)
def q96 : AV := .agg [q14, q17, q17, q0, q95, q82]
def q97 : AV := .v (.int .i64 6)
def q98 : AV := .agg [q14, q17, q16, q1, q90, q82]
def q99 : AV := .v (.string ⟨⟨[97,110,100,32,115,101,97]⟩⟩)
def q100 : AV := .agg [q17, q14, q14, q1, q82, q99]
def q101 : AV := .agg [q17, q14, q17, q7, q1, q1]
def q102 : AV := .v (.string ⟨⟨[115,101,97,32,97,110,100]⟩⟩)
def q103 : AV := .agg [q17, q14, q16, q1, q102, q82]
def q104 : AV := .vs 6 [q84, q85, q87, q91, q93, q96, q98, q100, q101, q103] none
def o105 : Option AObj := some (.cells 0 0 31 1 false [q76, q77])
def o106 : Option AObj := some (.cells 0 8 127 1 false [q12, q21, q39, q40, .sl 6 2 0 3 none, .sl 7 2 0 3 none])
def q107 : AV := .tup [q62, q14]
def q108 : AV := .tup [q16, q14]
def q109 : AV := .vs 1 [q4] none
def q110 : AV := .agg [.vs 2 [.agg [q14, q109]] none]
def q111 : AV := .vs 1 [q28] none
def q112 : AV := .agg [.vs 2 [.agg [q14, q111]] none]
def q113 : AV := .agg [.v (.bool false), q62]
def q114 : AV := .tup [q62, q97]
def o115 : Option AObj := some (.cells 0 16 29 1 false [.sl 6 0 0 2 (some 2), .sl 7 0 0 2 (some 2), .sl 8 0 0 2 (some 2), .sl 15 0 0 2 (some 2)])
def o116 : Option AObj := some (.cells 0 0 9 1 false [q0, q1, q2, q3])
def o117 : Option AObj := some (.cells 0 0 9 1 false [q3, q0, q1])
def o118 : Option AObj := some (.cells 0 3 66 1 false [.sl 1 0 0 4 (some 4), .sl 2 0 0 3 (some 3)])
def o119 : Option AObj := some (.cells 0 0 9 1 false [q1, q7, q1])
def o120 : Option AObj := some (.cells 0 5 66 1 false [.sl 4 0 0 3 (some 3)])
def o121 : Option AObj := some (.cells 0 6 90 2 false [q10, .sl 3 0 0 2 (some 2), q11, .sl 5 0 0 1 (some 1)])
def o122 : Option AObj := some (.cells 0 0 107 3 false [q15, q16, q17, q16, q19, q11])
def o123 : Option AObj := some (.cells 0 0 62 4 false [q14, q17, q14, q11, q14, q16, q17, q15])
def o124 : Option AObj := some (.cells 0 0 9 1 false [q3, q27, q1])
def o125 : Option AObj := some (.cells 0 11 66 1 false [.sl 9 0 0 4 (some 4), .sl 10 0 0 3 (some 3)])
def o126 : Option AObj := some (.cells 0 14 66 1 false [.sl 12 0 0 3 (some 3), .sl 13 0 0 3 (some 3)])
def o127 : Option AObj := some (.cells 0 15 65 2 false [.v (.bool true), .sl 11 0 0 2 (some 2), .v (.bool true), .sl 14 0 0 2 (some 2)])
def o128 : Option AObj := some (.cells 0 32 29 1 false [.sl 22 0 0 2 (some 2), .sl 23 0 0 2 (some 2), .sl 24 0 0 2 (some 2), .sl 31 0 0 2 (some 2)])
def o129 : Option AObj := some (.cells 0 19 66 1 false [.sl 17 0 0 4 (some 4), .sl 18 0 0 3 (some 3)])
def o130 : Option AObj := some (.cells 0 21 66 1 false [.sl 20 0 0 3 (some 3)])
def o131 : Option AObj := some (.cells 0 22 90 2 false [q10, .sl 19 0 0 2 (some 2), q11, .sl 21 0 0 1 (some 1)])
def o132 : Option AObj := some (.cells 0 0 62 4 false [q14, q17, q14, q11, q17, q16, q17, q15])
def o133 : Option AObj := some (.cells 0 27 66 1 false [.sl 25 0 0 4 (some 4), .sl 26 0 0 3 (some 3)])
def o134 : Option AObj := some (.cells 0 30 66 1 false [.sl 28 0 0 3 (some 3), .sl 29 0 0 3 (some 3)])
def o135 : Option AObj := some (.cells 0 31 65 2 false [.v (.bool true), .sl 27 0 0 2 (some 2), .v (.bool false), q62])
def o136 : Option AObj := some (.cells 0 0 29 1 false [q62, q21, q39, q40])
def q137 : AV := .agg [q76, .v (.int .u8 0)]
def q138 : AV := .v (.int .i64 30)
def q139 : AV := .tup [q62, q138]
def q140 : AV := .agg [q62]
def q141 : AV := .vs 1 [q5] none
def q142 : AV := .agg [.vs 2 [.agg [q14, q141]] none]
def q143 : AV := .tup [q142, q14]
def q144 : AV := .agg [.vs 2 [.agg [q14, q9]] none]
def q145 : AV := .tup [q144, q14]
def q146 : AV := .v (.string ⟨⟨[110,111]⟩⟩)
def q147 : AV := .vs 1 [q146] (some 1)
def q148 : AV := .vs 1 [q147] (some 1)
def q149 : AV := .agg [.vs 2 [.agg [q14, q148]] (some 1)]
def o150 : Option AObj := some (.cells 0 51 29 1 false [.sl 41 0 0 2 (some 2), .sl 42 0 0 2 (some 2), .sl 43 0 0 2 (some 2), .sl 50 0 0 2 (some 2)])
def o151 : Option AObj := some (.cells 0 38 66 1 false [.sl 36 0 0 4 (some 4), .sl 37 0 0 3 (some 3)])
def o152 : Option AObj := some (.cells 0 40 66 1 false [.sl 39 0 0 3 (some 3)])
def o153 : Option AObj := some (.cells 0 41 90 2 false [q10, .sl 38 0 0 2 (some 2), q11, .sl 40 0 0 1 (some 1)])
def o154 : Option AObj := some (.cells 0 46 66 1 false [.sl 44 0 0 4 (some 4), .sl 45 0 0 3 (some 3)])
def o155 : Option AObj := some (.cells 0 49 66 1 false [.sl 47 0 0 3 (some 3), .sl 48 0 0 3 (some 3)])
def o156 : Option AObj := some (.cells 0 63 65 2 false [.v (.bool true), .sl 46 0 0 2 (some 2), .v (.bool true), .sl 62 0 0 3 none])
def o157 : Option AObj := some (.cells 0 49 66 1 true [.sl 47 0 0 3 (some 3), .sl 48 0 0 3 (some 3), q147])
def t0 : Tell := ⟨224, [q0], (.v (.bool true))⟩
def t1 : Tell := ⟨224, [q1], (.v (.bool true))⟩
def t2 : Tell := ⟨224, [q2], (.v (.bool true))⟩
def t3 : Tell := ⟨224, [q3], (.v (.bool true))⟩
def t4 : Tell := ⟨195, [q6], (.v (.bool true))⟩
def t5 : Tell := ⟨224, [q7], (.v (.bool true))⟩
def t6 : Tell := ⟨195, [q9], (.v (.bool true))⟩
def t7 : Tell := ⟨147, [q13], (.v (.bool true))⟩
def t8 : Tell := ⟨100, [q13], (.tup [q13, q14])⟩
def t9 : Tell := ⟨50, [q13], q14⟩
def t10 : Tell := ⟨172, [q18], (.v (.bool true))⟩
def t11 : Tell := ⟨172, [q20], (.v (.bool true))⟩
def t12 : Tell := ⟨122, [q21], (.v (.bool true))⟩
def t13 : Tell := ⟨175, [q22, .vs 4 [] none], (.v (.bool true))⟩
def t14 : Tell := ⟨175, [q23, .vs 4 [q22] none], (.v (.bool true))⟩
def t15 : Tell := ⟨195, [q24], (.v (.bool true))⟩
def t16 : Tell := ⟨147, [q25], (.v (.bool true))⟩
def t17 : Tell := ⟨100, [q25], q26⟩
def t18 : Tell := ⟨50, [q25], q14⟩
def t19 : Tell := ⟨218, [q4], (.v (.bool true))⟩
def t20 : Tell := ⟨217, [q4], (.v (.bool false))⟩
def t21 : Tell := ⟨224, [q27], (.v (.bool true))⟩
def t22 : Tell := ⟨195, [q29], (.v (.bool true))⟩
def t23 : Tell := ⟨147, [q30], (.v (.bool true))⟩
def t24 : Tell := ⟨100, [q30], (.tup [q30, q14])⟩
def t25 : Tell := ⟨50, [q30], q14⟩
def t26 : Tell := ⟨218, [q28], (.v (.bool true))⟩
def t27 : Tell := ⟨217, [q28], (.v (.bool false))⟩
def t28 : Tell := ⟨178, [q31], (.v (.bool true))⟩
def t29 : Tell := ⟨177, [q31], (.v (.bool false))⟩
def t30 : Tell := ⟨195, [q32], (.v (.bool true))⟩
def t31 : Tell := ⟨147, [q33], (.v (.bool true))⟩
def t32 : Tell := ⟨100, [q33], q34⟩
def t33 : Tell := ⟨50, [q33], q14⟩
def t34 : Tell := ⟨218, [q5], (.v (.bool true))⟩
def t35 : Tell := ⟨217, [q5], (.v (.bool false))⟩
def t36 : Tell := ⟨195, [q35], (.v (.bool true))⟩
def t37 : Tell := ⟨147, [q36], (.v (.bool true))⟩
def t38 : Tell := ⟨100, [q36], q37⟩
def t39 : Tell := ⟨50, [q36], q14⟩
def t40 : Tell := ⟨218, [q8], (.v (.bool true))⟩
def t41 : Tell := ⟨217, [q8], (.v (.bool false))⟩
def t42 : Tell := ⟨178, [q38], (.v (.bool true))⟩
def t43 : Tell := ⟨177, [q38], (.v (.bool false))⟩
def t44 : Tell := ⟨33, [q41, q16], (.tup [q8, q14])⟩
def t45 : Tell := ⟨30, [q41, q17], (.tup [.v (.int .i64 15), q14])⟩
def t46 : Tell := ⟨90, [], q47⟩
def t47 : Tell := ⟨195, [q48], (.v (.bool true))⟩
def t48 : Tell := ⟨147, [q49], (.v (.bool true))⟩
def t49 : Tell := ⟨100, [q49], (.tup [q49, q14])⟩
def t50 : Tell := ⟨50, [q49], q14⟩
def t51 : Tell := ⟨218, [q42], (.v (.bool true))⟩
def t52 : Tell := ⟨217, [q42], (.v (.bool false))⟩
def t53 : Tell := ⟨195, [q50], (.v (.bool true))⟩
def t54 : Tell := ⟨147, [q51], (.v (.bool true))⟩
def t55 : Tell := ⟨100, [q51], (.tup [q51, q14])⟩
def t56 : Tell := ⟨50, [q51], q14⟩
def t57 : Tell := ⟨218, [q43], (.v (.bool true))⟩
def t58 : Tell := ⟨217, [q43], (.v (.bool false))⟩
def t59 : Tell := ⟨178, [q45], (.v (.bool true))⟩
def t60 : Tell := ⟨177, [q45], (.v (.bool false))⟩
def t61 : Tell := ⟨32, [q47], q53⟩
def t62 : Tell := ⟨43, [q41], (.tup [q54, q14])⟩
def t63 : Tell := ⟨143, [q55, q52], q17⟩
def t64 : Tell := ⟨140, [q55, q52], (.v (.bool false))⟩
def u65 : TellH := ⟨86, [q56], [o57, o57, o58, o58, o59, o60, o61, o58], q52⟩
def t66 : Tell := ⟨35, [q41], q53⟩
def t67 : Tell := ⟨44, [q41], (.tup [q62, q54, q14])⟩
def t68 : Tell := ⟨101, [q25, q25], q26⟩
def t69 : Tell := ⟨107, [q25, q63], q4⟩
def t70 : Tell := ⟨152, [q4, q4], (.agg [q4, q4, q14, q17, q16, q11, q15, q64, q64, q64, q64, q64, q64, q64, q17, q14, q17, q16, q11, q64, q64, q64, q64, q64, q64, q64, q16, q17, q14, q17, q16, q64, q64, q64, q64, q64, q64, q64, q11, q16, q17, q14, q17, q64, q64, q64, q64, q64, q64, q64, q15, q11, q16, q17, q14, q64, q64, q64, q64, q64, q64, q64, q64, q64, q64, q64, q64, q64, q64, q64, q64, q64, q64, q64, q64, q64, q64, q64, q64, q64, q64, q64, q64, q64, q64, q64, q64, q64, q64, q64, q64, q64, q64, q64, q64, q64, q64, q64, q64, q64, q64, q64, q64, q64, q64, q64, q64, q64, q64, q64, q64, q64, q64, q64, q64, q64, q64, q64, q64, q64, q64, q64, q64, q64, q64, q64, q64, q64, q64, q64, q64, q64, q64, q64, q64, q64, q64, q64, q64, q64, q64, q64, q64, q64, q64, q64])⟩
def t71 : Tell := ⟨52, [q25, q25], q65⟩
def t72 : Tell := ⟨101, [q33, q30], q34⟩
def t73 : Tell := ⟨107, [q30, q63], q28⟩
def t74 : Tell := ⟨152, [q5, q28], (.agg [q5, q28, q17, q16, q16, q11, q64, q64, q64, q64, q64, q64, q64, q64, q16, q17, q17, q16, q64, q64, q64, q64, q64, q64, q64, q64, q16, q17, q14, q17, q64, q64, q64, q64, q64, q64, q64, q64, q11, q16, q17, q14, q64, q64, q64, q64, q64, q64, q64, q64, q64, q64, q64, q64, q64, q64, q64, q64, q64, q64, q64, q64, q64, q64, q64, q64, q64, q64, q64, q64, q64, q64, q64, q64, q64, q64, q64, q64, q64, q64, q64, q64, q64, q64, q64, q64, q64, q64, q64, q64, q64, q64, q64, q64, q64, q64, q64, q64, q64, q64, q64, q64, q64, q64, q64, q64, q64, q64, q64, q64, q64, q64, q64, q64, q64, q64, q64, q64, q64, q64, q64, q64, q64, q64, q64, q64, q64, q64, q64, q64, q64, q64, q64, q64, q64, q64, q64, q64, q64, q64, q64, q64, q64, q64, q64, q64])⟩
def t75 : Tell := ⟨52, [q33, q30], (.tup [q17, q14])⟩
def t76 : Tell := ⟨101, [q33, q25], q34⟩
def t77 : Tell := ⟨152, [q5, q4], (.agg [q5, q4, q11, q11, q11, q16, q11, q64, q64, q64, q64, q64, q64, q64, q16, q11, q16, q16, q16, q64, q64, q64, q64, q64, q64, q64, q11, q16, q16, q17, q17, q64, q64, q64, q64, q64, q64, q64, q15, q11, q16, q17, q14, q64, q64, q64, q64, q64, q64, q64, q64, q64, q64, q64, q64, q64, q64, q64, q64, q64, q64, q64, q64, q64, q64, q64, q64, q64, q64, q64, q64, q64, q64, q64, q64, q64, q64, q64, q64, q64, q64, q64, q64, q64, q64, q64, q64, q64, q64, q64, q64, q64, q64, q64, q64, q64, q64, q64, q64, q64, q64, q64, q64, q64, q64, q64, q64, q64, q64, q64, q64, q64, q64, q64, q64, q64, q64, q64, q64, q64, q64, q64, q64, q64, q64, q64, q64, q64, q64, q64, q64, q64, q64, q64, q64, q64, q64, q64, q64, q64, q64, q64, q64, q64, q64, q64])⟩
def t78 : Tell := ⟨52, [q33, q25], q66⟩
def t79 : Tell := ⟨19, [q41, q14], (.tup [.vs 3 [.agg [.v (.int .u8 3), q17, q17]] none, q14])⟩
def t80 : Tell := ⟨101, [q25, q49], q26⟩
def t81 : Tell := ⟨107, [q49, q63], q42⟩
def t82 : Tell := ⟨152, [q4, q42], (.agg [q4, q42, q14, q17, q16, q11, q15, q64, q64, q64, q64, q64, q64, q64, q17, q14, q17, q16, q11, q64, q64, q64, q64, q64, q64, q64, q16, q17, q14, q17, q16, q64, q64, q64, q64, q64, q64, q64, q11, q16, q17, q14, q17, q64, q64, q64, q64, q64, q64, q64, q15, q11, q16, q17, q14, q64, q64, q64, q64, q64, q64, q64, q64, q64, q64, q64, q64, q64, q64, q64, q64, q64, q64, q64, q64, q64, q64, q64, q64, q64, q64, q64, q64, q64, q64, q64, q64, q64, q64, q64, q64, q64, q64, q64, q64, q64, q64, q64, q64, q64, q64, q64, q64, q64, q64, q64, q64, q64, q64, q64, q64, q64, q64, q64, q64, q64, q64, q64, q64, q64, q64, q64, q64, q64, q64, q64, q64, q64, q64, q64, q64, q64, q64, q64, q64, q64, q64, q64, q64, q64, q64, q64, q64, q64, q64, q64])⟩
def t83 : Tell := ⟨52, [q25, q49], q65⟩
def t84 : Tell := ⟨101, [q33, q51], q34⟩
def t85 : Tell := ⟨107, [q51, q63], q43⟩
def t86 : Tell := ⟨152, [q5, q43], (.agg [q5, q43, q14, q17, q16, q11, q64, q64, q64, q64, q64, q64, q64, q64, q17, q14, q17, q16, q64, q64, q64, q64, q64, q64, q64, q64, q16, q17, q14, q17, q64, q64, q64, q64, q64, q64, q64, q64, q11, q16, q17, q14, q64, q64, q64, q64, q64, q64, q64, q64, q64, q64, q64, q64, q64, q64, q64, q64, q64, q64, q64, q64, q64, q64, q64, q64, q64, q64, q64, q64, q64, q64, q64, q64, q64, q64, q64, q64, q64, q64, q64, q64, q64, q64, q64, q64, q64, q64, q64, q64, q64, q64, q64, q64, q64, q64, q64, q64, q64, q64, q64, q64, q64, q64, q64, q64, q64, q64, q64, q64, q64, q64, q64, q64, q64, q64, q64, q64, q64, q64, q64, q64, q64, q64, q64, q64, q64, q64, q64, q64, q64, q64, q64, q64, q64, q64, q64, q64, q64, q64, q64, q64, q64, q64, q64, q64])⟩
def t87 : Tell := ⟨52, [q33, q51], q65⟩
def t88 : Tell := ⟨101, [q33, q49], q34⟩
def t89 : Tell := ⟨152, [q5, q42], (.agg [q5, q42, q11, q11, q11, q16, q11, q64, q64, q64, q64, q64, q64, q64, q16, q11, q16, q16, q16, q64, q64, q64, q64, q64, q64, q64, q11, q16, q16, q17, q17, q64, q64, q64, q64, q64, q64, q64, q15, q11, q16, q17, q14, q64, q64, q64, q64, q64, q64, q64, q64, q64, q64, q64, q64, q64, q64, q64, q64, q64, q64, q64, q64, q64, q64, q64, q64, q64, q64, q64, q64, q64, q64, q64, q64, q64, q64, q64, q64, q64, q64, q64, q64, q64, q64, q64, q64, q64, q64, q64, q64, q64, q64, q64, q64, q64, q64, q64, q64, q64, q64, q64, q64, q64, q64, q64, q64, q64, q64, q64, q64, q64, q64, q64, q64, q64, q64, q64, q64, q64, q64, q64, q64, q64, q64, q64, q64, q64, q64, q64, q64, q64, q64, q64, q64, q64, q64, q64, q64, q64, q64, q64, q64, q64, q64, q64])⟩
def t90 : Tell := ⟨52, [q33, q49], q66⟩
def u91 : TellH := ⟨70, [.agg [.sl 20 1 0 2 none, q44, .mp 13]], [o68, o68, o69, o68, o69, o69, o59, o60, o61, o69, o69, o69, o70, o72, o70, o69, o73, some .dead, some .dead, o74, o75, o70], q67⟩
def t92 : Tell := ⟨19, [q47, q14], (.tup [q67, q14])⟩
def t93 : Tell := ⟨198, [q78], (.v (.bool true))⟩
def t94 : Tell := ⟨153, [q78], q14⟩
def t95 : Tell := ⟨104, [q13, q78], q14⟩
def t96 : Tell := ⟨199, [q13, q78, q14], q79⟩
def t97 : Tell := ⟨199, [q13, q78, q17], q80⟩
def t98 : Tell := ⟨154, [q13, q78], (.vs 4 [q79, q80] none)⟩
def t99 : Tell := ⟨200, [q79, q14], (.agg [q14, q16, q81])⟩
def t100 : Tell := ⟨155, [q79, q14], q84⟩
def t101 : Tell := ⟨200, [q79, q17], (.agg [q17, q17, q81])⟩
def t102 : Tell := ⟨155, [q79, q17], q85⟩
def t103 : Tell := ⟨200, [q79, q16], (.agg [q16, q14, q81])⟩
def t104 : Tell := ⟨155, [q79, q16], q87⟩
def t105 : Tell := ⟨200, [q79, q11], q89⟩
def t106 : Tell := ⟨155, [q79, q11], q91⟩
def t107 : Tell := ⟨200, [q79, q15], q92⟩
def t108 : Tell := ⟨155, [q79, q15], q93⟩
def t109 : Tell := ⟨200, [q79, q19], q94⟩
def t110 : Tell := ⟨155, [q79, q19], q96⟩
def t111 : Tell := ⟨200, [q79, q97], q94⟩
def t112 : Tell := ⟨155, [q79, q97], q98⟩
def t113 : Tell := ⟨200, [q80, q14], q89⟩
def t114 : Tell := ⟨155, [q80, q14], q100⟩
def t115 : Tell := ⟨200, [q80, q17], q92⟩
def t116 : Tell := ⟨155, [q80, q17], q101⟩
def t117 : Tell := ⟨200, [q80, q16], q94⟩
def t118 : Tell := ⟨155, [q80, q16], q103⟩
def t119 : Tell := ⟨105, [q13, q78], q104⟩
def t120 : Tell := ⟨55, [q13, q78], (.tup [q104, q14])⟩
def u121 : TellH := ⟨86, [.agg [q12, q21, q39, q40, .sl 6 2 0 3 none, .sl 7 2 0 3 none]], [o57, o105, o57, o106, o106, o59, o60, o61, o106, some .dead, none, none, some .dead, some .dead, o106], q52⟩
def t122 : Tell := ⟨21, [q41, q78], (.tup [.vs 6 [q84, q85, q87, q91] none, q14])⟩
def u123 : TellH := ⟨86, [q56], [o57, o57, o58, o58, o59, o60, o61, o58, some .dead, none, none, some .dead, some .dead, some .dead, some .dead, some .dead], q52⟩
def t124 : Tell := ⟨136, [q14, q16, q17], q52⟩
def t125 : Tell := ⟨136, [q17, q16, q17], q55⟩
def t126 : Tell := ⟨23, [q41, .v (.int .i64 20)], (.tup [q52, .v (.int .i64 26), q14])⟩
def t127 : Tell := ⟨34, [q41], q107⟩
def t128 : Tell := ⟨53, [q8, .vs 1 [q1, q7, q1] (some 3)], (.v (.bool true))⟩
def t129 : Tell := ⟨29, [], (.v (.bool true))⟩
def t130 : Tell := ⟨30, [q41, q14], (.tup [.v (.int .i64 9), q14])⟩
def t131 : Tell := ⟨32, [q41], q107⟩
def t132 : Tell := ⟨101, [q33, q33], q34⟩
def t133 : Tell := ⟨107, [q33, q63], q5⟩
def t134 : Tell := ⟨152, [q5, q5], (.agg [q5, q5, q14, q17, q16, q11, q64, q64, q64, q64, q64, q64, q64, q64, q17, q14, q17, q16, q64, q64, q64, q64, q64, q64, q64, q64, q16, q17, q14, q17, q64, q64, q64, q64, q64, q64, q64, q64, q11, q16, q17, q14, q64, q64, q64, q64, q64, q64, q64, q64, q64, q64, q64, q64, q64, q64, q64, q64, q64, q64, q64, q64, q64, q64, q64, q64, q64, q64, q64, q64, q64, q64, q64, q64, q64, q64, q64, q64, q64, q64, q64, q64, q64, q64, q64, q64, q64, q64, q64, q64, q64, q64, q64, q64, q64, q64, q64, q64, q64, q64, q64, q64, q64, q64, q64, q64, q64, q64, q64, q64, q64, q64, q64, q64, q64, q64, q64, q64, q64, q64, q64, q64, q64, q64, q64, q64, q64, q64, q64, q64, q64, q64, q64, q64, q64, q64, q64, q64, q64, q64, q64, q64, q64, q64, q64, q64])⟩
def t135 : Tell := ⟨52, [q33, q33], q65⟩
def t136 : Tell := ⟨101, [q36, q36], q37⟩
def t137 : Tell := ⟨107, [q36, q63], q8⟩
def t138 : Tell := ⟨152, [q8, q8], (.agg [q8, q8, q14, q17, q16, q11, q64, q64, q64, q64, q64, q64, q64, q64, q17, q14, q17, q16, q64, q64, q64, q64, q64, q64, q64, q64, q16, q17, q14, q17, q64, q64, q64, q64, q64, q64, q64, q64, q11, q16, q17, q14, q64, q64, q64, q64, q64, q64, q64, q64, q64, q64, q64, q64, q64, q64, q64, q64, q64, q64, q64, q64, q64, q64, q64, q64, q64, q64, q64, q64, q64, q64, q64, q64, q64, q64, q64, q64, q64, q64, q64, q64, q64, q64, q64, q64, q64, q64, q64, q64, q64, q64, q64, q64, q64, q64, q64, q64, q64, q64, q64, q64, q64, q64, q64, q64, q64, q64, q64, q64, q64, q64, q64, q64, q64, q64, q64, q64, q64, q64, q64, q64, q64, q64, q64, q64, q64, q64, q64, q64, q64, q64, q64, q64, q64, q64, q64, q64, q64, q64, q64, q64, q64, q64, q64, q64])⟩
def t139 : Tell := ⟨52, [q36, q36], q65⟩
def t140 : Tell := ⟨101, [q36, q33], q37⟩
def t141 : Tell := ⟨152, [q8, q5], (.agg [q8, q5, q16, q16, q16, q11, q64, q64, q64, q64, q64, q64, q64, q64, q16, q17, q17, q16, q64, q64, q64, q64, q64, q64, q64, q64, q16, q17, q14, q17, q64, q64, q64, q64, q64, q64, q64, q64, q11, q16, q17, q14, q64, q64, q64, q64, q64, q64, q64, q64, q64, q64, q64, q64, q64, q64, q64, q64, q64, q64, q64, q64, q64, q64, q64, q64, q64, q64, q64, q64, q64, q64, q64, q64, q64, q64, q64, q64, q64, q64, q64, q64, q64, q64, q64, q64, q64, q64, q64, q64, q64, q64, q64, q64, q64, q64, q64, q64, q64, q64, q64, q64, q64, q64, q64, q64, q64, q64, q64, q64, q64, q64, q64, q64, q64, q64, q64, q64, q64, q64, q64, q64, q64, q64, q64, q64, q64, q64, q64, q64, q64, q64, q64, q64, q64, q64, q64, q64, q64, q64, q64, q64, q64, q64, q64, q64])⟩
def t142 : Tell := ⟨52, [q36, q33], q108⟩
def t143 : Tell := ⟨19, [q41, q17], q107⟩
def t144 : Tell := ⟨33, [q41, q11], (.tup [q62, q16])⟩
def t145 : Tell := ⟨30, [q41, q16], (.tup [q14, q16])⟩
def t146 : Tell := ⟨195, [q109], (.v (.bool true))⟩
def t147 : Tell := ⟨147, [q110], (.v (.bool true))⟩
def t148 : Tell := ⟨100, [q110], (.tup [q110, q14])⟩
def t149 : Tell := ⟨50, [q110], q14⟩
def t150 : Tell := ⟨195, [q111], (.v (.bool true))⟩
def t151 : Tell := ⟨147, [q112], (.v (.bool true))⟩
def t152 : Tell := ⟨100, [q112], (.tup [q112, q14])⟩
def t153 : Tell := ⟨50, [q112], q14⟩
def t154 : Tell := ⟨178, [q113], (.v (.bool true))⟩
def t155 : Tell := ⟨177, [q113], (.v (.bool false))⟩
def u156 : TellH := ⟨19, [.agg [.sl 22 0 0 2 (some 2), .sl 23 0 0 2 (some 2), .sl 24 0 0 2 (some 2), .sl 31 0 0 2 (some 2)], q17], [o115, o116, o117, o118, o119, o120, o121, o122, o123, o116, o124, o125, o117, o119, o126, o127, o128, o116, o117, o129, o119, o130, o131, o122, o132, o116, o124, o133, o117, o119, o134, o135, o115, o128, o136], q114⟩
def t157 : Tell := ⟨198, [q137], (.v (.bool false))⟩
def t158 : Tell := ⟨153, [q137], q138⟩
def t159 : Tell := ⟨104, [q13, q137], q138⟩
def t160 : Tell := ⟨55, [q13, q137], q139⟩
def t161 : Tell := ⟨21, [q41, q137], q139⟩
def t162 : Tell := ⟨23, [q41, .v (.int .i64 401)], (.tup [q62, q14, q16])⟩
def t163 : Tell := ⟨147, [q140], (.v (.bool false))⟩
def t164 : Tell := ⟨100, [q140], (.tup [q140, q81])⟩
def t165 : Tell := ⟨50, [q140], q81⟩
def t166 : Tell := ⟨35, [.agg [q62, q21, q39, q40]], (.tup [q62, q81])⟩
def t167 : Tell := ⟨195, [q141], (.v (.bool true))⟩
def t168 : Tell := ⟨147, [q142], (.v (.bool true))⟩
def t169 : Tell := ⟨100, [q142], q143⟩
def t170 : Tell := ⟨50, [q142], q14⟩
def t171 : Tell := ⟨147, [q144], (.v (.bool true))⟩
def t172 : Tell := ⟨100, [q144], q145⟩
def t173 : Tell := ⟨50, [q144], q14⟩
def t174 : Tell := ⟨224, [q146], (.v (.bool true))⟩
def t175 : Tell := ⟨195, [q148], (.v (.bool true))⟩
def t176 : Tell := ⟨147, [q149], (.v (.bool true))⟩
def t177 : Tell := ⟨100, [q149], (.tup [q149, q14])⟩
def t178 : Tell := ⟨50, [q149], q14⟩
def t179 : Tell := ⟨218, [q147], (.v (.bool true))⟩
def t180 : Tell := ⟨217, [q147], (.v (.bool false))⟩
def t181 : Tell := ⟨101, [q142, q142], q143⟩
def t182 : Tell := ⟨107, [q142, q63], q5⟩
def t183 : Tell := ⟨52, [q142, q142], q65⟩
def t184 : Tell := ⟨101, [q144, q144], q145⟩
def t185 : Tell := ⟨107, [q144, q63], q8⟩
def t186 : Tell := ⟨52, [q144, q144], q65⟩
def t187 : Tell := ⟨101, [q144, q142], q145⟩
def t188 : Tell := ⟨52, [q144, q142], q108⟩
def u189 : TellH := ⟨19, [.agg [.sl 41 0 0 2 (some 2), .sl 42 0 0 2 (some 2), .sl 43 0 0 2 (some 2), .sl 50 0 0 2 (some 2)], q17], [o115, o116, o117, o118, o119, o120, o121, o122, o123, o116, o124, o125, o117, o119, o126, o127, o128, o116, o117, o129, o119, o130, o131, o122, o132, o116, o124, o133, o117, o119, o134, o135, o115, o128, o136, o150, o116, o117, o151, o119, o152, o153, o122, o132, o116, o124, o154, o117, o119, o155, o156, o150, none, none, none, none, none, none, none, none, none, none, o157, none, none, none], q114⟩
end Go.Ev
/- What calls answer that are met. Made by program. -/
namespace Go.Ev
set_option maxRecDepth 1000000
/- postil/leaf.isWord -/
theorem g0 : Good t0 := good [] trivial [] trivial (by kernel_rfl) (by kernel_rfl)
/- postil/leaf.isWord -/
theorem g1 : Good t1 := good [] trivial [] trivial (by kernel_rfl) (by kernel_rfl)
/- postil/leaf.isWord -/
theorem g2 : Good t2 := good [] trivial [] trivial (by kernel_rfl) (by kernel_rfl)
/- postil/leaf.isWord -/
theorem g3 : Good t3 := good [] trivial [] trivial (by kernel_rfl) (by kernel_rfl)
/- postil/leaf.isLines -/
theorem g4 : Good t4 := good [t0, t1, t2, t3] ⟨g0, g1, g2, g3, trivial⟩ [] trivial (by kernel_rfl) (by kernel_rfl)
/- postil/leaf.isWord -/
theorem g5 : Good t5 := good [] trivial [] trivial (by kernel_rfl) (by kernel_rfl)
/- postil/leaf.isLines -/
theorem g6 : Good t6 := good [t1, t5] ⟨g1, g5, trivial⟩ [] trivial (by kernel_rfl) (by kernel_rfl)
/- postil/leaf.isText -/
theorem g7 : Good t7 := good [t4, t6] ⟨g4, g6, trivial⟩ [] trivial (by kernel_rfl) (by kernel_rfl)
/- postil/leaf.begin -/
theorem g8 : Good t8 := good [t7] ⟨g7, trivial⟩ [] trivial (by kernel_rfl) (by kernel_rfl)
/- postil/leaf.Check -/
theorem g9 : Good t9 := good [t8] ⟨g8, trivial⟩ [] trivial (by kernel_rfl) (by kernel_rfl)
/- postil/hand.isHelper -/
theorem g10 : Good t10 := good [] trivial [] trivial (by kernel_rfl) (by kernel_rfl)
/- postil/hand.isHelper -/
theorem g11 : Good t11 := good [] trivial [] trivial (by kernel_rfl) (by kernel_rfl)
/- postil/hand.areHelpers -/
theorem g12 : Good t12 := good [t10, t11] ⟨g10, g11, trivial⟩ [] trivial (by kernel_rfl) (by kernel_rfl)
/- postil/hand.isBehind -/
theorem g13 : Good t13 := good [] trivial [] trivial (by kernel_rfl) (by kernel_rfl)
/- postil/hand.isBehind -/
theorem g14 : Good t14 := good [] trivial [] trivial (by kernel_rfl) (by kernel_rfl)
/- postil/leaf.isLines -/
theorem g15 : Good t15 := good [t0, t1, t2, t3] ⟨g0, g1, g2, g3, trivial⟩ [] trivial (by kernel_rfl) (by kernel_rfl)
/- postil/leaf.isText -/
theorem g16 : Good t16 := good [t15] ⟨g15, trivial⟩ [] trivial (by kernel_rfl) (by kernel_rfl)
/- postil/leaf.begin -/
theorem g17 : Good t17 := good [t16] ⟨g16, trivial⟩ [] trivial (by kernel_rfl) (by kernel_rfl)
/- postil/leaf.Check -/
theorem g18 : Good t18 := good [t17] ⟨g17, trivial⟩ [] trivial (by kernel_rfl) (by kernel_rfl)
/- postil/hand.isLine -/
theorem g19 : Good t19 := good [t18] ⟨g18, trivial⟩ [] trivial (by kernel_rfl) (by kernel_rfl)
/- postil/hand.isSheet$1 -/
theorem g20 : Good t20 := good [t19] ⟨g19, trivial⟩ [] trivial (by kernel_rfl) (by kernel_rfl)
/- postil/leaf.isWord -/
theorem g21 : Good t21 := good [] trivial [] trivial (by kernel_rfl) (by kernel_rfl)
/- postil/leaf.isLines -/
theorem g22 : Good t22 := good [t1, t3, t21] ⟨g1, g3, g21, trivial⟩ [] trivial (by kernel_rfl) (by kernel_rfl)
/- postil/leaf.isText -/
theorem g23 : Good t23 := good [t22] ⟨g22, trivial⟩ [] trivial (by kernel_rfl) (by kernel_rfl)
/- postil/leaf.begin -/
theorem g24 : Good t24 := good [t23] ⟨g23, trivial⟩ [] trivial (by kernel_rfl) (by kernel_rfl)
/- postil/leaf.Check -/
theorem g25 : Good t25 := good [t24] ⟨g24, trivial⟩ [] trivial (by kernel_rfl) (by kernel_rfl)
/- postil/hand.isLine -/
theorem g26 : Good t26 := good [t25] ⟨g25, trivial⟩ [] trivial (by kernel_rfl) (by kernel_rfl)
/- postil/hand.isSheet$1 -/
theorem g27 : Good t27 := good [t26] ⟨g26, trivial⟩ [] trivial (by kernel_rfl) (by kernel_rfl)
/- postil/hand.isSheet -/
theorem g28 : Good t28 := good [t20, t27] ⟨g20, g27, trivial⟩ [] trivial (by kernel_rfl) (by kernel_rfl)
/- (postil/hand.round).areSheets$1 -/
theorem g29 : Good t29 := good [t28] ⟨g28, trivial⟩ [] trivial (by kernel_rfl) (by kernel_rfl)
/- postil/leaf.isLines -/
theorem g30 : Good t30 := good [t0, t1, t3] ⟨g0, g1, g3, trivial⟩ [] trivial (by kernel_rfl) (by kernel_rfl)
/- postil/leaf.isText -/
theorem g31 : Good t31 := good [t30] ⟨g30, trivial⟩ [] trivial (by kernel_rfl) (by kernel_rfl)
/- postil/leaf.begin -/
theorem g32 : Good t32 := good [t31] ⟨g31, trivial⟩ [] trivial (by kernel_rfl) (by kernel_rfl)
/- postil/leaf.Check -/
theorem g33 : Good t33 := good [t32] ⟨g32, trivial⟩ [] trivial (by kernel_rfl) (by kernel_rfl)
/- postil/hand.isLine -/
theorem g34 : Good t34 := good [t33] ⟨g33, trivial⟩ [] trivial (by kernel_rfl) (by kernel_rfl)
/- postil/hand.isSheet$1 -/
theorem g35 : Good t35 := good [t34] ⟨g34, trivial⟩ [] trivial (by kernel_rfl) (by kernel_rfl)
/- postil/leaf.isLines -/
theorem g36 : Good t36 := good [t1, t5] ⟨g1, g5, trivial⟩ [] trivial (by kernel_rfl) (by kernel_rfl)
/- postil/leaf.isText -/
theorem g37 : Good t37 := good [t36] ⟨g36, trivial⟩ [] trivial (by kernel_rfl) (by kernel_rfl)
/- postil/leaf.begin -/
theorem g38 : Good t38 := good [t37] ⟨g37, trivial⟩ [] trivial (by kernel_rfl) (by kernel_rfl)
/- postil/leaf.Check -/
theorem g39 : Good t39 := good [t38] ⟨g38, trivial⟩ [] trivial (by kernel_rfl) (by kernel_rfl)
/- postil/hand.isLine -/
theorem g40 : Good t40 := good [t39] ⟨g39, trivial⟩ [] trivial (by kernel_rfl) (by kernel_rfl)
/- postil/hand.isSheet$1 -/
theorem g41 : Good t41 := good [t40] ⟨g40, trivial⟩ [] trivial (by kernel_rfl) (by kernel_rfl)
/- postil/hand.isSheet -/
theorem g42 : Good t42 := good [t35, t41] ⟨g35, g41, trivial⟩ [] trivial (by kernel_rfl) (by kernel_rfl)
/- (postil/hand.round).areSheets$1 -/
theorem g43 : Good t43 := good [t42] ⟨g42, trivial⟩ [] trivial (by kernel_rfl) (by kernel_rfl)
/- postil/hand.Line -/
theorem g44 : Good t44 := good [t9, t12, t13, t14, t29, t43] ⟨g9, g12, g13, g14, g29, g43, trivial⟩ [] trivial (by kernel_rfl) (by kernel_rfl)
/- postil/hand.Back -/
theorem g45 : Good t45 := good [t9, t12, t13, t14, t29, t43] ⟨g9, g12, g13, g14, g29, g43, trivial⟩ [] trivial (by kernel_rfl) (by kernel_rfl)
/- postil/postillaw05.repeated -/
theorem g46 : Good t46 := good [] trivial [] trivial (by kernel_rfl) (by kernel_rfl)
/- postil/leaf.isLines -/
theorem g47 : Good t47 := good [t0, t1, t2, t3] ⟨g0, g1, g2, g3, trivial⟩ [] trivial (by kernel_rfl) (by kernel_rfl)
/- postil/leaf.isText -/
theorem g48 : Good t48 := good [t47] ⟨g47, trivial⟩ [] trivial (by kernel_rfl) (by kernel_rfl)
/- postil/leaf.begin -/
theorem g49 : Good t49 := good [t48] ⟨g48, trivial⟩ [] trivial (by kernel_rfl) (by kernel_rfl)
/- postil/leaf.Check -/
theorem g50 : Good t50 := good [t49] ⟨g49, trivial⟩ [] trivial (by kernel_rfl) (by kernel_rfl)
/- postil/hand.isLine -/
theorem g51 : Good t51 := good [t50] ⟨g50, trivial⟩ [] trivial (by kernel_rfl) (by kernel_rfl)
/- postil/hand.isSheet$1 -/
theorem g52 : Good t52 := good [t51] ⟨g51, trivial⟩ [] trivial (by kernel_rfl) (by kernel_rfl)
/- postil/leaf.isLines -/
theorem g53 : Good t53 := good [t0, t1, t3] ⟨g0, g1, g3, trivial⟩ [] trivial (by kernel_rfl) (by kernel_rfl)
/- postil/leaf.isText -/
theorem g54 : Good t54 := good [t53] ⟨g53, trivial⟩ [] trivial (by kernel_rfl) (by kernel_rfl)
/- postil/leaf.begin -/
theorem g55 : Good t55 := good [t54] ⟨g54, trivial⟩ [] trivial (by kernel_rfl) (by kernel_rfl)
/- postil/leaf.Check -/
theorem g56 : Good t56 := good [t55] ⟨g55, trivial⟩ [] trivial (by kernel_rfl) (by kernel_rfl)
/- postil/hand.isLine -/
theorem g57 : Good t57 := good [t56] ⟨g56, trivial⟩ [] trivial (by kernel_rfl) (by kernel_rfl)
/- postil/hand.isSheet$1 -/
theorem g58 : Good t58 := good [t57] ⟨g57, trivial⟩ [] trivial (by kernel_rfl) (by kernel_rfl)
/- postil/hand.isSheet -/
theorem g59 : Good t59 := good [t52, t58] ⟨g52, g58, trivial⟩ [] trivial (by kernel_rfl) (by kernel_rfl)
/- (postil/hand.round).areSheets$1 -/
theorem g60 : Good t60 := good [t59] ⟨g59, trivial⟩ [] trivial (by kernel_rfl) (by kernel_rfl)
/- postil/hand.Torn -/
theorem g61 : Good t61 := good [t9, t12, t13, t14, t43, t60] ⟨g9, g12, g13, g14, g43, g60, trivial⟩ [] trivial (by kernel_rfl) (by kernel_rfl)
/- postil/hand.Differ -/
theorem g62 : Good t62 := good [t9, t12, t13, t14, t29, t43] ⟨g9, g12, g13, g14, g29, g43, trivial⟩ [] trivial (by kernel_rfl) (by kernel_rfl)
/- slices.Compare[[]int,int] -/
theorem g63 : Good t63 := good [] trivial [] trivial (by kernel_rfl) (by kernel_rfl)
/- (postil/hand.round).again$1 -/
theorem g64 : Good t64 := good [t63] ⟨g63, trivial⟩ [] trivial (by kernel_rfl) (by kernel_rfl)
/- (postil/hand.round).again -/
theorem k65 : GoodM u65 := goodm [t64] ⟨g64, trivial⟩ [] trivial (by kernel_rfl) (by kernel_rfl)
/- postil/hand.Again -/
theorem g66 : Good t66 := good [t9, t12, t13, t14, t29, t43] ⟨g9, g12, g13, g14, g29, g43, trivial⟩ [u65] ⟨k65, trivial⟩ (by kernel_rfl) (by kernel_rfl)
/- postil/hand.Proof -/
theorem g67 : Good t67 := good [t9, t12, t13, t14, t29, t43] ⟨g9, g12, g13, g14, g29, g43, trivial⟩ [] trivial (by kernel_rfl) (by kernel_rfl)
/- postil/leaf.beginAlike -/
theorem g68 : Good t68 := good [t16] ⟨g16, trivial⟩ [] trivial (by kernel_rfl) (by kernel_rfl)
/- (postil/leaf.text).lineOf -/
theorem g69 : Good t69 := good [] trivial [] trivial (by kernel_rfl) (by kernel_rfl)
/- postil/leaf.newPair -/
theorem g70 : Good t70 := good [] trivial [] trivial (by kernel_rfl) (by kernel_rfl)
/- postil/leaf.Apart -/
theorem g71 : Good t71 := good [t68, t69, t70] ⟨g68, g69, g70, trivial⟩ [] trivial (by kernel_rfl) (by kernel_rfl)
/- postil/leaf.beginAlike -/
theorem g72 : Good t72 := good [t23, t31] ⟨g23, g31, trivial⟩ [] trivial (by kernel_rfl) (by kernel_rfl)
/- (postil/leaf.text).lineOf -/
theorem g73 : Good t73 := good [] trivial [] trivial (by kernel_rfl) (by kernel_rfl)
/- postil/leaf.newPair -/
theorem g74 : Good t74 := good [] trivial [] trivial (by kernel_rfl) (by kernel_rfl)
/- postil/leaf.Apart -/
theorem g75 : Good t75 := good [t72, t73, t74] ⟨g72, g73, g74, trivial⟩ [] trivial (by kernel_rfl) (by kernel_rfl)
/- postil/leaf.beginAlike -/
theorem g76 : Good t76 := good [t16, t31] ⟨g16, g31, trivial⟩ [] trivial (by kernel_rfl) (by kernel_rfl)
/- postil/leaf.newPair -/
theorem g77 : Good t77 := good [] trivial [] trivial (by kernel_rfl) (by kernel_rfl)
/- postil/leaf.Apart -/
theorem g78 : Good t78 := good [t69, t76, t77] ⟨g69, g76, g77, trivial⟩ [] trivial (by kernel_rfl) (by kernel_rfl)
/- postil/hand.Explain -/
theorem g79 : Good t79 := good [t9, t12, t13, t14, t29, t43, t71, t75, t78] ⟨g9, g12, g13, g14, g29, g43, g71, g75, g78, trivial⟩ [] trivial (by kernel_rfl) (by kernel_rfl)
/- postil/leaf.beginAlike -/
theorem g80 : Good t80 := good [t16, t48] ⟨g16, g48, trivial⟩ [] trivial (by kernel_rfl) (by kernel_rfl)
/- (postil/leaf.text).lineOf -/
theorem g81 : Good t81 := good [] trivial [] trivial (by kernel_rfl) (by kernel_rfl)
/- postil/leaf.newPair -/
theorem g82 : Good t82 := good [] trivial [] trivial (by kernel_rfl) (by kernel_rfl)
/- postil/leaf.Apart -/
theorem g83 : Good t83 := good [t80, t81, t82] ⟨g80, g81, g82, trivial⟩ [] trivial (by kernel_rfl) (by kernel_rfl)
/- postil/leaf.beginAlike -/
theorem g84 : Good t84 := good [t31, t54] ⟨g31, g54, trivial⟩ [] trivial (by kernel_rfl) (by kernel_rfl)
/- (postil/leaf.text).lineOf -/
theorem g85 : Good t85 := good [] trivial [] trivial (by kernel_rfl) (by kernel_rfl)
/- postil/leaf.newPair -/
theorem g86 : Good t86 := good [] trivial [] trivial (by kernel_rfl) (by kernel_rfl)
/- postil/leaf.Apart -/
theorem g87 : Good t87 := good [t84, t85, t86] ⟨g84, g85, g86, trivial⟩ [] trivial (by kernel_rfl) (by kernel_rfl)
/- postil/leaf.beginAlike -/
theorem g88 : Good t88 := good [t31, t48] ⟨g31, g48, trivial⟩ [] trivial (by kernel_rfl) (by kernel_rfl)
/- postil/leaf.newPair -/
theorem g89 : Good t89 := good [] trivial [] trivial (by kernel_rfl) (by kernel_rfl)
/- postil/leaf.Apart -/
theorem g90 : Good t90 := good [t81, t88, t89] ⟨g81, g88, g89, trivial⟩ [] trivial (by kernel_rfl) (by kernel_rfl)
/- (postil/hand.writing).faults -/
theorem k91 : GoodM u91 := goodm [t83, t87, t90] ⟨g83, g87, g90, trivial⟩ [] trivial (by kernel_rfl) (by kernel_rfl)
/- postil/hand.Explain -/
theorem g92 : Good t92 := good [t9, t12, t13, t14, t43, t60, t83, t87, t90] ⟨g9, g12, g13, g14, g43, g60, g83, g87, g90, trivial⟩ [u91] ⟨k91, trivial⟩ (by kernel_rfl) (by kernel_rfl)
/- postil/slip.isCut -/
theorem g93 : Good t93 := good [] trivial [] trivial (by kernel_rfl) (by kernel_rfl)
/- postil/slip.Check -/
theorem g94 : Good t94 := good [t93] ⟨g93, trivial⟩ [] trivial (by kernel_rfl) (by kernel_rfl)
/- postil/slip.check -/
theorem g95 : Good t95 := good [t9, t94] ⟨g9, g94, trivial⟩ [] trivial (by kernel_rfl) (by kernel_rfl)
/- postil/slip.runOf -/
theorem g96 : Good t96 := good [] trivial [] trivial (by kernel_rfl) (by kernel_rfl)
/- postil/slip.runOf -/
theorem g97 : Good t97 := good [] trivial [] trivial (by kernel_rfl) (by kernel_rfl)
/- postil/slip.runs -/
theorem g98 : Good t98 := good [t96, t97] ⟨g96, g97, trivial⟩ [] trivial (by kernel_rfl) (by kernel_rfl)
/- (postil/slip.run).context -/
theorem g99 : Good t99 := good [] trivial [] trivial (by kernel_rfl) (by kernel_rfl)
/- (postil/slip.run).slip -/
theorem g100 : Good t100 := good [t99] ⟨g99, trivial⟩ [] trivial (by kernel_rfl) (by kernel_rfl)
/- (postil/slip.run).context -/
theorem g101 : Good t101 := good [] trivial [] trivial (by kernel_rfl) (by kernel_rfl)
/- (postil/slip.run).slip -/
theorem g102 : Good t102 := good [t101] ⟨g101, trivial⟩ [] trivial (by kernel_rfl) (by kernel_rfl)
/- (postil/slip.run).context -/
theorem g103 : Good t103 := good [] trivial [] trivial (by kernel_rfl) (by kernel_rfl)
/- (postil/slip.run).slip -/
theorem g104 : Good t104 := good [t103] ⟨g103, trivial⟩ [] trivial (by kernel_rfl) (by kernel_rfl)
/- (postil/slip.run).context -/
theorem g105 : Good t105 := good [] trivial [] trivial (by kernel_rfl) (by kernel_rfl)
/- (postil/slip.run).slip -/
theorem g106 : Good t106 := good [t105] ⟨g105, trivial⟩ [] trivial (by kernel_rfl) (by kernel_rfl)
/- (postil/slip.run).context -/
theorem g107 : Good t107 := good [] trivial [] trivial (by kernel_rfl) (by kernel_rfl)
/- (postil/slip.run).slip -/
theorem g108 : Good t108 := good [t107] ⟨g107, trivial⟩ [] trivial (by kernel_rfl) (by kernel_rfl)
/- (postil/slip.run).context -/
theorem g109 : Good t109 := good [] trivial [] trivial (by kernel_rfl) (by kernel_rfl)
/- (postil/slip.run).slip -/
theorem g110 : Good t110 := good [t109] ⟨g109, trivial⟩ [] trivial (by kernel_rfl) (by kernel_rfl)
/- (postil/slip.run).context -/
theorem g111 : Good t111 := good [] trivial [] trivial (by kernel_rfl) (by kernel_rfl)
/- (postil/slip.run).slip -/
theorem g112 : Good t112 := good [t111] ⟨g111, trivial⟩ [] trivial (by kernel_rfl) (by kernel_rfl)
/- (postil/slip.run).context -/
theorem g113 : Good t113 := good [] trivial [] trivial (by kernel_rfl) (by kernel_rfl)
/- (postil/slip.run).slip -/
theorem g114 : Good t114 := good [t113] ⟨g113, trivial⟩ [] trivial (by kernel_rfl) (by kernel_rfl)
/- (postil/slip.run).context -/
theorem g115 : Good t115 := good [] trivial [] trivial (by kernel_rfl) (by kernel_rfl)
/- (postil/slip.run).slip -/
theorem g116 : Good t116 := good [t115] ⟨g115, trivial⟩ [] trivial (by kernel_rfl) (by kernel_rfl)
/- (postil/slip.run).context -/
theorem g117 : Good t117 := good [] trivial [] trivial (by kernel_rfl) (by kernel_rfl)
/- (postil/slip.run).slip -/
theorem g118 : Good t118 := good [t117] ⟨g117, trivial⟩ [] trivial (by kernel_rfl) (by kernel_rfl)
/- postil/slip.slips -/
theorem g119 : Good t119 := good [t98, t100, t102, t104, t106, t108, t110, t112, t114, t116, t118] ⟨g98, g100, g102, g104, g106, g108, g110, g112, g114, g116, g118, trivial⟩ [] trivial (by kernel_rfl) (by kernel_rfl)
/- postil/slip.All -/
theorem g120 : Good t120 := good [t95, t119] ⟨g95, g119, trivial⟩ [] trivial (by kernel_rfl) (by kernel_rfl)
/- (postil/hand.round).again -/
theorem k121 : GoodM u121 := goodm [t64] ⟨g64, trivial⟩ [] trivial (by kernel_rfl) (by kernel_rfl)
/- postil/hand.Doubt -/
theorem g122 : Good t122 := good [t9, t12, t13, t14, t29, t43, t120] ⟨g9, g12, g13, g14, g29, g43, g120, trivial⟩ [u121] ⟨k121, trivial⟩ (by kernel_rfl) (by kernel_rfl)
/- (postil/hand.round).again -/
theorem k123 : GoodM u123 := goodm [t64] ⟨g64, trivial⟩ [] trivial (by kernel_rfl) (by kernel_rfl)
/- postil/hand.digits -/
theorem g124 : Good t124 := good [] trivial [] trivial (by kernel_rfl) (by kernel_rfl)
/- postil/hand.digits -/
theorem g125 : Good t125 := good [] trivial [] trivial (by kernel_rfl) (by kernel_rfl)
end Go.Ev
/- What calls answer that are met. Made by program. -/
namespace Go.Ev
set_option maxRecDepth 1000000
/- postil/hand.Assign -/
theorem g126 : Good t126 := good [t9, t12, t13, t14, t29, t43, t124, t125] ⟨g9, g12, g13, g14, g29, g43, g124, g125, trivial⟩ [u123] ⟨k123, trivial⟩ (by kernel_rfl) (by kernel_rfl)
/- postil/hand.Gaps -/
theorem g127 : Good t127 := good [t9, t12, t13, t14, t29, t43] ⟨g9, g12, g13, g14, g29, g43, trivial⟩ [] trivial (by kernel_rfl) (by kernel_rfl)
/- postil/postilref01.SameWords -/
theorem g128 : Good t128 := good [] trivial [] trivial (by kernel_rfl) (by kernel_rfl)
/- postil/postillaw05.alive -/
theorem g129 : Good t129 := good [t44, t45, t46, t61, t62, t66, t67, t79, t92, t122, t126, t127, t128] ⟨g44, g45, g46, g61, g62, g66, g67, g79, g92, g122, g126, g127, g128, trivial⟩ [] trivial (by kernel_rfl) (by kernel_rfl)
/- postil/hand.Back -/
theorem g130 : Good t130 := good [t9, t12, t13, t14, t29, t43] ⟨g9, g12, g13, g14, g29, g43, trivial⟩ [] trivial (by kernel_rfl) (by kernel_rfl)
/- postil/hand.Torn -/
theorem g131 : Good t131 := good [t9, t12, t13, t14, t29, t43] ⟨g9, g12, g13, g14, g29, g43, trivial⟩ [] trivial (by kernel_rfl) (by kernel_rfl)
/- postil/leaf.beginAlike -/
theorem g132 : Good t132 := good [t31] ⟨g31, trivial⟩ [] trivial (by kernel_rfl) (by kernel_rfl)
/- (postil/leaf.text).lineOf -/
theorem g133 : Good t133 := good [] trivial [] trivial (by kernel_rfl) (by kernel_rfl)
/- postil/leaf.newPair -/
theorem g134 : Good t134 := good [] trivial [] trivial (by kernel_rfl) (by kernel_rfl)
/- postil/leaf.Apart -/
theorem g135 : Good t135 := good [t132, t133, t134] ⟨g132, g133, g134, trivial⟩ [] trivial (by kernel_rfl) (by kernel_rfl)
/- postil/leaf.beginAlike -/
theorem g136 : Good t136 := good [t37] ⟨g37, trivial⟩ [] trivial (by kernel_rfl) (by kernel_rfl)
/- (postil/leaf.text).lineOf -/
theorem g137 : Good t137 := good [] trivial [] trivial (by kernel_rfl) (by kernel_rfl)
/- postil/leaf.newPair -/
theorem g138 : Good t138 := good [] trivial [] trivial (by kernel_rfl) (by kernel_rfl)
/- postil/leaf.Apart -/
theorem g139 : Good t139 := good [t136, t137, t138] ⟨g136, g137, g138, trivial⟩ [] trivial (by kernel_rfl) (by kernel_rfl)
/- postil/leaf.beginAlike -/
theorem g140 : Good t140 := good [t31, t37] ⟨g31, g37, trivial⟩ [] trivial (by kernel_rfl) (by kernel_rfl)
/- postil/leaf.newPair -/
theorem g141 : Good t141 := good [] trivial [] trivial (by kernel_rfl) (by kernel_rfl)
/- postil/leaf.Apart -/
theorem g142 : Good t142 := good [t133, t140, t141] ⟨g133, g140, g141, trivial⟩ [] trivial (by kernel_rfl) (by kernel_rfl)
/- postil/hand.Explain -/
theorem g143 : Good t143 := good [t9, t12, t13, t14, t29, t43, t135, t139, t142] ⟨g9, g12, g13, g14, g29, g43, g135, g139, g142, trivial⟩ [] trivial (by kernel_rfl) (by kernel_rfl)
/- postil/hand.Line -/
theorem g144 : Good t144 := good [t9, t12, t13, t14, t29, t43] ⟨g9, g12, g13, g14, g29, g43, trivial⟩ [] trivial (by kernel_rfl) (by kernel_rfl)
/- postil/hand.Back -/
theorem g145 : Good t145 := good [t9, t12, t13, t14, t29, t43] ⟨g9, g12, g13, g14, g29, g43, trivial⟩ [] trivial (by kernel_rfl) (by kernel_rfl)
/- postil/leaf.isLines -/
theorem g146 : Good t146 := good [t0, t1, t2, t3] ⟨g0, g1, g2, g3, trivial⟩ [] trivial (by kernel_rfl) (by kernel_rfl)
/- postil/leaf.isText -/
theorem g147 : Good t147 := good [t146] ⟨g146, trivial⟩ [] trivial (by kernel_rfl) (by kernel_rfl)
/- postil/leaf.begin -/
theorem g148 : Good t148 := good [t147] ⟨g147, trivial⟩ [] trivial (by kernel_rfl) (by kernel_rfl)
/- postil/leaf.Check -/
theorem g149 : Good t149 := good [t148] ⟨g148, trivial⟩ [] trivial (by kernel_rfl) (by kernel_rfl)
/- postil/leaf.isLines -/
theorem g150 : Good t150 := good [t1, t3, t21] ⟨g1, g3, g21, trivial⟩ [] trivial (by kernel_rfl) (by kernel_rfl)
/- postil/leaf.isText -/
theorem g151 : Good t151 := good [t150] ⟨g150, trivial⟩ [] trivial (by kernel_rfl) (by kernel_rfl)
/- postil/leaf.begin -/
theorem g152 : Good t152 := good [t151] ⟨g151, trivial⟩ [] trivial (by kernel_rfl) (by kernel_rfl)
/- postil/leaf.Check -/
theorem g153 : Good t153 := good [t152] ⟨g152, trivial⟩ [] trivial (by kernel_rfl) (by kernel_rfl)
/- postil/hand.isSheet -/
theorem g154 : Good t154 := good [] trivial [] trivial (by kernel_rfl) (by kernel_rfl)
/- (postil/hand.round).areSheets$1 -/
theorem g155 : Good t155 := good [t154] ⟨g154, trivial⟩ [] trivial (by kernel_rfl) (by kernel_rfl)
/- postil/hand.Explain -/
theorem k156 : GoodM u156 := goodm [t9, t10, t11, t149, t153, t155] ⟨g9, g10, g11, g149, g153, g155, trivial⟩ [] trivial (by kernel_rfl) (by kernel_rfl)
/- postil/slip.isCut -/
theorem g157 : Good t157 := good [] trivial [] trivial (by kernel_rfl) (by kernel_rfl)
/- postil/slip.Check -/
theorem g158 : Good t158 := good [t157] ⟨g157, trivial⟩ [] trivial (by kernel_rfl) (by kernel_rfl)
/- postil/slip.check -/
theorem g159 : Good t159 := good [t9, t158] ⟨g9, g158, trivial⟩ [] trivial (by kernel_rfl) (by kernel_rfl)
/- postil/slip.All -/
theorem g160 : Good t160 := good [t159] ⟨g159, trivial⟩ [] trivial (by kernel_rfl) (by kernel_rfl)
/- postil/hand.Doubt -/
theorem g161 : Good t161 := good [t9, t12, t13, t14, t29, t43, t160] ⟨g9, g12, g13, g14, g29, g43, g160, trivial⟩ [] trivial (by kernel_rfl) (by kernel_rfl)
/- postil/hand.Assign -/
theorem g162 : Good t162 := good [t9, t12, t13, t14, t29, t43] ⟨g9, g12, g13, g14, g29, g43, trivial⟩ [] trivial (by kernel_rfl) (by kernel_rfl)
/- postil/leaf.isText -/
theorem g163 : Good t163 := good [] trivial [] trivial (by kernel_rfl) (by kernel_rfl)
/- postil/leaf.begin -/
theorem g164 : Good t164 := good [t163] ⟨g163, trivial⟩ [] trivial (by kernel_rfl) (by kernel_rfl)
/- postil/leaf.Check -/
theorem g165 : Good t165 := good [t164] ⟨g164, trivial⟩ [] trivial (by kernel_rfl) (by kernel_rfl)
/- postil/hand.Again -/
theorem g166 : Good t166 := good [t165] ⟨g165, trivial⟩ [] trivial (by kernel_rfl) (by kernel_rfl)
/- postil/leaf.isLines -/
theorem g167 : Good t167 := good [t0, t1, t3] ⟨g0, g1, g3, trivial⟩ [] trivial (by kernel_rfl) (by kernel_rfl)
/- postil/leaf.isText -/
theorem g168 : Good t168 := good [t167] ⟨g167, trivial⟩ [] trivial (by kernel_rfl) (by kernel_rfl)
/- postil/leaf.begin -/
theorem g169 : Good t169 := good [t168] ⟨g168, trivial⟩ [] trivial (by kernel_rfl) (by kernel_rfl)
/- postil/leaf.Check -/
theorem g170 : Good t170 := good [t169] ⟨g169, trivial⟩ [] trivial (by kernel_rfl) (by kernel_rfl)
/- postil/leaf.isText -/
theorem g171 : Good t171 := good [t6] ⟨g6, trivial⟩ [] trivial (by kernel_rfl) (by kernel_rfl)
/- postil/leaf.begin -/
theorem g172 : Good t172 := good [t171] ⟨g171, trivial⟩ [] trivial (by kernel_rfl) (by kernel_rfl)
/- postil/leaf.Check -/
theorem g173 : Good t173 := good [t172] ⟨g172, trivial⟩ [] trivial (by kernel_rfl) (by kernel_rfl)
/- postil/leaf.isWord -/
theorem g174 : Good t174 := good [] trivial [] trivial (by kernel_rfl) (by kernel_rfl)
/- postil/leaf.isLines -/
theorem g175 : Good t175 := good [t174] ⟨g174, trivial⟩ [] trivial (by kernel_rfl) (by kernel_rfl)
/- postil/leaf.isText -/
theorem g176 : Good t176 := good [t175] ⟨g175, trivial⟩ [] trivial (by kernel_rfl) (by kernel_rfl)
/- postil/leaf.begin -/
theorem g177 : Good t177 := good [t176] ⟨g176, trivial⟩ [] trivial (by kernel_rfl) (by kernel_rfl)
/- postil/leaf.Check -/
theorem g178 : Good t178 := good [t177] ⟨g177, trivial⟩ [] trivial (by kernel_rfl) (by kernel_rfl)
/- postil/hand.isLine -/
theorem g179 : Good t179 := good [t178] ⟨g178, trivial⟩ [] trivial (by kernel_rfl) (by kernel_rfl)
/- postil/hand.isSheet$1 -/
theorem g180 : Good t180 := good [t179] ⟨g179, trivial⟩ [] trivial (by kernel_rfl) (by kernel_rfl)
/- postil/leaf.beginAlike -/
theorem g181 : Good t181 := good [t168] ⟨g168, trivial⟩ [] trivial (by kernel_rfl) (by kernel_rfl)
/- (postil/leaf.text).lineOf -/
theorem g182 : Good t182 := good [] trivial [] trivial (by kernel_rfl) (by kernel_rfl)
/- postil/leaf.Apart -/
theorem g183 : Good t183 := good [t134, t181, t182] ⟨g134, g181, g182, trivial⟩ [] trivial (by kernel_rfl) (by kernel_rfl)
/- postil/leaf.beginAlike -/
theorem g184 : Good t184 := good [t171] ⟨g171, trivial⟩ [] trivial (by kernel_rfl) (by kernel_rfl)
/- (postil/leaf.text).lineOf -/
theorem g185 : Good t185 := good [] trivial [] trivial (by kernel_rfl) (by kernel_rfl)
/- postil/leaf.Apart -/
theorem g186 : Good t186 := good [t138, t184, t185] ⟨g138, g184, g185, trivial⟩ [] trivial (by kernel_rfl) (by kernel_rfl)
/- postil/leaf.beginAlike -/
theorem g187 : Good t187 := good [t168, t171] ⟨g168, g171, trivial⟩ [] trivial (by kernel_rfl) (by kernel_rfl)
/- postil/leaf.Apart -/
theorem g188 : Good t188 := good [t141, t182, t187] ⟨g141, g182, g187, trivial⟩ [] trivial (by kernel_rfl) (by kernel_rfl)
/- postil/hand.Explain -/
theorem k189 : GoodM u189 := goodm [t9, t10, t11, t149, t153, t170, t173, t180, t183, t186, t188] ⟨g9, g10, g11, g149, g153, g170, g173, g180, g183, g186, g188, trivial⟩ [] trivial (by kernel_rfl) (by kernel_rfl)
end Go.Ev
/- The whole, of its parts. Made by program. -/
namespace Go.Ev
set_option maxRecDepth 1000000
theorem gAll : Good ⟨4, [], .v (.bool true)⟩ := good [t9, t10, t11, t129, t130, t131, t143, t144, t145, t149, t153, t155, t161, t162, t166] ⟨g9, g10, g11, g129, g130, g131, g143, g144, g145, g149, g153, g155, g161, g162, g166, trivial⟩ [u156, u189] ⟨k156, k189, trivial⟩ (by kernel_rfl) (by kernel_rfl)
end Go.Ev
