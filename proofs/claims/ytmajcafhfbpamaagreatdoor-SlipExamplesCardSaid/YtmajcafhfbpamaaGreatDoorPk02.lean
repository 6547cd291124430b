/- What the proof of this claim stands on, part 3: an evaluator of the model, proved right, and what it answers for functions of the program. -/
import Derived.Test.YtmajcafhfbpamaaGreatDoorPk01
import Derived.ChangeReads
import Derived.ChangeOld
import Derived.ChangeArms
import Derived.RowKit3
import Derived.WalkKit
import Derived.ProofKit
import Derived.OpenShut
import Derived.KernelRfl
import Derived.Lib.Overlaps
import Derived.Shelf.Strings.OnBuilder
import Derived.Shelf.Strings.Fields
import Derived.Test.YtmajcafhfbpamaaGreatDoorProg
import Derived.Lib.LaidTab
/- From what a statement says of its arguments to values of the evaluator, and back. -/
namespace Go.Ev

/-- the fields lie one behind the other, from k on up to the end -/
def tiled (P : Program) : Nat → List Field → Nat → Bool
  | k, [], e => k == e
  | k, f :: r, e => f.offset == k && tiled P (k + P.cellsOf f.type) r e

/-- types of plain data, by depth -/
def plainT (P : Program) : Nat → TypeId → Bool
  | 0, _ => false
  | n + 1, t =>
    match P.underlying t with
    | some .bool => true
    | some (.int _) => true
    | some .string => true
    | some (.slice e) => decide (0 < P.cellsOf e) && plainT P n e
    | some (.struct fs) => tiled P 0 fs.toList (P.cellsOf t) && fs.toList.all fun f => plainT P n f.type
    | _ => false

/-- an element of a slice, of its cells -/
def elemOf (cs : List AV) : AV := match cs with | [c] => c | cs => .agg cs

/-- what plain data is -/
def Plain (P : Program) : Nat → TypeId → List AV → Prop
  | 0, _, _ => False
  | n + 1, t, cs =>
    match P.underlying t with
    | some .bool => ∃ b, cs = [.v (.bool b)]
    | some (.int k) => ∃ m, cs = [.v (.int k m)] ∧ (Lit.int k m).wf = true
    | some .string => ∃ s, cs = [.v (.string s)] ∧ s.size ≤ maxLen
    | some (.slice e) => ∃ x xs, cs = [x] ∧ SlOf (P.cellsOf e) xs x ∧ xs.length ≤ maxLen ∧ ∀ y ∈ xs, ∃ c, y = elemOf c ∧ c.length = P.cellsOf e ∧ Plain P n e c
    | some (.struct fs) => cs.length = P.cellsOf t ∧ ∀ f ∈ fs.toList, Plain P n f.type ((cs.drop f.offset).take (P.cellsOf f.type))
    | _ => False

theorem elem_cells {cs : List AV} (h : ∀ c ∈ cs, c.flat = true) : (elemOf cs).cells = cs := by
  unfold elemOf
  split
  · rename_i c
    have := h c (by simp)
    cases c <;> simp_all [AV.cells, AV.flat]
  · rfl

theorem exists_list {α : Type} {Q : Nat → α → Prop} : ∀ (n : Nat), (∀ i, i < n → ∃ y, Q i y) → ∃ l : List α, l.length = n ∧ ∀ i y, l[i]? = some y → Q i y
  | 0, _ => ⟨[], rfl, fun i y h => by simp at h⟩
  | n + 1, h => by
    obtain ⟨l, hl, hq⟩ := exists_list n fun i hi => h i (by omega)
    obtain ⟨y, hy⟩ := h n (by omega)
    refine ⟨l ++ [y], by simp [hl], fun i z hz => ?_⟩
    by_cases hi : i < l.length
    · rw [List.getElem?_append_left hi] at hz; exact hq i z hz
    · have hlt := (List.getElem?_eq_some_iff.1 hz).1
      simp at hlt
      have : i = l.length := by omega
      subst this
      simp at hz; subst hz; rw [hl]; exact hy

theorem tile_rep {Z : Fzn} {ρ : Pls} {P : Program} {Q : Field → List AV → Prop} : ∀ (fs : List Field) (k e : Nat) (cs : List Value), tiled P k fs e = true → cs.length = e →
    (∀ f ∈ fs, ∃ a, RepL Z ρ a ((cs.drop f.offset).take (P.cellsOf f.type)) ∧ Q f a ∧ ∀ c ∈ a, c.flat = true) →
    k ≤ e → ∃ A, RepL Z ρ A (cs.drop k) ∧ (∀ c ∈ A, c.flat = true) ∧ ∀ f ∈ fs, k ≤ f.offset ∧ f.offset + P.cellsOf f.type ≤ e ∧ Q f ((A.drop (f.offset - k)).take (P.cellsOf f.type))
  | [], k, e, cs, ht, hl, _, _ => by
    have : k = e := by simpa [tiled] using ht
    subst this
    refine ⟨[], ?_, by simp, by simp⟩
    rw [List.drop_of_length_le (by omega)]; exact RepL.nil
  | f :: r, k, e, cs, ht, hl, hf, hk => by
    simp only [tiled, Bool.and_eq_true, beq_iff_eq] at ht
    obtain ⟨ho, ht⟩ := ht
    have hle : ∀ (fs : List Field) (k : Nat), tiled P k fs e = true → k ≤ e := by
      intro fs
      induction fs with
      | nil => intro k h; have : k = e := by simpa [tiled] using h
               omega
      | cons g s ih => intro k h; simp only [tiled, Bool.and_eq_true] at h; have := ih _ h.2; omega
    have hle' := hle _ _ ht
    obtain ⟨A, hA, hAf, hAq⟩ := tile_rep r (k + P.cellsOf f.type) e cs ht hl (fun g hg => hf g (List.mem_cons_of_mem _ hg)) hle'
    obtain ⟨a, ha, hq, haf⟩ := hf f List.mem_cons_self
    have hal : a.length = P.cellsOf f.type := by rw [ha.1]; simp; omega
    refine ⟨a ++ A, ?_, ?_, ?_⟩
    · have : cs.drop k = (cs.drop f.offset).take (P.cellsOf f.type) ++ cs.drop (k + P.cellsOf f.type) := by
        rw [ho, ← List.drop_drop]; exact (List.take_append_drop _ _).symm
      rw [this]; exact ha.append hA
    · intro c hc
      rcases List.mem_append.1 hc with h | h
      · exact haf c h
      · exact hAf c h
    · intro g hg
      rcases List.mem_cons.1 hg with rfl | hg
      · refine ⟨by omega, by omega, ?_⟩
        rw [ho, Nat.sub_self, List.drop_zero, List.take_append_of_le_length (by omega), List.take_of_length_le (by omega)]
        exact hq
      · obtain ⟨h1, h2, h3⟩ := hAq g hg
        refine ⟨by omega, h2, ?_⟩
        have : (a ++ A).drop (g.offset - k) = A.drop (g.offset - (k + P.cellsOf f.type)) := by
          rw [List.drop_append, List.drop_of_length_le (by omega), List.nil_append, hal]; congr 1; omega
        rw [this]; exact h3

section
variable {HH : Type} {enc : TypeId × Value → HH} {P : Program} {w : World}

theorem cells_at {a : Addr} {n : Nat} {cs : List Value} (h : w.cells? 0 a n = some cs) (hn : 0 < n) : a.spot = none ∧ ∃ arr e fr, w.heap[a.block]? = some (.cells arr e fr) ∧ cs.length = n ∧ ∀ j, j < n → arr[a.off + j]? = cs[j]? := by
  obtain ⟨_, hl, hc⟩ := World.cells?_some h
  have h0 := hc 0 hn
  obtain ⟨c0, hc0⟩ : ∃ c0, cs[0]? = some c0 := ⟨cs[0]'(by omega), List.getElem?_eq_getElem _⟩
  have hsp : a.spot = none := by
    have := World.cell?_spot (h0.trans hc0)
    simpa [Addr.add] using this
  have hcell := h0.trans hc0
  have hb : ∀ j, (a.add j).block = a.block := by intro j; unfold Addr.add; split <;> rfl
  have hs : ∀ j, (a.add j).spot = none := by
    intro j; unfold Addr.add; split
    · exact hsp
    · rfl
  have ho : ∀ j, (a.add j).off = a.off + j := by
    intro j; unfold Addr.add; split
    · rename_i hj; subst hj; rfl
    · rfl
  refine ⟨hsp, ?_⟩
  unfold World.cell? at hcell
  rw [hb] at hcell
  split at hcell
  · rename_i arr e fr hh
    refine ⟨arr, e, fr, hh, hl, fun j hj => ?_⟩
    have := hc j hj
    unfold World.cell? at this
    rw [hb, hh] at this
    simp only [hs, ho, Option.isSome_none, Bool.false_eq_true, if_false] at this
    exact this
  · cases hcell

theorem plain_rep : ∀ (N t fuel : Nat) (cs : List Value) (x : DataW HH × List MemPlace), plainT P N t = true → DataW.trod enc P w 0 (fun _ => true) true fuel t cs = some x →
    ∃ A, RepL (allZ w) noPls A cs ∧ Plain P N t A ∧ ∀ c ∈ A, c.flat = true
  | 0, _, _, _, _, hp, _ => by simp [plainT] at hp
  | N + 1, t, fuel, cs, x, hp, h => by
    unfold plainT at hp
    cases hu : P.underlying t with
    | none => rw [hu] at hp; simp at hp
    | some u =>
      rw [hu] at hp
      cases u <;> simp only [Bool.false_eq_true] at hp
      case bool =>
        obtain ⟨b, rfl, -⟩ := DataW.trod_bool hu h
        exact ⟨[.v (.bool b)], RepL.cons (.v rfl) RepL.nil, by unfold Plain; rw [hu]; exact ⟨b, rfl⟩, by simp [AV.flat]⟩
      case int k =>
        obtain ⟨n, rfl, -, hw⟩ := DataW.trod_int hu h
        exact ⟨[.v (.int k n)], RepL.cons (.v rfl) RepL.nil, by unfold Plain; rw [hu]; exact ⟨n, rfl, hw⟩, by simp [AV.flat]⟩
      case string =>
        obtain ⟨n, rfl, -, hw⟩ := DataW.trod_string hu h
        exact ⟨[.v (.string n)], RepL.cons (.v rfl) RepL.nil, by unfold Plain; rw [hu]; exact ⟨n, rfl, hw⟩, by simp [AV.flat]⟩
      case struct fs =>
        rw [Bool.and_eq_true, List.all_eq_true] at hp
        obtain ⟨xs, n, -, -, hl, hlen, hf⟩ := DataW.trod_struct hu h
        have hall : ∀ f ∈ fs.toList, ∃ a, RepL (allZ w) noPls a ((cs.drop f.offset).take (P.cellsOf f.type)) ∧ Plain P N f.type a ∧ ∀ c ∈ a, c.flat = true := by
          intro f hfm
          obtain ⟨i, hi⟩ := List.getElem?_of_mem hfm
          have hi' : fs[i]? = some f := by simpa using hi
          have hxi := hf i f hi'
          have hlt : i < xs.length := by
            rw [hlen]
            have := (List.getElem?_eq_some_iff.1 hi).1
            simpa using this
          rw [List.getElem?_eq_getElem hlt] at hxi
          exact plain_rep N f.type n _ _ (hp.2 f hfm) hxi
        obtain ⟨A, hA, hAf, hAq⟩ := tile_rep fs.toList 0 (P.cellsOf t) cs hp.1 hl hall (Nat.zero_le _)
        rw [List.drop_zero] at hA
        refine ⟨A, hA, ?_, hAf⟩
        unfold Plain; rw [hu]
        refine ⟨by rw [hA.1]; exact hl, fun f hf => ?_⟩
        have := (hAq f hf).2.2
        rwa [Nat.sub_zero] at this
      case slice e =>
        simp only [Bool.and_eq_true, decide_eq_true_eq] at hp
        rcases DataW.trod_slice hu h with ⟨rfl, -⟩ | ⟨a, len, cap, elems, rest, n, -, rfl, -, -, hlc, hcm, hel, hget, -, -⟩
        · refine ⟨[.v (.slice none 0 0)], RepL.cons (.v rfl) RepL.nil, ?_, by simp [AV.flat]⟩
          unfold Plain; rw [hu]
          exact ⟨_, [], rfl, Or.inl ⟨rfl, rfl⟩, Nat.zero_le _, by simp⟩
        · have hone : ∀ i, i < len → ∃ y : AV, ∃ A ci, w.cells? 0 (a.add (i * P.cellsOf e)) (P.cellsOf e) = some ci ∧ RepL (allZ w) noPls A ci ∧ Plain P N e A ∧ (∀ c ∈ A, c.flat = true) ∧ y = elemOf A := by
            intro i hi
            have := hget i hi
            rw [List.getElem?_eq_getElem (by omega), Option.bind_eq_some_iff] at this
            obtain ⟨ci, hc1, hc2⟩ := this
            obtain ⟨A, h1, h2, h3⟩ := plain_rep N e n ci _ hp.2 hc2
            exact ⟨_, A, ci, hc1, h1, h2, h3, rfl⟩
          obtain ⟨xs, hxl, hxq⟩ := exists_list len hone
          have hsz : ∀ y ∈ xs, y.cells.length = P.cellsOf e := by
            intro y hy
            obtain ⟨i, hi⟩ := List.getElem?_of_mem hy
            obtain ⟨A, ci, h1, h2, h3, h4, rfl⟩ := hxq i y hi
            rw [elem_cells h4, h2.1]
            exact (World.cells?_some h1).2.1
          have hplain : Plain P (N + 1) t [.vs (P.cellsOf e) xs (some cap)] := by
            unfold Plain; rw [hu]
            refine ⟨_, xs, rfl, Or.inr ⟨_, rfl⟩, by omega, fun y hy => ?_⟩
            obtain ⟨i, hi⟩ := List.getElem?_of_mem hy
            obtain ⟨A, ci, h1, h2, h3, h4, rfl⟩ := hxq i y hi
            exact ⟨A, rfl, by rw [h2.1]; exact (World.cells?_some h1).2.1, h3⟩
          by_cases h0 : len = 0
          · subst h0
            have : xs = [] := List.length_eq_zero_iff.1 hxl
            subst this
            exact ⟨_, RepL.cons (.vs0 (by simp)) RepL.nil, hplain, by simp [AV.flat]⟩
          · -- the block
            have hpos := hp.1
            obtain ⟨y0, hy0⟩ : ∃ y, xs[0]? = some y := ⟨xs[0]'(by omega), List.getElem?_eq_getElem _⟩
            obtain ⟨A0, c0, hc0, -⟩ := hxq 0 y0 hy0
            obtain ⟨hsp0, arr, et, fr, hh, -, -⟩ := cells_at hc0 hpos
            have hb : ∀ j, (a.add j).block = a.block := by intro j; unfold Addr.add; split <;> rfl
            have ho : ∀ j, (a.add j).off = a.off + j := by
              intro j; unfold Addr.add; split
              · rename_i hj; subst hj; rfl
              · rfl
            rw [hb] at hh
            have hsp : a.spot = none := by simpa [Addr.add] using hsp0
            have hall : ∀ i j, i < len → j < P.cellsOf e → ∃ A ci, xs[i]? = some (elemOf A) ∧ (∀ c ∈ A, c.flat = true) ∧ RepL (allZ w) noPls A ci ∧ ci.length = P.cellsOf e ∧ arr[a.off + i * P.cellsOf e + j]? = ci[j]? := by
              intro i j hi hj
              obtain ⟨y, hy⟩ : ∃ y, xs[i]? = some y := ⟨xs[i]'(by omega), List.getElem?_eq_getElem _⟩
              obtain ⟨A, ci, h1, h2, h3, h4, rfl⟩ := hxq i y hy
              obtain ⟨-, arr', et', fr', hh', hl', hg⟩ := cells_at h1 hpos
              rw [hb, hh] at hh'
              obtain ⟨rfl, rfl, rfl⟩ : arr = arr' ∧ et = et' ∧ fr = fr' := by simpa using hh'
              have := hg j hj
              rw [ho] at this
              exact ⟨A, ci, hy, h4, h2, hl', this⟩
            have hfl : (xs.flatMap AV.cells).length = len * P.cellsOf e := by rw [flat_len hsz, hxl]
            have hfit : a.off + len * P.cellsOf e ≤ arr.size := by
              obtain ⟨A, ci, -, -, -, hl', hg⟩ := hall (len - 1) (P.cellsOf e - 1) (by omega) (by omega)
              rw [List.getElem?_eq_getElem (by omega)] at hg
              have := (Array.getElem?_eq_some_iff.1 hg).1
              have e1 : (len - 1) * P.cellsOf e + P.cellsOf e = len * P.cellsOf e := by
                have : len = (len - 1) + 1 := by omega
                conv => rhs; rw [this, Nat.succ_mul]
              omega
            refine ⟨[.vs (P.cellsOf e) xs (some cap)], RepL.cons ?_ RepL.nil, hplain, by simp [AV.flat]⟩
            have hval : (Value.slice (some a) len cap) = .slice (some ⟨a.block, (arr.toList.take a.off).length, none⟩) xs.length cap := by
              have : (arr.toList.take a.off).length = a.off := by simp; omega
              rw [this, hxl]; cases a; simp_all
            rw [hval]
            refine .vs (vs := (arr.toList.drop a.off).take (len * P.cellsOf e)) (post := (arr.toList.drop a.off).drop (len * P.cellsOf e)) (pre := arr.toList.take a.off) (e := et) (fz := fr) (arr := arr) hh ?_ hsz ?_ ?_ (by simp) (by omega)
            · rw [List.append_assoc, List.take_append_drop, List.take_append_drop]
            · rw [hfl]; simp; omega
            · intro i c v hc hv
              have hi := (List.getElem?_eq_some_iff.1 hc).1
              rw [hfl] at hi
              have hq : i / P.cellsOf e < len := Nat.div_lt_of_lt_mul (by rw [Nat.mul_comm]; exact hi)
              have hr : i % P.cellsOf e < P.cellsOf e := Nat.mod_lt _ hpos
              have hdm : i / P.cellsOf e * P.cellsOf e + i % P.cellsOf e = i := by rw [Nat.mul_comm]; exact Nat.div_add_mod _ _
              obtain ⟨A, ci, hx, hA, hR, hl', hg⟩ := hall _ _ hq hr
              have hfa := (flat_at hsz hx).1
              rw [elem_cells hA] at hfa
              have hcA : A[i % P.cellsOf e]? = some c := by
                rw [← hfa, List.getElem?_take, if_pos hr, List.getElem?_drop, hdm]; exact hc
              have hvA : ci[i % P.cellsOf e]? = some v := by
                rw [← hg]
                rw [List.getElem?_take, if_pos hi, List.getElem?_drop] at hv
                rw [show a.off + i / P.cellsOf e * P.cellsOf e + i % P.cellsOf e = a.off + i by omega]
                simpa using hv
              exact hR.2 _ _ _ hcA hvA

/-- what is not looked at of spare places -/
theorem plain_spare {base : Nat} {sp : Nat → Bool} : ∀ (N t fuel : Nat) (cs : List Value) (x : DataW HH × List MemPlace), plainT P N t = true → DataW.trod enc P w base (fun _ => true) true fuel t cs = some x →
    (∀ p ∈ x.2, sp p.block = true) → DataW.trod enc P w base sp true fuel t cs = some x
  | 0, _, _, _, _, hp, _, _ => by simp [plainT] at hp
  | N + 1, t, fuel, cs, x, hp, h, hs => by
    unfold plainT at hp
    cases fuel with
    | zero => simp [DataW.trod] at h
    | succ n =>
      cases hu : P.underlying t with
      | none => rw [hu] at hp; simp at hp
      | some u =>
        rw [hu] at hp
        cases u <;> simp only [Bool.false_eq_true] at hp
        case bool => obtain ⟨b, rfl, rfl⟩ := DataW.trod_bool hu h; rw [DataW.trod_step]; unfold DataW.trodStep; rw [hu]
        case int k => obtain ⟨m, rfl, rfl, hw⟩ := DataW.trod_int hu h; rw [DataW.trod_step]; unfold DataW.trodStep; rw [hu]; simp [hw]
        case string => obtain ⟨m, rfl, rfl, hw⟩ := DataW.trod_string hu h; rw [DataW.trod_step]; unfold DataW.trodStep; rw [hu]; simp [hw]
        case struct fs =>
          rw [Bool.and_eq_true, List.all_eq_true] at hp
          rw [DataW.trod_step] at h ⊢
          unfold DataW.trodStep at h ⊢
          rw [hu] at h ⊢
          simp only at h ⊢
          split at h
          · rename_i hl
            rw [if_pos hl]
            simp only [Option.map_eq_some_iff] at h ⊢
            obtain ⟨xs, hxs, rfl⟩ := h
            refine ⟨xs, mapM_carry hxs fun f y hf hy hfy => plain_spare N f.type n _ y (hp.2 f hf) hfy fun p hpm => hs p ?_, rfl⟩
            exact List.mem_flatMap.2 ⟨y, hy, hpm⟩
          · cases h
        case slice e =>
          simp only [Bool.and_eq_true, decide_eq_true_eq] at hp
          have h0 := h
          rw [DataW.trod_step] at h ⊢
          unfold DataW.trodStep at h ⊢
          rw [hu] at h ⊢
          rcases DataW.trod_slice hu h0 with ⟨rfl, rfl⟩ | ⟨a, len, cap, elems, rest, n', hn', rfl, rfl, -, hlc, hcm, hel, hget, hrest, -⟩
          · rfl
          · simp only at h ⊢
            split at h
            · rename_i hc
              rw [if_pos hc]
              simp only [if_true, Option.bind_eq_some_iff, Option.map_eq_some_iff] at h ⊢
              obtain ⟨es, hes, rs, hrs, heq⟩ := h
              have hin : ∀ y, y ∈ es ++ rs → ∀ p ∈ y.2, sp p.block = true := by
                intro y hy p hpm
                refine hs p ?_
                have := congrArg Prod.snd heq
                simp only at this
                rw [← this]
                exact List.mem_append_right _ (List.mem_flatMap.2 ⟨y, hy, hpm⟩)
              refine ⟨es, mapM_carry hes fun i y _ hy hfy => ?_, rs, ?_, heq⟩
              · obtain ⟨ci, h1, h2⟩ := Option.bind_eq_some_iff.1 hfy
                rw [h1]
                exact plain_spare N e n ci y hp.2 h2 (hin y (List.mem_append_left _ hy))
              · have hrl : rs.length = cap - len := by
                  have := mapM_some_length hrs
                  simpa using this
                by_cases hz : cap - len = 0
                · have : rs = [] := List.length_eq_zero_iff.1 (by omega)
                  subst this
                  split
                  · rw [hz] at hrs ⊢; exact hrs
                  · rfl
                · have hsp : sp a.block = true := by
                    have hel' : es.length = len := by
                      have := mapM_some_length hes
                      simpa using this
                    have := congrArg Prod.snd heq
                    simp only at this
                    have hm : MemPlace.cell a.block (a.off + 0) ∈ MemPlace.row a ((elems.length + rest.length) * P.cellsOf e) ++ (elems ++ rest).flatMap (·.2) := by
                      rw [← this]
                      refine List.mem_append_left _ (MemPlace.mem_row.2 ⟨0, ?_, rfl⟩)
                      exact Nat.mul_pos (by omega) hp.1
                    exact hs _ hm
                  rw [if_pos hsp]
                  refine mapM_carry hrs fun i y _ hy hfy => ?_
                  obtain ⟨ci, h1, h2⟩ := Option.bind_eq_some_iff.1 hfy
                  rw [h1]
                  exact plain_spare N e n ci y hp.2 h2 (hin y (List.mem_append_right _ hy))
            · cases h
end
end Go.Ev
/- A law: what the evaluator answers on all plain data is what the statement says. -/
namespace Go.Ev
open Go.ChangeShapes Go.WideShapes Go.ChangeAt Go.RowKit

/-- an argument of a type of plain data -/
def Arg (P : Program) (N : Nat) (t : TypeId) (x : AV) : Prop :=
  match P.underlying t with
  | some (.struct _) => ∃ A, x = .agg A ∧ Plain P N t A
  | _ => Plain P N t [x]

inductive ArgsOf (P : Program) (N : Nat) : List TypeId → List AV → Prop
  | nil : ArgsOf P N [] []
  | cons {t : TypeId} {ts : List TypeId} {x : AV} {xs : List AV} (h : Arg P N t x) (hs : ArgsOf P N ts xs) : ArgsOf P N (t :: ts) (x :: xs)

section
variable {HH : Type} {enc : TypeId × Value → HH} {P : Program} {w : World}

theorem arg_rep {N base : Nat} {t : TypeId} {v : Value} {d : DataW HH} {ps : List MemPlace} (hp : plainT P N t = true) (hok : Value.okWide P w .any base t v) (h : DataW.Trod enc P w 0 (fun _ => true) true t v d ps) :
    ∃ x, Rep (allZ w) noPls x v ∧ Arg P N t x := by
  obtain ⟨fuel, h⟩ := h
  obtain ⟨A, hA, hpl, hfl⟩ := plain_rep N t fuel _ _ hp h
  cases N with
  | zero => simp [plainT] at hp
  | succ N =>
    have one : ∀ (hv : v.cells.toList = [v]), (∃ c, A = [c]) → (∀ fs, P.underlying t ≠ some (.struct fs)) → ∃ x, Rep (allZ w) noPls x v ∧ Arg P (N + 1) t x := by
      rintro hv ⟨c, rfl⟩ hns
      rw [hv] at hA
      obtain ⟨v', ws, e, hr, -⟩ := hA.uncons
      cases e
      refine ⟨c, hr, ?_⟩
      unfold Arg
      split
      · rename_i fs hu; exact absurd hu (hns fs)
      · exact hpl
    unfold plainT at hp
    unfold Value.okWide at hok
    have hpl' := hpl
    unfold Plain at hpl'
    cases hu : P.underlying t with
    | none => rw [hu] at hp; simp at hp
    | some u =>
      rw [hu] at hp hok hpl'
      cases u <;> simp only [Bool.false_eq_true] at hp hok hpl'
      case bool =>
        obtain ⟨b, rfl⟩ := hpl'
        refine one ?_ ⟨_, rfl⟩ (by simp [hu])
        unfold Cell.okWide Cell.ok at hok; rw [hu] at hok
        cases v <;> first | rfl | simp at hok
      case int k =>
        obtain ⟨m, rfl, -⟩ := hpl'
        refine one ?_ ⟨_, rfl⟩ (by simp [hu])
        unfold Cell.okWide Cell.ok at hok; rw [hu] at hok
        cases v <;> first | rfl | simp at hok
      case string =>
        obtain ⟨m, rfl, -⟩ := hpl'
        refine one ?_ ⟨_, rfl⟩ (by simp [hu])
        unfold Cell.okWide Cell.ok at hok; rw [hu] at hok
        cases v <;> first | rfl | simp at hok
      case slice e =>
        obtain ⟨x, xs, rfl, -⟩ := hpl'
        refine one ?_ ⟨_, rfl⟩ (by simp [hu])
        unfold Cell.okWide Cell.ok at hok; rw [hu] at hok
        cases v <;> first | rfl | simp at hok
      case struct fs =>
        obtain ⟨cs, rfl, -, -⟩ := hok
        refine ⟨.agg A, ?_, ?_⟩
        · have := hA.agg
          simpa [Value.cells] using this
        · unfold Arg; rw [hu]; exact ⟨A, rfl, hpl⟩

theorem args_rep {N base : Nat} : ∀ {ts : List TypeId} {vs : List Value} {ds : List (DataW HH)} {ps : List MemPlace}, ts.all (plainT P N) = true → (∀ (j : Nat) t v, ts[j]? = some t → vs[j]? = some v → Value.okWide P w .any base t v) →
    DataW.TrodAll enc P w 0 (fun _ => true) true ts vs ds ps → ∃ xs, RepL (allZ w) noPls xs vs ∧ ArgsOf P N ts xs
  | [], vs, ds, ps, _, _, h => by
    cases vs <;> cases ds <;> simp [DataW.TrodAll] at h
    exact ⟨[], RepL.nil, .nil⟩
  | t :: ts, vs, ds, ps, hp, hok, h => by
    obtain ⟨v, vs', d, ds', p, q, rfl, rfl, rfl, h1, h2⟩ := trodAll_cons h
    simp only [List.all_cons, Bool.and_eq_true] at hp
    obtain ⟨x, hx, hax⟩ := arg_rep hp.1 (hok 0 t v rfl rfl) h1
    obtain ⟨xs, hxs, haxs⟩ := args_rep hp.2 (fun j t' v' ht hv => hok (j + 1) t' v' (by simpa using ht) (by simpa using hv)) h2
    exact ⟨x :: xs, RepL.cons hx hxs, .cons hax haxs⟩

theorem trod_after {w' : World} (hh : ∀ k, k < w.heap.size → w'.heap[k]? = w.heap[k]?) {N : Nat} {sp : Nat → Bool} : ∀ {ts : List TypeId} {vs : List Value} {ds : List (DataW HH)} {ps : List MemPlace}, ts.all (plainT P N) = true →
    DataW.TrodAll enc P w 0 (fun _ => true) true ts vs ds ps → (∀ p ∈ ps, sp p.block = true) → DataW.TrodAll enc P w' 0 sp true ts vs ds ps
  | [], vs, ds, ps, _, h, _ => by
    cases vs <;> cases ds <;> simp [DataW.TrodAll] at h ⊢
    exact h
  | t :: ts, vs, ds, ps, hp, h, hs => by
    obtain ⟨v, vs', d, ds', p, q, rfl, rfl, rfl, ⟨fuel, h1⟩, h2⟩ := trodAll_cons h
    simp only [List.all_cons, Bool.and_eq_true] at hp
    refine ⟨p, q, ⟨fuel, ?_⟩, trod_after hh hp.2 h2 fun p hp => hs p (List.mem_append_right _ hp), rfl⟩
    have hlt := DataW.trod_lt _ _ _ _ h1
    refine plain_spare N t fuel _ _ hp.1 (DataW.trod_carry _ _ _ _ h1 fun p hp => ?_) fun p hp => hs p (List.mem_append_left _ hp)
    have := hlt p hp
    cases p with
    | cell b off =>
      have hb : b < w.heap.size := this
      simp only [World.sameAt, World.cell?, hh b hb]
    | map b =>
      have hb : b < w.heap.size := this
      simp only [World.sameAt, hh b hb]

theorem trodAll_len {b : Nat} {sp : Nat → Bool} {hd : Bool} : ∀ {ts : List TypeId} {vs : List Value} {ds : List (DataW HH)} {ps : List MemPlace}, DataW.TrodAll enc P w b sp hd ts vs ds ps → ds.length = ts.length
  | [], vs, ds, ps, h => by cases vs <;> cases ds <;> simp [DataW.TrodAll] at h ⊢
  | t :: ts, vs, ds, ps, h => by
    obtain ⟨v, vs', d, ds', p, q, rfl, rfl, rfl, h1, h2⟩ := trodAll_cons h
    simp [trodAll_len h2]

theorem kept_of {w' : World} (hos : w'.os = w.os) (hout : w'.output = w.output) (hh : ∀ k, k < w.heap.size → w'.heap[k]? = w.heap[k]?) : w.keptBut w' (fun _ => False) := by
  refine ⟨hos, hout, fun i hi => ?_⟩
  rw [hh i hi]
  cases h : w.heap[i]? with
  | none => simp
  | some o => cases o <;> simp

/-- what the call leaves as it was: only what was there need not be frozen anew -/
theorem post_of_old {f : Func} {s : ChangeSpec} {apart fresh handsOn again : Bool} {W W' : World} {args : Array Value} {v : Value} {ds gs : List (DataW HH)} {before pa pv : List MemPlace}
    (hW : DataW.Whole enc P f.params.toList s.vars apart W args.toList ds gs before)
    (hres : ∀ (b : Nat) (sp : Nat → Bool) (hd : Bool), DataW.TrodAll enc P W' b sp hd f.resultTypes.toList (v.resultList f.resultTypes.size) (s.fn HH (ds ++ gs)).results [])
    (hargs : ∀ sp : Nat → Bool, (∀ p ∈ before, sp p.block = true) → DataW.TrodAll enc P W' 0 sp true f.params.toList args.toList (s.fn HH (ds ++ gs)).args pa)
    (hvars : ∀ sp : Nat → Bool, (∀ p ∈ before, sp p.block = true) → DataW.TrodVars enc P W' sp s.vars (s.fn HH (ds ++ gs)).vars pv)
    (hps : before = pa ++ pv) (hk : W.keptBut W' (· ∈ before)) (hfz : ∀ a : Addr, a.block < W.heap.size → W'.frozen? a = W.frozen? a)
    (hok : ∀ (j : Nat) (t : TypeId) (r : Value), f.resultTypes[j]? = some t → (v.resultList f.resultTypes.size)[j]? = some r → Value.okWide P W' .any 0 t r) :
    s.post enc P f apart fresh handsOn again W args v W' := by
  have hold : ∀ p ∈ before, (fun b => decide (b < W.heap.size)) p.block = true := fun p hp => by simpa using hW.lt p hp
  have hlt := hW.lt
  refine ⟨ds, gs, before, [], pa, pv, hW, hres _ _ _, hargs _ hold, hvars _ hold, World.keptBut_mono (fun p hp => ⟨hp, ?_⟩) hk, fun _ => ?_⟩
  · rw [hps, List.mem_append] at hp
    exact Or.inr hp
  · obtain ⟨_, _, _, _, _, hz, hn⟩ := hW
    refine ⟨hok, _, _, ([] ++ pa) ++ pv, ⟨[] ++ pa, pv, trodAll_append (hargs _ (fun _ _ => rfl)) (hres _ _ _), hvars _ (fun _ _ => rfl), rfl, ?_, ?_⟩, ?_⟩
    · intro b off hp
      have hp' : MemPlace.cell b off ∈ before := by rw [hps]; simpa using hp
      rw [hfz ⟨b, off, none⟩ (hlt _ hp')]
      exact hz b off hp'
    · intro ha
      have := hn ha
      rw [hps] at this
      simpa using this
    · intro p hp _
      rw [hps]
      simpa using hp

/-- a law of plain data -/
theorem law_contract {C : Cfg} (hP : C.P = P) (hgo : NoGo P) (hm : P.follows .mixedOrders = true) (hext : ExtOK C) {f : FuncId} {fn : Func} {s : ChangeSpec} {N : Nat} {apart fresh handsOn again : Bool} {tb : TypeId}
    (hpl : fn.params.toList.all (plainT P N) = true) (hvars : s.vars = []) (hspec : ∀ ds : List (DataW HH), ds.length = fn.params.size → s.fn HH ds = { results := [.lit (.bool true)], args := ds })
    (hrt : fn.resultTypes = #[tb]) (htb : P.underlying tb = some .bool)
    (hlaw : ∀ xs, ArgsOf P N fn.params.toList xs → ∃ H', lim C (.call f xs { objs := [], lock := 0 }) = some (.ret (.v (.bool true)) H'))
    {W : World} {base : Nat} {args : Array Value} {ds gs : List (DataW HH)} {before : List MemPlace}
    (hval : ∀ (j : Nat) t v, fn.params[j]? = some t → args[j]? = some v → Value.okWide P W .any base t v)
    (hW : DataW.Whole enc P fn.params.toList s.vars apart W args.toList ds gs before) (hg : laidOk (allZ W) := by intro p hp; cases hp) :
    Calls P f args W fun e W' => ∃ v, e = .returned v ∧ s.post enc P fn apart fresh handsOn again W args v W' := by
  subst hP
  have hW' := hW
  obtain ⟨p, q, hA, hV, rfl, hfz, hnd⟩ := hW
  have hV' := hV
  rw [hvars] at hV'
  obtain ⟨rfl, rfl⟩ := trodVars_none hV'
  obtain ⟨xs, hxs, hax⟩ := args_rep hpl (fun j t v ht hv => hval j t v (by simpa using ht) (by simpa using hv)) hA
  obtain ⟨H', hl⟩ := hlaw xs hax
  have hc := top_calls hg hgo hm hext hl hxs
  have hlen : ds.length = fn.params.size := by have := trodAll_len hA; simpa using this
  have hsf : s.fn HH (ds ++ []) = { results := [.lit (.bool true)], args := ds } := by rw [List.append_nil]; exact hspec ds hlen
  refine Calls.mono' hc ?_
  rintro e W' ⟨rfl, hh, hsz, hos, hout, -, hfr⟩
  refine ⟨_, rfl, post_of_old (pa := p) (pv := []) hW' ?_ ?_ ?_ rfl (World.keptBut_mono (fun _ h => h.elim) (kept_of hos hout hh)) hfr ?_⟩
  · intro b sp hd
    rw [hsf, hrt]
    exact trodAll_mk1 (shut_bool htb true)
  · intro sp hsp
    rw [hsf]
    exact trod_after hh hpl hA fun x hx => hsp x (List.mem_append_left _ hx)
  · intro sp hsp
    rw [hsf, hvars]
    rfl
  · exact ok_one hrt rfl (okWide_bool_mk htb true)
end
end Go.Ev
/- Closed evaluations, in pieces that are told once. -/
namespace Go.Ev

/-- a call on closed arguments, and what it answers -/
structure Tell where
  f : Nat
  K : List AV
  R : AV

def tabHas : List Tell → Nat → Bool
  | [], _ => false
  | t :: r, f => Nat.beq t.f f || tabHas r f
def tabFn : List Tell → Nat → List AV → Option AV
  | [], _, _ => none
  | t :: r, f, args => if Nat.beq t.f f && listEq (eqA 30) args t.K then some t.R else tabFn r f args
def tabExt (e : FuncId → Option (List AV → Option AV)) (T : List Tell) : FuncId → Option (List AV → Option AV) := fun f => if tabHas T f then some (tabFn T f) else e f
def Cfg.more (C : Cfg) (e : FuncId → Option (List AV → Option AV)) : Cfg := { C with ext := e }

/-- a call that looks at memory, and what it answers -/
structure TellH where
  f : Nat
  K : List AV
  G : List (Option AObj)
  R : AV

def eqEnt : List (AV × AV × Nat) → List (AV × AV × Nat) → Bool
  | [], [] => true
  | (a, b, n) :: r, (a', b', n') :: s => eqQ 30 a a' && eqQ 30 b b' && Nat.beq n n' && eqEnt r s
  | _, _ => false
def sameX : Option AObj → Option AObj → Bool
  | none, none => true
  | some .dead, some .dead => true
  | some .dfr, some .dfr => true
  | some (.cells v m e sz g cs), some (.cells v' m' e' sz' g' cs') => Nat.beq v v' && Nat.beq m m' && Nat.beq e e' && Nat.beq sz sz' && (g == g') && eqLQ (eqQ 30) cs cs'
  | some (.map m es c), some (.map m' es' c') => Nat.beq m m' && eqEnt es es' && Nat.beq c c'
  | _, _ => false
def sameL : List (Option AObj) → List (Option AObj) → Bool
  | [], [] => true
  | x :: r, y :: s => sameX x y && sameL r s
  | _, _ => false
theorem eqEnt_eq : ∀ {l m : List (AV × AV × Nat)}, eqEnt l m = true → l = m
  | [], [], _ => rfl
  | [], _ :: _, h => by cases h
  | _ :: _, [], h => by cases h
  | (a, b, n) :: r, (a', b', n') :: s, h => by
    simp only [eqEnt, Bool.and_eq_true] at h
    obtain ⟨⟨⟨h1, h2⟩, h3⟩, h4⟩ := h
    rw [eqQ_eq 30 _ _ h1, eqQ_eq 30 _ _ h2, Nat.eq_of_beq_eq_true h3, eqEnt_eq h4]
theorem sameX_eq {x y : Option AObj} (h : sameX x y = true) : x = y := by
  unfold sameX at h
  split at h
  · rfl
  · rfl
  · rfl
  · simp only [Bool.and_eq_true, beq_iff_eq] at h
    obtain ⟨⟨⟨⟨⟨h1, h2⟩, h3⟩, h4⟩, h5⟩, h6⟩ := h
    rw [Nat.eq_of_beq_eq_true h1, Nat.eq_of_beq_eq_true h2, Nat.eq_of_beq_eq_true h3, Nat.eq_of_beq_eq_true h4, h5, eqLQ_eq (eqQ_eq 30) h6]
  · simp only [Bool.and_eq_true] at h
    obtain ⟨⟨h1, h2⟩, h3⟩ := h
    rw [Nat.eq_of_beq_eq_true h1, eqEnt_eq h2, Nat.eq_of_beq_eq_true h3]
  · cases h
theorem sameL_eq : ∀ {l m : List (Option AObj)}, sameL l m = true → l = m
  | [], [], _ => rfl
  | [], _ :: _, h => by cases h
  | _ :: _, [], h => by cases h
  | x :: r, y :: s, h => by
    simp only [sameL, Bool.and_eq_true] at h
    rw [sameX_eq h.1, sameL_eq h.2]
def tabHHas : List TellH → Nat → Bool
  | [], _ => false
  | t :: r, f => Nat.beq t.f f || tabHHas r f
def tabH : List TellH → Nat → List AV → Heap → Option AV
  | [], _, _, _ => none
  | t :: r, f, args, H => if Nat.beq t.f f && (eqLQ (eqQ 30) args t.K && sameL H.objs t.G) then some t.R else tabH r f args H
def atom1 : AV → Bool
  | .v _ => true
  | _ => false
/-- a value that leads to no memory -/
def atomR : AV → Bool
  | .v _ => true
  | .tup cs => cs.all atom1
  | .agg cs => cs.all atom1
  | _ => false
/-- a call on arguments that lie in memory: what it answers if nothing of that memory is turned -/
def borH (T : List Tell) (f : Nat) (args : List AV) (H : Heap) : Option AV :=
  match freezeL { H with lock := 0 } 100000 args with
  | some l => match tabFn T f l with | some R => if atomR R then some R else none | none => none
  | none => none
def tabX (T : List Tell) (TH : List TellH) (f : Nat) (args : List AV) (H : Heap) : Option AV := match tabH TH f args H with | some v => some v | none => borH T f args H
def tabExh (e : FuncId → Option (List AV → Heap → Option AV)) (T : List Tell) (TH : List TellH) : FuncId → Option (List AV → Heap → Option AV) := fun f => if tabHHas TH f || tabHas T f then some (tabX T TH f) else e f
def Cfg.more2 (C : Cfg) (e : FuncId → Option (List AV → Option AV)) (x : FuncId → Option (List AV → Heap → Option AV)) : Cfg := { C with ext := e, exh := x }
def ansH (n : Nat) (o : Option Out) : Option AV := match o with | some (.ret v H) => freezeV { H with lock := n } 1000000 v | _ => none

/-- what is told of a call is so -/
def GoodC (C : Cfg) (t : Tell) : Prop := (∃ e x, ExtOK (C.more2 e x) ∧ Ans (C.more2 e x) t.f t.K t.R) ∧ boundL t.K = 0
def GoodH (C : Cfg) (t : TellH) : Prop := (∃ e x, ExtOK (C.more2 e x) ∧ ∃ n, ansH t.G.length (evT (C.more2 e x) n (.call t.f t.K { objs := t.G, lock := t.G.length })) = some t.R) ∧ (Nat.beq (boundL t.K) 0 || t.K.any isYld) = false
def AllG (C : Cfg) : List Tell → Prop
  | [] => True
  | t :: r => GoodC C t ∧ AllG C r
def AllH (C : Cfg) : List TellH → Prop
  | [] => True
  | t :: r => GoodH C t ∧ AllH C r

theorem tabFn_some {C : Cfg} : ∀ {T : List Tell} {f : Nat} {args : List AV} {v : AV}, AllG C T → tabFn T f args = some v → ∃ t, GoodC C t ∧ t.f = f ∧ args = t.K ∧ v = t.R
  | [], _, _, _, _, h => by cases h
  | t :: r, f, args, v, hT, h => by
    unfold tabFn at h
    split at h
    · rename_i hq
      simp only [Bool.and_eq_true] at hq
      exact ⟨t, hT.1, Nat.eq_of_beq_eq_true hq.1, listEq_eq (eqA_eq 30) hq.2, by simpa using h.symm⟩
    · exact tabFn_some hT.2 h
theorem tabH_some {C : Cfg} : ∀ {T : List TellH} {f : Nat} {args : List AV} {H : Heap} {v : AV}, AllH C T → tabH T f args H = some v → ∃ t, GoodH C t ∧ t.f = f ∧ args = t.K ∧ H.objs = t.G ∧ v = t.R
  | [], _, _, _, _, _, h => by cases h
  | t :: r, f, args, H, v, hT, h => by
    unfold tabH at h
    split at h
    · rename_i hq
      simp only [Bool.and_eq_true] at hq
      exact ⟨t, hT.1, Nat.eq_of_beq_eq_true hq.1, eqLQ_eq (eqQ_eq 30) hq.2.1, sameL_eq hq.2.2, by simpa using h.symm⟩
    · exact tabH_some hT.2 h

theorem atom1_rep {Z Z' : Fzn} {ρ ρ' : Pls} {x : AV} {v : Value} (h : Rep Z ρ x v) (ha : atom1 x = true) : Rep Z' ρ' x v := by
  cases h with
  | v h => exact .v h
  | _ => cases ha
theorem atomR_rep {Z Z' : Fzn} {ρ ρ' : Pls} {x : AV} {v : Value} (h : Rep Z ρ x v) (ha : atomR x = true) : Rep Z' ρ' x v := by
  cases h with
  | v h => exact .v h
  | agg hl h => exact .agg hl fun i c v hc hv => atom1_rep (h i c v hc hv) (List.all_eq_true.1 (show List.all _ atom1 = true from ha) c (List.mem_of_getElem? hc))
  | tup hl h => exact .tup hl fun i c v hc hv => atom1_rep (h i c v hc hv) (List.all_eq_true.1 (show List.all _ atom1 = true from ha) c (List.mem_of_getElem? hc))
  | _ => cases ha

/-- what a run from memory that is all frozen leaves, of a world that stands for more -/
theorem back_frozen {Z : Fzn} {ρ : Pls} {H : Heap} {w : World} (hs : Sim Z ρ H w) {R : AV} (hR : atomR R = true) {x : Value} {w' : World} (h : After (allZ w) noPls { objs := [], lock := 0 } w R { objs := [], lock := 0 } x w') : After Z ρ H w R H x w' := by
  obtain ⟨Z', ρ', h1, h2, h3⟩ := h
  have hsame : ∀ k, k < w.heap.size → w'.heap[k]? = w.heap[k]? := fun k hk => h3.frame k hk (start_own w k)
  refine ⟨Z, ρ, atomR_rep h1 hR, ⟨fun b o hb hl => ?_, hs.inj, fun k o hk => ?_, hs.fresh, hs.lk, hs.lg⟩, ⟨.refl _, .refl _, fun k hk _ => hsame k hk, fun _ _ h => h, h3.size, h3.os, h3.output, h3.tape, h3.drawn, h3.fz, rfl, fun _ _ => rfl, Nat.le_refl _, fun _ _ _ => rfl, fun _ _ _ => rfl, fun _ _ h _ => ⟨h, fun _ => rfl⟩⟩⟩
  · obtain ⟨pl, obj, q1, q2, q3, q4⟩ := hs.objs b o hb hl
    exact ⟨pl, obj, q1, (hsame _ (Array.getElem?_eq_some_iff.1 q2).1).trans q2, q3, q4⟩
  · have := hs.zok k o hk
    exact (hsame _ (Array.getElem?_eq_some_iff.1 this).1).trans this

theorem extOK_tab {C : Cfg} (hgo : NoGo C.P) (hm : C.P.follows .mixedOrders = true) (h0 : ExtOK C) {T : List Tell} (hT : AllG C T) {TH : List TellH} (hH : AllH C TH) : ExtOK (C.more2 (tabExt C.ext T) (tabExh C.exh T TH)) := by
  refine ⟨fun f g hf args v hv Z ρ H w vals hs hl => ?_, h0.lay, fun f g hf args v H hv Z ρ w vals hs hl => ?_⟩
  · have hf' : (if tabHas T f then some (tabFn T f) else C.ext f) = some g := hf
    split at hf'
    · simp only [Option.some.injEq] at hf'
      subst hf'
      obtain ⟨t, ⟨⟨e, x, he, ha⟩, hb⟩, rfl, rfl, rfl⟩ := tabFn_some hT hv
      exact ext_of_ans (C := C.more2 e x) hgo hm he ha hb Z ρ H w vals hs hl
    · exact h0.ext f g hf' args v hv Z ρ H w vals hs hl
  · have hf' : (if tabHHas TH f || tabHas T f then some (tabX T TH f) else C.exh f) = some g := hf
    split at hf'
    · simp only [Option.some.injEq] at hf'
      subst hf'
      unfold tabX at hv
      split at hv
      case h_2 =>
        unfold borH at hv
        split at hv
        · rename_i l hfz
          split at hv
          · rename_i R hR
            split at hv
            · rename_i hat
              simp only [Option.some.injEq] at hv
              subst hv
              have hlz : RepL (allZ w) noPls l vals := (freeze_rep (ρ := noPls) (Z1 := Z) (Z2 := allZ w) (ρ1 := ρ) (H1 := { H with lock := 0 }) (w1 := w) ⟨hs.objs, hs.inj, hs.zok, hs.fresh, Nat.zero_le _, hs.lg⟩ (fun k o hk => hs.zok k o hk) (fun b o pl _ _ _ _ => rfl) (fun b v p hb _ => absurd hb (Nat.not_lt_zero _)) 100000).2 _ _ _ hfz hl
              obtain ⟨t, ⟨⟨e, x, he, ha⟩, hb⟩, rfl, rfl, rfl⟩ := tabFn_some hT hR
              have hm1 := ext_of_ans (C := C.more2 e x) hgo hm he ha hb (allZ w) noPls { objs := [], lock := 0 } w vals (start_sim w (hs.lg.mono fun k o hk => hs.zok k o hk)) hlz
              rcases hm1 with ⟨y, w', h1, h2⟩ | ⟨h1, h2⟩
              · exact Or.inl ⟨y, w', h1, back_frozen hs hat h2⟩
              · exact Or.inr ⟨h1, Calls.mono' h2 fun en w' he => by
                  obtain ⟨y, rfl, h3⟩ := he
                  exact ⟨y, rfl, back_frozen hs hat h3⟩⟩
            · cases hv
          · cases hv
        · cases hv
      rename_i v2 hv2
      simp only [Option.some.injEq] at hv
      subst hv
      obtain ⟨t, ⟨⟨e, x, he, n, ha⟩, hb⟩, rfl, rfl, hG, rfl⟩ := tabH_some hH hv2
      have hrec : RecOK C.P (evT (C.more2 e x) n) := (ev_sound (C := C.more2 e x) hgo he (draw_ok hm he) n).1
      let D : Cfg := { C.more2 e x with pure := fun _ _ _ => true }
      have hk : callKind D t.f t.f none t.K = 2 := by
        simp only [Bool.or_eq_false_iff] at hb
        unfold callKind
        simp only [hb.1, hb.2, Bool.false_eq_true, if_false, if_true, D]
      have hB : callB D (evT (C.more2 e x) n) t.f t.f none t.K H = some (t.R, H) := by
        unfold callB; rw [hk]
        have h1 : ({ H with lock := H.size } : Heap) = { objs := t.G, lock := t.G.length } := by
          obtain ⟨objs, lock⟩ := H
          simp only at hG
          subst hG
          rfl
        have h2 : H.size = t.G.length := by unfold Heap.size; rw [hG]
        simp only
        rw [h1, h2]
        unfold ansH at ha
        split at ha
        · rename_i v1 H1 h3
          rw [h3]
          simp only [ha, Option.map_some]
        · cases ha
      obtain ⟨hbody, hc⟩ := callB_sound (C := D) hrec hs hl hB
      exact Or.inr ⟨hbody.run _ _, hc⟩
    · exact h0.exh f g hf' args v H hv Z ρ w vals hs hl

def ansC (o : Option Out) : Option AV := match o with | some (.ret v H) => freezeV { H with lock := 0 } 1000000 v | _ => none
theorem ans_of_evC {C : Cfg} {n : Nat} {f : FuncId} {args : List AV} {v : AV} (h : ansC (evT C n (.call f args { objs := [], lock := 0 })) = some v) : Ans C f args v := by
  refine Ans.iff.2 ?_
  cases ho : evT C n (.call f args { objs := [], lock := 0 }) with
  | none => rw [ho] at h; cases h
  | some o =>
    rw [ho] at h
    cases o with
    | go => cases h
    | ret x H => exact ⟨x, H, lim_iff.2 ⟨n, ho⟩, h⟩

theorem goodC {C : Cfg} (hgo : NoGo C.P) (hm : C.P.follows .mixedOrders = true) (h0 : ExtOK C) {t : Tell} (T : List Tell) (hT : AllG C T) (TH : List TellH) (hH : AllH C TH) (n : Nat)
    (h : ansC (evT (C.more2 (tabExt C.ext T) (tabExh C.exh T TH)) n (.call t.f t.K { objs := [], lock := 0 })) = some t.R) (hb : boundL t.K = 0) : GoodC C t :=
  ⟨⟨_, _, extOK_tab hgo hm h0 hT hH, ans_of_evC h⟩, hb⟩
theorem goodH {C : Cfg} (hgo : NoGo C.P) (hm : C.P.follows .mixedOrders = true) (h0 : ExtOK C) {t : TellH} (T : List Tell) (hT : AllG C T) (TH : List TellH) (hH : AllH C TH) (n : Nat)
    (h : ansH t.G.length (evT (C.more2 (tabExt C.ext T) (tabExh C.exh T TH)) n (.call t.f t.K { objs := t.G, lock := t.G.length })) = some t.R) (hb : (Nat.beq (boundL t.K) 0 || t.K.any isYld) = false) : GoodH C t :=
  ⟨⟨_, _, extOK_tab hgo hm h0 hT hH, n, h⟩, hb⟩
theorem freeze_toV {H : Heap} {K : Nat} {x : AV} {y : Value} (h : freezeV H K x = some (.v y)) : x = .v y := by
  cases K with
  | zero => cases h
  | succ K =>
    unfold freezeV at h
    cases x with
    | v z => simpa using h
    | ro z k => simp at h
    | vs s l c => simp at h
    | agg l => simp only [Option.map_eq_some_iff] at h; obtain ⟨_, _, h⟩ := h; cases h
    | tup l => simp only [Option.map_eq_some_iff] at h; obtain ⟨_, _, h⟩ := h; cases h
    | ifc t z => simp only [Option.map_eq_some_iff] at h; obtain ⟨_, _, h⟩ := h; cases h
    | mp b => simp only at h; split at h <;> simp at h
    | yld b => simp only at h; split at h <;> simp at h
    | fn f a b => simp only at h; split at h <;> simp at h
    | ptr b v k =>
      simp only at h
      split at h
      · simp at h
      · split at h
        · split at h
          · split at h <;> simp at h
          · simp at h
        · simp at h
    | sl b v off len c =>
      simp only at h
      split at h
      · simp at h
      · split at h
        · split at h
          · split at h
            · simp at h
            · split at h
              · split at h <;> simp at h
              · simp at h
          · simp at h
        · simp at h
theorem Ans.limT {C : Cfg} {f : FuncId} {args : List AV} (h : Ans C f args (.v (.bool true))) : ∃ H', Go.Ev.lim C (.call f args { objs := [], lock := 0 }) = some (.ret (.v (.bool true)) H') := by
  obtain ⟨x, H, h1, h2⟩ := Ans.iff.1 h
  rw [freeze_toV h2] at h1
  exact ⟨H, h1⟩

/-- a law without arguments -/
theorem closed_law {C : Cfg} {f : FuncId} (h : GoodC C ⟨f, [], .v (.bool true)⟩) : ∃ e x, ExtOK (C.more2 e x) ∧ ∀ P N xs, ArgsOf P N [] xs → ∃ H', Go.Ev.lim (C.more2 e x) (.call f xs { objs := [], lock := 0 }) = some (.ret (.v (.bool true)) H') := by
  obtain ⟨⟨e, x, he, ha⟩, -⟩ := h
  refine ⟨e, x, he, fun P N xs hx => ?_⟩
  cases hx
  exact ha.limT
end Go.Ev
/- Do two slices lie in one memory: what stands for it. -/
namespace Go.Ev

def lapsA (args : List AV) (H : Heap) : Option AV :=
  match args with
  | [x, .sl b ver _ _ _] =>
    match H.get b with
    | some (.cells v _ _ _ _ _) =>
      if v = ver then
        match x with
        | .vs sz _ _ => if sz = 0 then none else some (.v (.bool false))
        | .sl b' ver' _ _ _ =>
          match H.get b' with
          | some (.cells v' _ _ _ _ _) => if v' = ver' then (if b' = b then none else some (.v (.bool false))) else none
          | _ => none
        | _ => none
      else none
    | _ => none
  | _ => none

theorem run_laps {P : Program} (w : World) (tS tR e : TypeId) (ht : P.underlying tS = some (.slice e)) (size : Nat) (hz : ∀ w, (Go.sizeOf e).run P w = .ok size w)
    (a b : Addr) (la ca lb cb : Nat) (hne : a.block ≠ b.block) {arrA arrB : Array Value} {eA eB : TypeId} {fzA : Nat × Nat}
    (hA : w.heap[a.block]? = some (.cells arrA eA fzA)) (hB : w.heap[b.block]? = some (.cells arrB eB (0, 0))) (hn : la = 0 ∨ arrA.size ≠ 0 ∨ fzA = (0, 0)) :
    (Extern.SlicesOverlaps.overlaps #[tS, tS] #[tR] #[.slice (some a) la ca, .slice (some b) lb cb]).run P w = .ok (.bool false) w := by
  have hnb : (a.block != b.block) = true := by simpa using hne
  have hnb' : (a.block == b.block) = false := by simpa using hne
  change Sem.run P (α := Value) (do
    let some t := (#[tS, tS] : Array TypeId)[0]? | stuck "slices.overlaps: no parameter types"
    let .slice elem ← underlying t | stuck "slices.overlaps: slice type expected"
    let size ← sizeOf elem
    match (some a : Option Addr), (some b : Option Addr) with
    | some a, some b =>
      if la = 0 ∨ lb = 0 ∨ size = 0 then pure (Value.bool false)
      else if a.block != b.block && (← frozen a) && (← frozen b) then unsupported .addressObserved
      else do
        if a.block != b.block then do
          noView a; noView b
          if ← mayBeOne a b then return Value.bool ((← choose (.extern "sameAddr.stringBytes" 2)) == 1)
        pure (Value.bool (a.block == b.block && a.off < b.off + lb * size && b.off < a.off + la * size))
    | _, _ => pure (Value.bool false)) w = _
  have hsa : w.shape? a.block = some (eA, arrA.size) := by simp [World.shape?, hA]
  have hsb : w.shape? b.block = some (eB, arrB.size) := by simp [World.shape?, hB]
  have hfb : ∀ o, w.frozen? { block := b.block, off := o } = false := fun o => by simp [World.frozen?, hB]
  have hfb' : w.frozen? b = false := by simp [World.frozen?, hB]
  by_cases h0 : la = 0 ∨ lb = 0 ∨ size = 0
  · simp [run_underlying ht, hz, h0]
  · have hn' : arrA.size ≠ 0 ∨ fzA = (0, 0) := by
      rcases hn with h | h
      · exact absurd (Or.inl h) h0
      · exact h
    rcases hn' with hk | hk
    · cases hka : arrA.size with
      | zero => exact absurd hka hk
      | succ n =>
        rw [hka] at hsa
        generalize hfa : w.frozen? a = fa
        generalize hfe : w.frozen? { block := a.block, off := n + 1 } = fe
        cases fa <;> cases fe <;> simp [run_underlying ht, hz, h0, hnb, hnb', frozen, noView, viewAt, mayBeOne, stringish, shape, Sem.run, hsa, hsb, hfa, hfe, hfb, hfb']
    · subst hk
      have hfa : ∀ o, w.frozen? { block := a.block, off := o } = false := fun o => by simp [World.frozen?, hA]
      have hfa' : w.frozen? a = false := by simp [World.frozen?, hA]
      simp [run_underlying ht, hz, h0, hnb, hnb', frozen, noView, viewAt, mayBeOne, stringish, shape, Sem.run, hsa, hsb, hfa, hfa', hfb, hfb']

theorem run_laps0 {P : Program} (w : World) (tS tR e : TypeId) (ht : P.underlying tS = some (.slice e)) (size : Nat) (hz : ∀ w, (Go.sizeOf e).run P w = .ok size w) (a b : Addr) (ca lb cb : Nat) :
    (Extern.SlicesOverlaps.overlaps #[tS, tS] #[tR] #[.slice (some a) 0 ca, .slice (some b) lb cb]).run P w = .ok (.bool false) w := by
  change Sem.run P (α := Value) (do
    let some t := (#[tS, tS] : Array TypeId)[0]? | stuck "slices.overlaps: no parameter types"
    let .slice elem ← underlying t | stuck "slices.overlaps: slice type expected"
    let size ← sizeOf elem
    match (some a : Option Addr), (some b : Option Addr) with
    | some a, some b =>
      if (0 : Nat) = 0 ∨ lb = 0 ∨ size = 0 then pure (Value.bool false)
      else if a.block != b.block && (← frozen a) && (← frozen b) then unsupported .addressObserved
      else do
        if a.block != b.block then do
          noView a; noView b
          if ← mayBeOne a b then return Value.bool ((← choose (.extern "sameAddr.stringBytes" 2)) == 1)
        pure (Value.bool (a.block == b.block && a.off < b.off + lb * size && b.off < a.off + 0 * size))
    | _, _ => pure (Value.bool false)) w = _
  simp [run_underlying ht, hz]

theorem exh_laps {P : Program} {f : FuncId} {fn : Func} (hf : P.funcs[f]? = some fn) (hb : fn.body = none) (hn : (fn.name == "runtime.NumGoroutine") = false) (h1 : (Extern.findNext fn).isNone = true)
    {tS tR e : TypeId} (h2 : Extern.find fn = some (Extern.SlicesOverlaps.overlaps #[tS, tS] #[tR])) (ht : P.underlying tS = some (.slice e)) {size : Nat} (hz : ∀ w, (Go.sizeOf e).run P w = .ok size w)
    {args : List AV} {v : AV} {H : Heap} (h : lapsA args H = some v) (Z : Fzn) (ρ : Pls) (w : World) (vals : List Value) (hs : Sim Z ρ H w) (hl : RepL Z ρ args vals) : FnMeets P f vals w (After Z ρ H w v H) := by
  have hrow : ∀ {b : Nat} {v m : Nat} {t : TypeId} {sz : Nat} {g : Bool} {cs : List AV} {pl : Pl}, H.get b = some (.cells v m t sz g cs) → ρ b v = some pl → ∃ arr e, w.heap[pl.blk]? = some (.cells arr e (0, 0)) ∧ Z pl.blk = none := by
    intro b v m t sz g cs pl hg hp
    obtain ⟨pl', obj, q1, q2, q3, q4⟩ := hs.objs b _ hg rfl
    simp only [AObj.ver] at q1
    rw [hp] at q1; cases q1
    cases obj <;> simp only [RepO] at q3
    obtain ⟨rfl, -⟩ := q3
    exact ⟨_, _, q2, q4⟩
  have key : ∀ (a b : Addr) (la ca lb cb : Nat), vals = [.slice (some a) la ca, .slice (some b) lb cb] → a.block ≠ b.block → (∃ arrA eA fzA, w.heap[a.block]? = some (.cells arrA eA fzA) ∧ (la = 0 ∨ arrA.size ≠ 0 ∨ fzA = (0, 0))) →
      (∃ arrB eB, w.heap[b.block]? = some (.cells arrB eB (0, 0))) → FnMeets P f vals w (After Z ρ H w (.v (.bool false)) H) := by
    rintro a b la ca lb cb rfl hne ⟨arrA, eA, fzA, hA, hna⟩ ⟨arrB, eB, hB⟩
    refine Or.inl ⟨.bool false, w, ?_, Z, ρ, .v rfl, hs, Ext.refl _ _ _ _⟩
    have hfn : Extern.findNext fn = none := Option.isNone_iff_eq_none.1 h1
    have := run_laps (P := P) w tS tR e ht size hz a b la ca lb cb hne hA hB hna
    have hn' : ¬ fn.name = "runtime.NumGoroutine" := by
      intro e; rw [e] at hn; simp at hn
    simp [callFunc, hf, hn', hb, hfn, h2, this]
  unfold lapsA at h
  split at h
  · rename_i x b ver off len cap
    obtain ⟨v1, ws, rfl, hv1, hl⟩ := hl.uncons
    obtain ⟨v2, ws, rfl, hv2, hl⟩ := hl.uncons
    have : ws = [] := by have := hl.1; exact List.length_eq_zero_iff.1 this.symm
    subst this
    split at h
    · rename_i vr m t sz g cs hg
      split at h
      · rename_i hver
        subst hver
        cases hv2 with
        | sl hp hc hcn hle =>
        obtain ⟨arrB, eB, hB, hZ⟩ := hrow hg hp
        split at h
        · rename_i sz xs cap1
          split at h
          · cases h
          · rename_i hsz
            simp only [Option.some.injEq] at h; subst h
            cases hv1 with
            | vs hz' ha hs' hl' h' hc' hle' =>
              refine key _ _ _ _ _ _ rfl ?_ ?_ ⟨_, _, hB⟩
              · intro hE
                simp only at hE
                rw [hE, hZ] at hz'; cases hz'
              · refine ⟨_, _, _, hs.zok _ _ hz', ?_⟩
                by_cases hx : xs.length = 0
                · exact .inl hx
                · right; left
                  intro h0
                  have hlen := congrArg List.length ha
                  simp only [Array.length_toList, h0, List.length_append] at hlen
                  cases xs with
                  | nil => exact hx rfl
                  | cons y ys =>
                    have hy := hs' y (by simp)
                    simp only [List.flatMap_cons, List.length_append] at hl'
                    omega
            | vs0 hc' =>
              rename_i a
              refine Or.inl ⟨.bool false, w, ?_, Z, ρ, .v rfl, hs, Ext.refl _ _ _ _⟩
              have hfn : Extern.findNext fn = none := Option.isNone_iff_eq_none.1 h1
              have : ∀ b ca cb lb, (Extern.SlicesOverlaps.overlaps #[tS, tS] #[tR] #[.slice (some a) 0 ca, .slice (some b) lb cb]).run P w = .ok (.bool false) w := fun b ca cb lb => run_laps0 w tS tR e ht size hz a b ca lb cb
              have hn' : ¬ fn.name = "runtime.NumGoroutine" := by
                intro e; rw [e] at hn; simp at hn
              simp [callFunc, hf, hn', hb, hfn, h2, this]
        · rename_i b' ver' off' len' cap'
          split at h
          · rename_i vr' m' t' sz' g' cs' hg'
            split at h
            · rename_i hver'
              subst hver'
              split at h
              · cases h
              · rename_i hbb
                simp only [Option.some.injEq] at h; subst h
                cases hv1 with
                | sl hp' hc' hcn' hle' =>
                obtain ⟨arrA, eA, hA, hZ'⟩ := hrow hg' hp'
                refine key _ _ _ _ _ _ rfl ?_ ⟨_, _, _, hA, .inr (.inr rfl)⟩ ⟨_, _, hB⟩
                intro hE
                exact hbb (hs.inj b' b _ _ _ _ hg' rfl hg rfl (by simpa [AObj.ver] using hp') (by simpa [AObj.ver] using hp) hE)
            · cases h
          · cases h
        · cases h
      · cases h
    · cases h
  · cases h

theorem extOK_laps {C C' : Cfg} (hP : C'.P = C.P) {f : FuncId} (hg : ∀ args v H, lapsA args H = some v → ∀ (Z : Fzn) (ρ : Pls) (w : World) (vals : List Value), Sim Z ρ H w → RepL Z ρ args vals → FnMeets C.P f vals w (After Z ρ H w v H))
    (hext : ExtOK C) (he : C'.ext = C.ext := by rfl) (hlay : C'.lay = C.lay := by rfl) (hexh : C'.exh = fun f' => if Nat.beq f' f then some lapsA else C.exh f') : ExtOK C' := by
  refine ⟨fun f' g' hf' => by rw [hP]; rw [he] at hf'; exact hext.ext f' g' hf', fun f' g' hf' => by rw [hP]; rw [hlay] at hf'; exact hext.lay f' g' hf', fun f' g' hf' args v H hv Z ρ w vals hs hl => ?_⟩
  rw [hP]
  rw [hexh] at hf'
  simp only at hf'
  split at hf'
  · rename_i hb
    have := Nat.eq_of_beq_eq_true hb
    subst this
    simp only [Option.some.injEq] at hf'
    subst hf'
    exact hg args v H hv Z ρ w vals hs hl
  · exact hext.exh f' g' hf' args v H hv Z ρ w vals hs hl
end Go.Ev
/- A function of Go's library that stands for itself: internal/bytealg.IndexByteString. -/
namespace Go.Ev

/-! ### the first byte of a kind -/
def idxB (c : Nat) : Int → List UInt8 → Int
  | _, [] => -1
  | i, b :: r => if Nat.beq b.toNat c then i else idxB c (i + 1) r
theorem idxB_eq (c : UInt8) : ∀ (l : List UInt8) (i : Int), idxB c.toNat i l = if Lib.indexByte l c = -1 then -1 else Lib.indexByte l c + i
  | [], i => by simp [idxB, Lib.indexByte]
  | b :: l, i => by
    unfold idxB Lib.indexByte
    by_cases h : b = c
    · subst h
      have h1 : Nat.beq b.toNat b.toNat = true := Nat.beq_refl _
      simp [h1]
    · have h1 : Nat.beq b.toNat c.toNat = false := by
        cases hb : Nat.beq b.toNat c.toNat
        · rfl
        · exact absurd (UInt8.toNat_inj.1 (Nat.eq_of_beq_eq_true hb)) h
      have hge := Lib.indexByte_ge l c
      rw [h1, idxB_eq c l (i + 1)]
      simp only [Bool.false_eq_true, if_false, beq_iff_eq, h]
      by_cases h2 : Lib.indexByte l c = -1
      · simp [h2]
      · simp only [h2, if_false]
        rw [if_neg (by omega)]; omega
def idxStr : List AV → Option AV
  | [.v (.string s), .v (.int .u8 c)] => if 0 ≤ c ∧ c < 256 then some (.v (.int .i64 (idxB c.toNat 0 s.data.toList))) else none
  | _ => none
theorem ext_idx {P : Program} {f : FuncId} {fn : Func} (hf : P.funcs[f]? = some fn) (hb : fn.body = none) (hn : (fn.name == "runtime.NumGoroutine") = false) (h1 : (Extern.findNext fn).isNone = true) (h2 : Extern.find fn = some Extern.BytealgIndexByte.indexByte)
    {args : List AV} {v : AV} (h : idxStr args = some v) (Z : Fzn) (ρ : Pls) (H : Heap) (w : World) (vals : List Value) (hs : Sim Z ρ H w) (hl : RepL Z ρ args vals) : FnMeets P f vals w (After Z ρ H w v H) := by
  unfold idxStr at h
  split at h
  · rename_i s c
    split at h
    · rename_i hc
      obtain ⟨v1, ws, rfl, hv1, hl⟩ := hl.uncons
      obtain ⟨v2, ws, rfl, hv2, hl⟩ := hl.uncons
      have : ws = [] := List.length_eq_zero_iff.1 hl.1.symm
      subst this
      obtain ⟨rfl, -⟩ := hv1.v_inv
      obtain ⟨rfl, -⟩ := hv2.v_inv
      simp only [Option.some.injEq] at h
      subst h
      refine Or.inl ⟨.int .i64 (Lib.indexByte s.data.toList c.toNat.toUInt8), w, ?_, Z, ρ, ?_, hs, Ext.refl _ _ _ _⟩
      · have hfn : Extern.findNext fn = none := Option.isNone_iff_eq_none.1 h1
        have := Lib.run_indexByteString (P := P) s c w
        have hn' : ¬ fn.name = "runtime.NumGoroutine" := by
          intro e; rw [e] at hn; simp at hn
        simp [callFunc, hf, hn', hb, hfn, h2, this]
      · have hcn : c.toNat.toUInt8.toNat = c.toNat := by
          have : c.toNat < 256 := by omega
          simp [Nat.toUInt8, UInt8.toNat_ofNat, Nat.mod_eq_of_lt this]
        have := idxB_eq c.toNat.toUInt8 s.data.toList 0
        rw [hcn] at this
        have e : idxB c.toNat 0 s.data.toList = Lib.indexByte s.data.toList c.toNat.toUInt8 := by
          rw [this]; split
          · rename_i h; exact h.symm
          · omega
        rw [e]; exact .v rfl
    · cases h
  · cases h
end Go.Ev
/- A function of Go's library that stands for itself: strings.Join. -/
namespace Go.Ev
open Go.Proofs Go.Shelf Go.RowKit

theorem Sim.below {Z : Fzn} {ρ : Pls} {H : Heap} {w w' : World} (hs : Sim Z ρ H w) (hb : Below w.heap.size w w') : Sim Z ρ H w' :=
  ⟨fun b o h hl => let ⟨pl, obj, h1, h2, h3, h4⟩ := hs.objs b o h hl; ⟨pl, obj, h1, (hb.block _ (Array.getElem?_eq_some_iff.1 h2).1).trans h2, h3, h4⟩, hs.inj,
    fun k o hk => (hb.block k (Array.getElem?_eq_some_iff.1 (hs.zok k o hk)).1).trans (hs.zok k o hk), hs.fresh, hs.lk, hs.lg⟩
theorem Ext.below {Z : Fzn} {ρ : Pls} {H : Heap} {w w' : World} (hb : Below w.heap.size w w') : Ext Z ρ H w Z ρ H w' :=
  ⟨.refl _, .refl _, fun k hk _ => hb.block k hk, fun _ _ h => h, hb.size, hb.os, hb.output, hb.tape, (fun s => nomatch (show true = false from s)), fun _ ha => hb.frozen ha, rfl, fun _ _ => rfl, Nat.le_refl _, fun _ _ _ => rfl, fun _ _ _ => rfl, fun _ _ h _ => ⟨h, fun _ => rfl⟩⟩

/-! ### strings.Join -/
def strsOf : List AV → Option (List ByteArray)
  | [] => some []
  | .v (.string s) :: r => match strsOf r with | some l => some (s :: l) | none => none
  | _ => none
def joinStr : List AV → Option AV
  | [.v (.slice none 0 0), .v (.string _)] => some (.v (.string ⟨#[]⟩))
  | [.vs _ xs _, .v (.string sep)] =>
    match strsOf xs with
    | some l => if l.length ≤ 100000 ∧ (Lib.join (l.map (·.data.toList)) sep.data.toList).length ≤ 100000 then some (.v (.string ⟨(Lib.join (l.map (·.data.toList)) sep.data.toList).toArray⟩)) else none
    | none => none
  | _ => none
theorem strsOf_some : ∀ {xs : List AV} {l : List ByteArray}, strsOf xs = some l → xs = l.map fun s => .v (.string s)
  | [], l, h => by simp [strsOf] at h; subst h; rfl
  | x :: r, l, h => by
    unfold strsOf at h
    split at h
    · rename_i h'; cases h'
    · rename_i s r' h'
      simp only [List.cons.injEq] at h'
      obtain ⟨rfl, rfl⟩ := h'
      split at h
      · rename_i l' hl
        simp only [Option.some.injEq] at h
        subst h
        rw [strsOf_some hl]; rfl
      · cases h
    · cases h
theorem flat_strs : ∀ l : List ByteArray, (l.map fun s => AV.v (.string s)).flatMap AV.cells = l.map fun s => AV.v (.string s)
  | [] => rfl
  | a :: r => by simp only [List.map_cons, List.flatMap_cons, flat_strs r]; rfl
theorem ext_join {P : Program} {ρn : Ren} (L : Lays.n156 P ρn) (X : Builder.Extra P ρn) {f : FuncId} (hf : ρn.f 156 = f) (hbody : HasBody P f)
    {args : List AV} {v : AV} (h : joinStr args = some v) (Z : Fzn) (ρ : Pls) (H : Heap) (w : World) (vals : List Value) (hs : Sim Z ρ H w) (hl : RepL Z ρ args vals) : FnMeets P f vals w (After Z ρ H w v H) := by
  subst hf
  unfold joinStr at h
  split at h
  · rename_i sep
    obtain ⟨v1, ws, rfl, hv1, hl⟩ := hl.uncons
    obtain ⟨v2, ws, rfl, hv2, hl⟩ := hl.uncons
    have : ws = [] := List.length_eq_zero_iff.1 hl.1.symm
    subst this
    obtain ⟨rfl, -⟩ := hv1.v_inv
    obtain ⟨rfl, -⟩ := hv2.v_inv
    simp only [Option.some.injEq] at h
    subst h
    refine Or.inr ⟨hbody.run _ _, Calls.mono' (Any.strings_Join_none L X none 0 sep w) ?_⟩
    rintro e w' ⟨rfl, rfl⟩
    exact ⟨_, rfl, Z, ρ, .v rfl, hs, Ext.refl _ _ _ _⟩
  · rename_i sz xs cap sep
    obtain ⟨v1, ws, rfl, hv1, hl⟩ := hl.uncons
    obtain ⟨v2, ws, rfl, hv2, hl⟩ := hl.uncons
    have : ws = [] := List.length_eq_zero_iff.1 hl.1.symm
    subst this
    obtain ⟨rfl, -⟩ := hv2.v_inv
    split at h
    · rename_i l hstr
      split at h
      · rename_i hc
        simp only [Option.some.injEq] at h
        subst h
        have hxs := strsOf_some hstr
        refine Or.inr ⟨hbody.run _ _, ?_⟩
        cases hv1 with
        | vs hz ha hsz hl' hh hcap hle =>
          rename_i c blk arr e fz pre vs post
          have hblk := (Array.getElem?_eq_some_iff.1 (hs.zok _ _ hz)).1
          have hlen : xs.length = l.length := by rw [hxs, List.length_map]
          have hcells : (xs.flatMap AV.cells) = l.map fun s => AV.v (.string s) := by
            rw [hxs]
            exact flat_strs l
          have hget : ∀ (j : Nat) (x : ByteArray), l[j]? = some x → w.cell? ⟨blk, pre.length + j, none⟩ = some (.string x) := by
            intro j x hj
            have h1 : (xs.flatMap AV.cells)[j]? = some (.v (.string x)) := by rw [hcells, List.getElem?_map, hj]; rfl
            have hlt : j < vs.length := by rw [← hl']; exact (List.getElem?_eq_some_iff.1 h1).1
            have h2 : vs[j]? = some vs[j] := List.getElem?_eq_getElem hlt
            have h3 := (hh j _ _ h1 h2).v_inv.1
            rw [cell_at (hs.zok _ _ hz) ha h2, h3]
          have hcall := Any.strings_Join L X blk pre.length c l sep w hget hblk (by have := hc.1; omega) (by omega) (by have := hc.2; omega)
          rw [← hlen] at hcall
          refine Calls.mono' hcall ?_
          rintro e w' ⟨rfl, hb⟩
          exact ⟨_, rfl, Z, ρ, .v rfl, hs.below hb, Ext.below hb⟩
        | vs0 hcap =>
          have hl0 : l = [] := by
            cases l with
            | nil => rfl
            | cons a r => simp at hxs
          subst hl0
          refine Calls.mono' (Any.strings_Join_none L X _ _ sep w) ?_
          rintro e w' ⟨rfl, rfl⟩
          exact ⟨_, rfl, Z, ρ, .v rfl, hs, Ext.refl _ _ _ _⟩
      · cases h
    · cases h
  · cases h
end Go.Ev
/- A function of Go's library that stands for itself: strings.Fields, on ASCII texts. -/
namespace Go.Ev
open Go.Proofs Go.Shelf Go.RowKit

def asciiB : List UInt8 → Bool
  | [] => true
  | b :: r => Nat.blt b.toNat 128 && asciiB r
theorem asciiB_at : ∀ {l : List UInt8}, asciiB l = true → ∀ (j : Nat) b, l[j]? = some b → b.toNat < 128
  | [], _, j, b, h => by simp at h
  | x :: r, ha, 0, b, h => by
    simp only [asciiB, Bool.and_eq_true] at ha
    simp only [List.getElem?_cons_zero, Option.some.injEq] at h
    subst h
    rw [← Nat.blt_eq]; exact ha.1
  | x :: r, ha, j + 1, b, h => by
    simp only [asciiB, Bool.and_eq_true] at ha
    exact asciiB_at ha.2 j b (by simpa using h)
def strAV (l : List UInt8) : AV := .v (.string ⟨l.toArray⟩)
def fieldsA : List AV → Option AV
  | [.v (.string s)] => if Nat.blt s.data.size 100000 && asciiB s.data.toList then some (.vs 1 ((Lib.fields s.data.toList).map strAV) (some (Lib.fields s.data.toList).length)) else none
  | _ => none
theorem strAV_cells : ∀ l : List (List UInt8), (l.map strAV).flatMap AV.cells = l.map strAV
  | [] => rfl
  | x :: r => by simp only [List.map_cons, List.flatMap_cons, strAV_cells r]; rfl

theorem ext_fields {P : Program} {ρn : Ren} (L : Lays.n157 P ρn) (hi9 : (P.info? (ρn.t 9)).map (fun i => (i.zero, i.size, i.bytes)) = some (some (.string ByteArray.empty), 1, 16)) (hg : P.globalNamed "strings.asciiSpace" = some (ρn.g 0))
    (hl0 : (ρn.g 0, (Lib.asciiSpaceTab.map fun z => Value.int .u8 z).toArray) ∈ laidL) {f : FuncId} (hf : ρn.f 157 = f) (hbody : HasBody P f)
    {args : List AV} {v : AV} (h : fieldsA args = some v) (Z : Fzn) (ρ : Pls) (H : Heap) (w : World) (vals : List Value) (hs : Sim Z ρ H w) (hl : RepL Z ρ args vals) : FnMeets P f vals w (After Z ρ H w v H) := by
  subst hf
  unfold fieldsA at h
  split at h
  · rename_i s
    obtain ⟨v1, ws, rfl, hv1, hl⟩ := hl.uncons
    have : ws = [] := List.length_eq_zero_iff.1 hl.1.symm
    subst this
    obtain ⟨rfl, -⟩ := hv1.v_inv
    split at h
    · rename_i hc
      simp only [Bool.and_eq_true] at hc
      simp only [Option.some.injEq] at h
      subst h
      have hsz : s.size < 100000 := by
        have := hc.1
        rw [Nat.blt_eq] at this
        exact this
      have htab : Lib.TabIs P w "strings.asciiSpace" .u8 Lib.asciiSpaceTab := by
        obtain ⟨e, fz, hz⟩ := hs.lg _ hl0
        have := hs.zok _ _ hz
        unfold Lib.TabIs World.var?
        rw [hg]
        simp only [Option.bind_some]
        simp only at this
        rw [this]
      refine Or.inr ⟨hbody.run _ _, Calls.mono' (Any.strings_Fields L hi9 hg s w (by omega) (asciiB_at hc.2) htab) ?_⟩
      rintro e w' ⟨rfl, rfl⟩
      obtain ⟨q1, q2⟩ := hs.frozen (.cells ((Lib.fields s.data.toList).map fun l => Value.string ⟨l.toArray⟩).toArray (ρn.t 9) (0, 0)) (fun c e fz he => by cases he; rfl)
      refine ⟨_, rfl, _, ρ, ?_, q1, q2⟩
      have hz : freezeZ Z w.heap.size (.cells ((Lib.fields s.data.toList).map fun l => Value.string ⟨l.toArray⟩).toArray (ρn.t 9) (0, 0)) w.heap.size = some (.cells ((Lib.fields s.data.toList).map fun l => Value.string ⟨l.toArray⟩).toArray (ρn.t 9) (0, 0)) := by
        unfold freezeZ; rw [if_pos rfl]
      have hlen : ((Lib.fields s.data.toList).map strAV).length = (Lib.fields s.data.toList).length := List.length_map _
      have hrep : Rep (freezeZ Z w.heap.size (.cells ((Lib.fields s.data.toList).map fun l => Value.string ⟨l.toArray⟩).toArray (ρn.t 9) (0, 0))) ρ (.vs 1 ((Lib.fields s.data.toList).map strAV) (some (Lib.fields s.data.toList).length))
          (.slice (some ⟨w.heap.size, ([] : List Value).length, none⟩) ((Lib.fields s.data.toList).map strAV).length (Lib.fields s.data.toList).length) := by
        refine Rep.vs (vs := (Lib.fields s.data.toList).map fun l => Value.string ⟨l.toArray⟩) (post := []) hz (by simp) (fun x hx => ?_) ?_ (fun i c v hc hv => ?_) (fun k hk => by cases hk; rfl) (by rw [hlen]; exact Nat.le_refl _)
        · obtain ⟨l, -, rfl⟩ := List.mem_map.1 hx
          rfl
        · rw [strAV_cells, List.length_map, List.length_map]
        · rw [strAV_cells] at hc
          rw [List.getElem?_map] at hc hv
          cases hq : (Lib.fields s.data.toList)[i]? with
          | none => rw [hq] at hc; cases hc
          | some l =>
            rw [hq] at hc hv
            simp only [Option.map_some, Option.some.injEq] at hc hv
            subst hc; subst hv
            exact .v rfl
      rw [hlen] at hrep
      exact hrep
    · cases h
  · cases h
end Go.Ev
/-
  DERIVED: THE SHELF's CONTRACTS AT THIS DUMP, IN PLAIN WORDS (tools/lay-plain.mjs out of 'TryzShelf.lean', which tools/lay-shelf.mjs wrote): THE SAME DECLARATIONS UNDER THE SAME NAMES: 'import', 'namespace', 'open', 'def', 'theorem' AND NOTHING ELSE: no command of the shelf's: FOR A HAND-IN. Each laying: the table of numbers ('.._ren') and one theorem, a field a fact of the dump's own or the kernel's comparison; each contract: ONE APPLICATION.
-/
namespace Go.Proofs
open Go.Shelf
def Tryz.lays156_ren : Go.Shelf.Ren := ⟨fun | 156 => 127 | 165 => 155 | 166 => 156 | 169 => 157 | 240 => 180 | 241 => 181 | 276 => 189 | 277 => 190 | n => n, fun | 31 => 87 | 9 => 9 | 3 => 3 | 4 => 4 | 0 => 0 | 20 => 20 | 72 => 227 | 76 => 231 | 70 => 224 | 37 => 225 | 75 => 230 | 127 => 249 | 164 => 262 | 5 => 5 | 80 => 233 | n => n, fun | n => n⟩
theorem Tryz.lays156 : Go.Proofs.Lays.n156 Tryz.prog Tryz.lays156_ren := {
  mixed := by kernel_rfl
  f156 := Tryz.func127.trans (congrArg some (by kernel_rfl))
  f165 := Tryz.func155.trans (congrArg some (by kernel_rfl))
  f166 := Tryz.func156.trans (congrArg some (by kernel_rfl))
  f169 := Tryz.func157.trans (congrArg some (by kernel_rfl))
  f240 := Tryz.func180.trans (congrArg some (by kernel_rfl))
  f241 := Tryz.func181.trans (congrArg some (by kernel_rfl))
  f276 := Tryz.func189.trans (congrArg some (by kernel_rfl))
  f277 := Tryz.func190.trans (congrArg some (by kernel_rfl))
  t0 := Tryz.underlying0
  a0 := Tryz.isAgg0
  z0 := Tryz.sizeOf0
  v0 := Tryz.zeroValue0
  t3 := Tryz.underlying3
  a3 := Tryz.isAgg3
  z3 := Tryz.sizeOf3
  v3 := Tryz.zeroValue3
  t4 := Tryz.underlying4
  a4 := Tryz.isAgg4
  z4 := Tryz.sizeOf4
  v4 := Tryz.zeroValue4
  t9 := Tryz.underlying9
  a9 := Tryz.isAgg9
  z9 := Tryz.sizeOf9
  v9 := Tryz.zeroValue9
  t20 := Tryz.underlying20
  a20 := Tryz.isAgg20
  z20 := Tryz.sizeOf20
  v20 := Tryz.zeroValue20
  t31 := Tryz.underlying87
  a31 := Tryz.isAgg87
  z31 := Tryz.sizeOf87
  v31 := Tryz.zeroValue87
  t37 := Tryz.underlying225
  a37 := Tryz.isAgg225
  z37 := Tryz.sizeOf225
  v37 := Tryz.zeroValue225
  t70 := Tryz.underlying224
  a70 := Tryz.isAgg224
  z70 := Tryz.sizeOf224
  v70 := Tryz.zeroValue224
  t72 := Tryz.underlying227
  a72 := Tryz.isAgg227
  z72 := Tryz.sizeOf227
  v72 := Tryz.zeroValue227
  t75 := Tryz.underlying230
  a75 := Tryz.isAgg230
  z75 := Tryz.sizeOf230
  v75 := Tryz.zeroValue230
  t76 := Tryz.underlying231
  a76 := Tryz.isAgg231
  z76 := Tryz.sizeOf231
  v76 := Tryz.zeroValue231
  t127 := Tryz.underlying249
  a127 := Tryz.isAgg249
  z127 := Tryz.sizeOf249
  v127 := Tryz.zeroValue249
  t164 := Tryz.underlying262
  a164 := Tryz.isAgg262
  z164 := Tryz.sizeOf262
  v164 := Tryz.zeroValue262 }
theorem Tryz.Builder_Extra_156 : Builder.Extra Tryz.prog Tryz.lays156_ren := {
  sizeBuilder := by kernel_rfl
  liesBuilder := by kernel_rfl
  t5 := Tryz.underlying5
  a5 := Tryz.isAgg5
  z5 := Tryz.sizeOf5
  v5 := Tryz.zeroValue5
  infoByte := by kernel_rfl
  cellsByte := by kernel_rfl
  sizeByte := by kernel_rfl
  neB5 := by decide }
open Go.RowKit in
/-- No element: the empty string; the world is as it was. (Whatever the slice's address and capacity: a nil slice too.) (LAID: no walk: one application.) -/
theorem Tryz.strings_Join_none (a : Option Addr) (c : Nat) (sep : ByteArray) (w : World) :
    Calls Tryz.prog 127 #[.slice a 0 c, .string sep] w fun e w' => e = .returned (.string ⟨#[]⟩) ∧ w' = w := Any.strings_Join_none Tryz.lays156 Tryz.Builder_Extra_156 a c sep w
open Go.RowKit in
/-- strings.Join: "Join concatenates the elements of its first argument to create a single string. The separator string sep is placed between elements in the resulting string.": HOWEVER MANY ELEMENTS. Below the heap's end the world is as it was. (LAID: no walk: one application.) -/
theorem Tryz.strings_Join (bk o c : Nat) (xs : List ByteArray) (sep : ByteArray) (w : World) (hcells : ∀ (j : Nat) x, xs[j]? = some x → w.cell? ⟨bk, o + j, none⟩ = some (.string x)) (hbk : bk < w.heap.size) (hN : xs.length ≤ 140737488355328) (hcap : xs.length ≤ c) (hlen : (Lib.join (xs.map (·.data.toList)) sep.data.toList).length ≤ 140737488355328) :
    Calls Tryz.prog 127 #[.slice (some ⟨bk, o, none⟩) xs.length c, .string sep] w fun e w' => e = .returned (.string ⟨(Lib.join (xs.map (·.data.toList)) sep.data.toList).toArray⟩) ∧ Below w.heap.size w w' := Any.strings_Join Tryz.lays156 Tryz.Builder_Extra_156 bk o c xs sep w hcells hbk hN hcap hlen
def Tryz.lays157_ren : Go.Shelf.Ren := ⟨fun | 157 => 107 | 229 => 128 | 199 => 129 | 261 => 158 | 311 => 182 | 312 => 183 | n => n, fun | 9 => 9 | 31 => 87 | 3 => 3 | 5 => 5 | 4 => 4 | 119 => 187 | 0 => 0 | 40 => 189 | 152 => 234 | 21 => 21 | 154 => 236 | 51 => 237 | 141 => 239 | 196 => 253 | 193 => 250 | 198 => 255 | 49 => 76 | 194 => 251 | 201 => 258 | 226 => 265 | 46 => 266 | 227 => 267 | n => n, fun | 0 => 0 | 6 => 2 | n => n⟩
theorem Tryz.lays157 : Go.Proofs.Lays.n157 Tryz.prog Tryz.lays157_ren := {
  mixed := by kernel_rfl
  f157 := Tryz.func107.trans (congrArg some (by kernel_rfl))
  f199 := Tryz.func129.trans (congrArg some (by kernel_rfl))
  f229 := Tryz.func128.trans (congrArg some (by kernel_rfl))
  f261 := Tryz.func158.trans (congrArg some (by kernel_rfl))
  f311 := Tryz.func182.trans (congrArg some (by kernel_rfl))
  f312 := Tryz.func183.trans (congrArg some (by kernel_rfl))
  t0 := Tryz.underlying0
  a0 := Tryz.isAgg0
  z0 := Tryz.sizeOf0
  v0 := Tryz.zeroValue0
  t3 := Tryz.underlying3
  a3 := Tryz.isAgg3
  z3 := Tryz.sizeOf3
  v3 := Tryz.zeroValue3
  t4 := Tryz.underlying4
  a4 := Tryz.isAgg4
  z4 := Tryz.sizeOf4
  v4 := Tryz.zeroValue4
  t5 := Tryz.underlying5
  a5 := Tryz.isAgg5
  z5 := Tryz.sizeOf5
  v5 := Tryz.zeroValue5
  t9 := Tryz.underlying9
  a9 := Tryz.isAgg9
  z9 := Tryz.sizeOf9
  v9 := Tryz.zeroValue9
  t21 := Tryz.underlying21
  a21 := Tryz.isAgg21
  z21 := Tryz.sizeOf21
  v21 := Tryz.zeroValue21
  t31 := Tryz.underlying87
  a31 := Tryz.isAgg87
  z31 := Tryz.sizeOf87
  v31 := Tryz.zeroValue87
  t40 := Tryz.underlying189
  a40 := Tryz.isAgg189
  z40 := Tryz.sizeOf189
  v40 := Tryz.zeroValue189
  t46 := Tryz.underlying266
  a46 := Tryz.isAgg266
  z46 := Tryz.sizeOf266
  v46 := Tryz.zeroValue266
  t49 := Tryz.underlying76
  a49 := Tryz.isAgg76
  z49 := Tryz.sizeOf76
  v49 := Tryz.zeroValue76
  t51 := Tryz.underlying237
  a51 := Tryz.isAgg237
  z51 := Tryz.sizeOf237
  v51 := Tryz.zeroValue237
  t119 := Tryz.underlying187
  a119 := Tryz.isAgg187
  z119 := Tryz.sizeOf187
  t141 := Tryz.underlying239
  a141 := Tryz.isAgg239
  z141 := Tryz.sizeOf239
  v141 := Tryz.zeroValue239
  t152 := Tryz.underlying234
  a152 := Tryz.isAgg234
  z152 := Tryz.sizeOf234
  v152 := Tryz.zeroValue234
  t154 := Tryz.underlying236
  a154 := Tryz.isAgg236
  z154 := Tryz.sizeOf236
  v154 := Tryz.zeroValue236
  t193 := Tryz.underlying250
  a193 := Tryz.isAgg250
  z193 := Tryz.sizeOf250
  v193 := Tryz.zeroValue250
  t194 := Tryz.underlying251
  a194 := Tryz.isAgg251
  z194 := Tryz.sizeOf251
  v194 := Tryz.zeroValue251
  t196 := Tryz.underlying253
  a196 := Tryz.isAgg253
  z196 := Tryz.sizeOf253
  v196 := Tryz.zeroValue253
  t198 := Tryz.underlying255
  a198 := Tryz.isAgg255
  z198 := Tryz.sizeOf255
  v198 := Tryz.zeroValue255
  t201 := Tryz.underlying258
  a201 := Tryz.isAgg258
  z201 := Tryz.sizeOf258
  v201 := Tryz.zeroValue258
  t226 := Tryz.underlying265
  a226 := Tryz.isAgg265
  z226 := Tryz.sizeOf265
  v226 := Tryz.zeroValue265
  t227 := Tryz.underlying267
  a227 := Tryz.isAgg267
  z227 := Tryz.sizeOf267
  v227 := Tryz.zeroValue267
  g0 := by kernel_rfl
  g6 := by kernel_rfl }
open Go.RowKit Go.Lib in
/-- strings.Fields, the table by 'Lib.TabIs' (as strings.TrimSpace's contract). 'hg': the table's number, by its name: at a dump 'by kernel_rfl'. (LAID: no walk: one application.) -/
theorem Tryz.strings_Fields (s : ByteArray) (w : World) (hs : s.size < 4294967281) (hascii : ∀ (j : Nat) b, s.data.toList[j]? = some b → b.toNat < 128) (htab : Lib.TabIs Tryz.prog w "strings.asciiSpace" .u8 Lib.asciiSpaceTab) :
    Calls Tryz.prog 107 #[.string s] w fun e w' =>
      e = .returned (.slice (some ⟨w.heap.size, 0, none⟩) (Lib.fields s.data.toList).length (Lib.fields s.data.toList).length) ∧ w' = w.alloc (.cells ((Lib.fields s.data.toList).map fun l => Value.string ⟨l.toArray⟩).toArray 9) := Any.strings_Fields Tryz.lays157 (by kernel_rfl) (by kernel_rfl) s w hs hascii htab
end Go.Proofs
/- The configuration over this seat's program, for closed evaluations. Made by program. -/
namespace Go.Ev
open Go.Proofs
set_option maxRecDepth 1000000
def impF : List Nat := [91, 125, 130, 141, 142, 150, 159, 163, 165, 167, 180, 184]
def impC : List (Nat × Nat × Nat) := []
def altF : List Nat := []
def altC : List (Nat × Nat) := []
def nearF : List Nat := []
def nearC : List (Nat × Nat) := []
def keepF : Nat → List Nat
  | 2 => []
  | 3 => [0, 1, 2, 4, 6, 3, 36, 9, 5, 10, 11, 13, 12, 14, 15, 17, 16, 18, 19, 21, 20, 22, 23, 25, 24, 26, 8]
  | 4 => [42, 1, 3, 5, 7, 9, 11, 13, 15, 17, 19, 21, 23, 22, 0]
  | 5 => [0, 1, 3, 4, 7, 35, 9, 11, 8, 10, 63, 66, 65, 67, 64, 12, 14, 15, 17, 13, 16, 100, 19, 21, 18, 20, 129, 2, 22, 24, 23, 26, 25, 6]
  | 6 => [0, 1, 3, 4, 7, 31, 2, 8, 9, 11, 10, 63, 13, 14, 76, 16, 81, 12, 89, 88, 90, 87, 17, 19, 100, 21, 110, 116, 124, 20, 22, 151, 15, 6]
  | 7 => [0, 1, 4, 5, 9, 31, 2, 3, 12, 10, 11, 14, 16, 13, 15, 90, 18, 19, 103, 20, 21, 22, 17, 125, 8]
  | 8 => [0, 1, 3, 4, 7, 26, 2, 9, 35, 36, 37, 11, 8, 13, 12, 58, 10, 14, 65, 66, 64, 17, 15, 103, 6]
  | 9 => [0, 1, 4, 5, 9, 40, 2, 3, 10, 12, 14, 11, 13, 15, 17, 19, 21, 23, 25, 22, 24, 135, 18, 138, 137, 139, 136, 26, 20, 28, 146, 150, 149, 151, 148, 30, 158, 16, 31, 8]
  | 10 => [0, 1, 5, 6, 11, 44, 13, 12, 56, 2, 3, 4, 16, 17, 18, 19, 20, 21, 22, 26, 24, 15, 23, 25, 27, 29, 31, 14, 28, 166, 169, 32, 33, 35, 191, 30, 34, 10]
  | 11 => [0, 1, 4, 5, 9, 45, 2, 3, 11, 13, 15, 74, 10, 12, 17, 97, 16, 99, 19, 14, 18, 23, 22, 21, 20, 8]
  | 12 => [0, 1, 2, 4, 6, 5, 9, 42, 3, 10, 11, 13, 15, 72, 19, 88, 17, 14, 12, 18, 21, 20, 126, 130, 129, 131, 128, 23, 139, 16, 8]
  | 13 => [0, 1, 2, 3, 4, 5, 24, 23, 25, 22, 9, 34, 7, 11, 13, 15, 17, 10, 12, 96, 14, 16, 6]
  | 14 => [0, 1, 2, 3, 4, 5, 7, 34, 9, 13, 11, 71, 73, 8, 12, 85, 84, 86, 83, 14, 16, 97, 98, 10, 109, 123, 140, 6]
  | 15 => [0, 1, 9, 3, 14, 24, 4, 33, 46, 5, 58, 74, 2]
  | 16 => [0, 1, 2]
  | 17 => [0, 6, 3, 10, 17, 2]
  | 18 => [0, 4, 1, 11, 6, 29, 5, 3, 2]
  | 19 => [0, 1, 2, 3, 4, 8, 17, 5, 9, 23, 11, 33, 12, 39, 45, 51, 6, 7]
  | 20 => [0, 1, 2, 3, 4, 8, 14, 5, 18, 23, 9, 29, 35, 41, 6, 7]
  | 21 => [0, 1, 2, 6, 14, 3, 7, 20, 26, 25, 27, 24, 8, 10, 4, 5]
  | 22 => [0, 1, 2, 6, 20, 3, 24, 11, 7, 9, 13, 52, 16, 14, 67, 78, 12, 15, 4, 5]
  | 23 => [0, 1, 3, 4, 8, 23, 2, 9, 28, 10, 36, 35, 37, 34, 11, 13, 45, 44, 46, 43, 15, 54, 53, 55, 52, 18, 60, 16, 6, 7]
  | 24 => [0, 1, 3, 4, 9, 22, 2, 10, 27, 12, 8, 32, 14, 38, 13, 54, 11, 6, 7]
  | 25 => [0, 4, 10, 14, 13, 15, 6, 24, 5, 2, 3]
  | 26 => [0, 4, 12, 6, 17, 8, 22, 7, 37, 5, 2, 3]
  | 27 => [0, 1, 10, 5, 14, 25, 4]
  | 28 => [0, 1, 10, 5, 14, 25, 4]
  | 29 => [0, 1, 2, 3, 15, 5, 20, 6, 7, 46, 8, 51, 65, 4]
  | 30 => [0, 1, 10, 5, 14, 25, 4]
  | 31 => [3, 2, 1, 4, 6, 5, 8, 7, 10, 9, 12, 11, 14, 13, 16, 15, 0]
  | 32 => [0, 1, 5, 12, 11, 2, 3, 4, 10]
  | 33 => [0, 1, 2, 6]
  | 34 => [0]
  | 35 => [0, 1, 2, 3, 4, 5, 9, 21, 6, 8, 25, 31, 30, 32, 29, 12, 56, 58, 59, 10, 65, 7]
  | 36 => [0]
  | 37 => [0, 1, 2, 3, 4, 8, 15, 6, 5, 10, 25, 7]
  | 38 => [0, 2]
  | 39 => [0, 1, 2, 3, 4, 5, 10, 18, 6, 12, 27, 7, 36, 13, 11, 40, 8, 9]
  | 40 => [0, 1, 2, 3, 6, 12, 4, 5]
  | 41 => [0, 1, 5, 2]
  | 42 => [0, 1, 2, 3, 4]
  | 43 => [0, 1, 2, 3, 6, 11, 4, 5]
  | 44 => [0, 1, 5, 13, 4, 16, 17, 18, 6, 2, 3]
  | 45 => [0, 1, 2, 7, 16, 4, 5, 6, 20, 21, 22, 8, 3, 25, 9]
  | 46 => [0, 1, 2, 7, 14, 6, 3, 19, 4, 5]
  | 47 => [0, 2, 7, 6, 20, 4, 1, 8, 9, 5]
  | 48 => [0, 1, 4, 6, 2]
  | 49 => [0, 1, 15, 14, 16, 13, 5, 20, 3, 2]
  | 50 => [0, 2, 1, 9, 8, 20, 10, 29, 6, 7, 4, 5]
  | 51 => [0, 7, 9, 11, 10, 5, 14, 3, 2]
  | 52 => [0, 7, 9, 8, 5, 4, 17, 3, 2]
  | 53 => [0, 1, 2, 4, 3]
  | 54 => [0, 2, 7, 14, 1, 18, 6, 4, 5]
  | 55 => [1, 0, 9, 8, 10, 7, 6, 3, 15, 4]
  | 56 => [0, 1, 12, 3, 17, 4, 35, 5, 38, 49, 6, 54, 64, 7, 72, 84, 2]
  | 57 => [0, 1, 7, 3, 12, 22, 2]
  | 58 => [0, 1, 3, 18, 5, 23, 2, 6, 34, 70, 7, 75, 8, 86, 96, 4]
  | 59 => [0, 1, 2, 3, 7, 15, 4, 6, 5]
  | 60 => [0, 1, 2, 3, 4, 9, 19, 8, 5, 24, 28, 27, 29, 26, 11, 40, 6, 7]
  | 61 => [0, 1, 2, 3, 9, 19, 4]
  | 62 => [0, 1, 2, 3, 6, 5, 4]
  | 63 => [0, 1, 2, 5, 9, 3, 4]
  | 64 => [0, 7, 6, 8, 5, 4, 26, 2]
  | 65 => [0, 1, 2, 3, 4, 5, 7, 6]
  | 66 => [0, 1, 2, 5, 9, 3, 4]
  | 67 => [0, 1, 2, 3, 5, 8, 9, 7, 13, 38, 14, 45, 15, 4, 12, 62, 10, 11, 18, 105, 107, 114, 17, 16, 121, 6]
  | 68 => [0, 1, 4, 2]
  | 69 => [0, 1, 2, 10, 9, 11, 5, 3, 6, 4]
  | 70 => [0, 1, 3, 5, 2, 6, 28, 27, 29, 8, 40, 7, 4]
  | 71 => [0, 1, 5, 2]
  | 72 => [0, 8, 11, 5, 16, 22, 4, 6, 42, 50, 2, 3]
  | 73 => [0, 1, 10, 5, 14, 25, 4]
  | 74 => [0, 5, 2]
  | 75 => [0, 1, 2, 3, 13, 12, 14, 11, 7, 20, 19, 21, 5, 8, 4]
  | 76 => [0, 1, 2, 3, 6, 14, 9, 8, 21, 7, 4, 5]
  | 77 => [0, 6, 3, 10, 18, 2]
  | 78 => [1, 0, 3, 4]
  | 79 => [0, 1, 2, 7, 16, 4, 5, 6, 19, 20, 21, 9, 3, 24, 8]
  | 80 => [0, 8, 7, 9, 6, 5, 3, 14, 2]
  | 81 => [0, 1, 4]
  | 82 => [0, 1, 2, 3, 4]
  | 83 => [0, 1, 2]
  | 84 => [0, 1, 2]
  | 85 => [0, 1, 6, 2, 3]
  | 86 => [0, 1, 2]
  | 87 => [0, 1, 3, 2, 4]
  | 88 => [0, 1, 3, 2, 13, 5, 27, 4]
  | 89 => [3, 0, 7, 19, 2]
  | 90 => [0, 9, 12, 11, 13, 3, 24, 2]
  | 91 => [0, 1, 8, 9, 10, 3, 5, 4, 2]
  | 92 => [0, 1, 2, 6]
  | 93 => [0, 1, 2, 3, 6, 15, 17, 18, 5, 32, 45, 4]
  | 94 => [0, 1, 4, 2, 3, 11, 10, 27, 33, 13, 5, 42, 14, 68, 71, 9, 12, 80, 8]
  | 95 => [0, 1, 2, 7, 14, 4, 6, 3, 20, 5]
  | 96 => [0, 1, 2, 15, 14, 16, 13, 5, 7, 29, 30, 31, 8, 10, 9, 3, 4]
  | 97 => [0, 1, 3, 2, 28, 4, 5]
  | 98 => [0, 2]
  | 99 => [0, 5, 2, 8, 10, 11, 3, 14]
  | 100 => [0, 1, 4, 3, 2, 21, 20, 22, 19, 9, 28, 27, 29, 26, 7, 11, 8, 10, 6]
  | 101 => [0, 2, 1, 5, 4]
  | 102 => [1, 0, 8, 7, 9, 3, 5, 16, 4]
  | 103 => [0, 1, 5, 2]
  | 104 => [1, 0, 5, 3, 11, 4]
  | 105 => [0, 4, 11, 3, 2]
  | 106 => [4, 0, 8, 12, 3, 2]
  | 107 => [6, 0, 16, 5, 7, 3, 4, 8, 37, 12, 53, 60, 66, 9, 10, 11, 91, 98, 2]
  | 108 => [0, 11, 10, 12, 9, 3, 5, 20, 27, 26, 28, 25, 6, 8, 2]
  | 109 => [0, 1, 10, 13, 12, 14, 5, 24, 4]
  | 110 => [0, 4, 1, 11, 5, 22, 6, 36, 3, 2]
  | 111 => [1, 0, 8, 7, 9, 3, 5, 16, 4]
  | 112 => [0, 1, 4]
  | 113 => [0, 1, 5, 11, 6, 12, 13, 16, 19, 4]
  | 114 => [0, 1, 9, 8, 10, 7, 6, 2, 22, 4]
  | 115 => [0, 1, 2, 6]
  | 116 => [0, 1, 11, 15, 14, 16, 13, 4, 3, 38, 2]
  | 117 => [0, 1, 8, 9, 10, 4, 13, 12, 14, 11, 5, 3, 2, 6, 24]
  | 118 => [0, 1, 2]
  | 119 => [1, 0, 4]
  | 120 => [0, 1, 9, 8, 10, 7, 6, 2, 22, 4]
  | 121 => [0, 1, 3, 2, 30, 35, 36, 37, 5, 7, 4]
  | 122 => [0, 1, 15, 14, 16, 13, 6, 8, 9, 5, 4]
  | 123 => [1, 0, 11, 10, 12, 9, 7, 8, 3, 24, 5, 4]
  | 124 => [0, 1, 12, 21, 6, 34, 5, 4]
  | 125 => [0, 1, 4]
  | 126 => [0, 2, 1, 5, 4]
  | 127 => [0, 12, 13, 15, 1, 22, 29, 5, 41, 40, 42, 39, 7, 49, 8, 65, 64, 66, 63, 10, 4]
  | 128 => [0, 14, 16, 15, 1, 8, 21, 6, 23, 5, 7, 33, 36, 49, 48, 50, 47, 9, 10, 11, 4]
  | 129 => [0, 5, 6, 7, 2]
  | 130 => [1, 6, 0, 16, 4]
  | 132 => [0, 2]
  | 133 => [0, 2]
  | 134 => [1, 0, 3, 4]
  | 135 => [0, 12, 15, 14, 16, 4, 25, 31, 30, 32, 29, 6, 37, 3, 2]
  | 136 => [1, 10, 9, 11, 8, 4, 18, 17, 19, 0, 3, 5, 31]
  | 137 => [0, 1, 12, 11, 13, 10, 2, 7, 8, 5, 42, 4]
  | 138 => [3, 0, 9, 4, 5, 38, 2]
  | 139 => [0, 2]
  | 140 => [0]
  | 141 => [0, 2, 1, 4]
  | 142 => [0, 2, 1, 4]
  | 143 => [0, 1, 13, 4]
  | 144 => [0, 1, 16, 4]
  | 145 => [4, 0, 9, 5, 16, 2, 3]
  | 146 => [0, 7, 1, 12, 4]
  | 147 => [0, 7, 1, 15, 4]
  | 148 => [0, 9, 1, 5, 18, 6, 4]
  | 149 => [0, 9, 5, 17, 1, 26, 6, 4]
  | 150 => [0, 1, 2, 4, 3, 5, 6]
  | 151 => [0]
  | 152 => [1, 0, 8, 9, 6, 3, 7, 5, 17, 4]
  | 153 => [0, 1, 3, 2, 4]
  | 154 => [0, 1, 3, 4, 10, 2, 5]
  | 155 => [0, 1, 7, 21]
  | 156 => [0, 1, 4, 5]
  | 157 => [0, 2]
  | 158 => [0, 5, 6, 1, 32, 7, 54, 4]
  | 159 => [0, 1, 4]
  | 160 => [0, 2, 1, 3]
  | 161 => [0, 1, 2, 3, 4]
  | 162 => [1, 3, 0, 4]
  | 163 => [0, 2, 4]
  | 164 => [1, 0, 3, 4]
  | 165 => [0, 2, 1, 4]
  | 166 => [1, 3, 0, 4]
  | 167 => [0, 2, 1, 4]
  | 168 => [0, 1, 4]
  | 169 => [0, 10, 2, 3]
  | 170 => [0, 1, 4]
  | 171 => [0, 4, 10, 5, 2, 18, 6, 27, 33, 35, 3, 48]
  | 172 => [1, 11, 2, 14, 0, 6, 25, 7, 33, 3, 8, 42]
  | 173 => [0, 1, 4]
  | 174 => [0, 1, 2, 3, 4]
  | 175 => [0, 1, 2, 3, 4]
  | 176 => [0, 1, 2, 3, 9, 4]
  | 177 => [0, 1, 2]
  | 178 => [1, 10, 9, 11, 4, 2, 5, 28, 27, 29, 7, 32, 6, 46, 0, 53]
  | 179 => [0, 6, 1, 4]
  | 180 => [0, 6, 19]
  | 181 => [0, 1, 4]
  | 182 => [0, 1, 17, 20, 19, 21, 5, 6, 31, 37, 7, 8, 62, 9, 10, 85, 110, 4]
  | 183 => [0, 13, 16, 15, 17, 5, 1, 6, 27, 33, 7, 8, 58, 9, 10, 78, 95, 4]
  | 184 => [0, 8, 7, 9, 1, 5, 16, 4]
  | 185 => [0, 4, 16, 5, 6, 23, 7, 8, 45, 10, 9, 57, 59, 11, 75, 77, 12, 98, 2, 3]
  | 186 => [1, 160, 0, 171, 175, 177, 176, 6, 181, 5, 183, 7, 8, 9, 26, 33, 11, 43, 12, 51, 64, 10, 98, 13, 108, 124, 14, 15, 139, 16, 143, 156, 4]
  | 187 => [0, 2]
  | 188 => [1, 5, 0, 16, 24, 31, 36, 8, 9, 59, 6, 64, 11, 73, 7, 93, 10, 107, 12, 114, 132, 13, 139, 4]
  | 191 => [0, 1, 4]
  | 192 => [0, 3, 10, 2]
  | 193 => [0, 2]
  | 195 => [0, 1, 4]
  | 196 => [1, 9, 7, 20, 8, 0, 5, 39, 10, 44, 6, 77, 4]
  | 198 => [5, 0, 12, 4, 8, 25, 30, 6, 7, 2, 3]
  | 226 => []
  | _ => []
def isImp (me f : Nat) (d : Option Nat) : Bool := impF.any (Nat.beq f) || impC.any fun t => Nat.beq t.1 me && Nat.beq t.2.1 f && (match d with | some d => Nat.beq t.2.2 d | none => false)
noncomputable def CC : Cfg := { P := Tryz.prog, pure := fun me f d => !(isImp me f d), alter := fun me d => altF.any (Nat.beq me) || (match d with | some d => altC.any fun t => Nat.beq t.1 me && Nat.beq t.2 d | none => false), keep := keepF, ext := fun f' => if Nat.beq f' 107 then some fieldsA else if Nat.beq f' 127 then some joinStr else if Nat.beq f' 197 then some idxStr else if Nat.beq f' 131 then some cmpStr else none }
theorem mixedC : CC.P.follows .mixedOrders = true := by show Tryz.prog.follows .mixedOrders = true; kernel_rfl
theorem nogo_allC : (Tryz.prog.funcs.toList.all fun fn => !(fn.body.isSome && (fn.name == "runtime.NumGoroutine"))) = true := by kernel_rfl
theorem nogoC : NoGo CC.P := by
  intro f fn hf hb
  have h := List.all_eq_true.1 nogo_allC fn (by
    have : Tryz.prog.funcs[f]? = some fn := hf
    exact List.mem_of_getElem? (by simpa using this))
  rw [hb] at h
  simpa using h
theorem extOKZ : ExtOK { CC with ext := fun _ => none, exh := fun _ => none } := by
  exact ⟨fun _ _ h => (nomatch h), fun _ _ h => (nomatch h), fun _ _ h => (nomatch h)⟩
theorem extOKN : ExtOK (CC.more fun _ => none) := extOKZ
theorem extOKE0 : ExtOK (CC.more (fun f' => if Nat.beq f' 131 then some cmpStr else none)) := by
  refine extOK_more (C := CC.more (fun _ => none)) (f := 131) (g := cmpStr) rfl ?_ extOKN rfl
  intro args v h Z ρ H w vals hs hl
  exact ext_cmp (fn := Tryz.f131) Tryz.func131 (by kernel_rfl) (by kernel_rfl) (by kernel_rfl) (by kernel_rfl) h Z ρ H w vals hs hl
theorem extOKE1 : ExtOK (CC.more (fun f' => if Nat.beq f' 197 then some idxStr else if Nat.beq f' 131 then some cmpStr else none)) := by
  refine extOK_more (C := CC.more (fun f' => if Nat.beq f' 131 then some cmpStr else none)) (f := 197) (g := idxStr) rfl ?_ extOKE0 rfl
  intro args v h Z ρ H w vals hs hl
  exact ext_idx (fn := Tryz.f197) Tryz.func197 (by kernel_rfl) (by kernel_rfl) (by kernel_rfl) (by kernel_rfl) h Z ρ H w vals hs hl
theorem extOKE2 : ExtOK (CC.more (fun f' => if Nat.beq f' 127 then some joinStr else if Nat.beq f' 197 then some idxStr else if Nat.beq f' 131 then some cmpStr else none)) := by
  refine extOK_more (C := CC.more (fun f' => if Nat.beq f' 197 then some idxStr else if Nat.beq f' 131 then some cmpStr else none)) (f := 127) (g := joinStr) rfl ?_ extOKE1 rfl
  intro args v h Z ρ H w vals hs hl
  exact ext_join Go.Proofs.Tryz.lays156 Go.Proofs.Tryz.Builder_Extra_156 (f := 127) rfl ⟨_, Tryz.func127, by kernel_rfl, by kernel_rfl⟩ h Z ρ H w vals hs hl
theorem extOKE3 : ExtOK (CC.more (fun f' => if Nat.beq f' 107 then some fieldsA else if Nat.beq f' 127 then some joinStr else if Nat.beq f' 197 then some idxStr else if Nat.beq f' 131 then some cmpStr else none)) := by
  refine extOK_more (C := CC.more (fun f' => if Nat.beq f' 127 then some joinStr else if Nat.beq f' 197 then some idxStr else if Nat.beq f' 131 then some cmpStr else none)) (f := 107) (g := fieldsA) rfl ?_ extOKE2 rfl
  intro args v h Z ρ H w vals hs hl
  exact ext_fields Go.Proofs.Tryz.lays157 (by kernel_rfl) (by kernel_rfl) (List.mem_singleton.2 rfl) (f := 107) rfl ⟨_, Tryz.func107, by kernel_rfl, by kernel_rfl⟩ h Z ρ H w vals hs hl
theorem extOKC : ExtOK CC := extOKE3
abbrev Good (t : Tell) : Prop := GoodC CC t
abbrev GoodM (t : TellH) : Prop := GoodH CC t
theorem good {t : Tell} (T : List Tell) (hT : AllG CC T) (TH : List TellH) (hH : AllH CC TH) (h : ansC (evT (CC.more2 (tabExt CC.ext T) (tabExh CC.exh T TH)) 1000 (.call t.f t.K { objs := [], lock := 0 })) = some t.R) (hb : boundL t.K = 0) : Good t :=
  goodC nogoC mixedC extOKC T hT TH hH 1000 h hb
theorem goodm {t : TellH} (T : List Tell) (hT : AllG CC T) (TH : List TellH) (hH : AllH CC TH) (h : ansH t.G.length (evT (CC.more2 (tabExt CC.ext T) (tabExh CC.exh T TH)) 1000 (.call t.f t.K { objs := t.G, lock := t.G.length })) = some t.R) (hb : (Nat.beq (boundL t.K) 0 || t.K.any isYld) = false) : GoodM t :=
  goodH nogoC mixedC extOKC T hT TH hH 1000 h hb
end Go.Ev
/- Values that are met. Made by program. -/
namespace Go.Ev
set_option maxRecDepth 1000000
def q0 : AV := .v (.string ⟨⟨[116,104,101]⟩⟩)
def q1 : AV := .v (.string ⟨⟨[115,101,97]⟩⟩)
def q2 : AV := .v (.string ⟨⟨[105,115]⟩⟩)
def q3 : AV := .v (.string ⟨⟨[111,108,100]⟩⟩)
def q4 : AV := .vs 1 [q0, q1, q2, q3] (some 4)
def q5 : AV := .vs 1 [q3, q0, q1] (some 3)
def q6 : AV := .vs 1 [q4, q5] (some 2)
def q7 : AV := .v (.string ⟨⟨[97,110,100]⟩⟩)
def q8 : AV := .vs 1 [q1, q7, q1] (some 3)
def q9 : AV := .vs 1 [q8] (some 1)
def q10 : AV := .v (.int .i64 7)
def q11 : AV := .v (.int .i64 3)
def q12 : AV := .agg [.vs 2 [.agg [q10, q6], .agg [q11, q9]] (some 2)]
def q13 : AV := .v (.int .i64 0)
def q14 : AV := .tup [q12, q13]
def q15 : AV := .v (.int .i64 14)
def q16 : AV := .v (.int .u8 3)
def q17 : AV := .agg [q15, q16]
def q18 : AV := .vs 1 [q0, q1, q2, q3, q3, q0, q1] none
def q19 : AV := .agg [q13, q13, q13]
def q20 : AV := .v (.int .i64 1)
def q21 : AV := .agg [q13, q13, q20]
def q22 : AV := .v (.int .i64 2)
def q23 : AV := .agg [q13, q13, q22]
def q24 : AV := .agg [q13, q13, q11]
def q25 : AV := .agg [q13, q20, q13]
def q26 : AV := .agg [q13, q20, q20]
def q27 : AV := .agg [q13, q20, q22]
def q28 : AV := .vs 3 [q19, q21, q23, q24, q25, q26, q27] none
def q29 : AV := .agg [q15, q16, q18, q28]
def q30 : AV := .vs 1 [q1, q7, q1] none
def q31 : AV := .agg [q20, q13, q13]
def q32 : AV := .agg [q20, q13, q20]
def q33 : AV := .agg [q20, q13, q22]
def q34 : AV := .vs 3 [q31, q32, q33] none
def q35 : AV := .agg [q15, q16, q30, q34]
def q36 : AV := .agg [q13, q11, q15]
def q37 : AV := .v (.string ⟨⟨[]⟩⟩)
def q38 : AV := .v (.string ⟨⟨[115,101,97,32,105,115,32,111,108,100]⟩⟩)
def q39 : AV := .agg [q13, q13, q13, q0, q37, q38]
def q40 : AV := .agg [q20, q22, q15]
def q41 : AV := .v (.string ⟨⟨[105,115,32,111,108,100]⟩⟩)
def q42 : AV := .agg [q13, q13, q20, q1, q0, q41]
def q43 : AV := .agg [q22, q20, q15]
def q44 : AV := .v (.string ⟨⟨[111,108,100,32,111,108,100]⟩⟩)
def q45 : AV := .agg [q13, q13, q22, q2, q1, q44]
def q46 : AV := .agg [q11, q13, q15]
def q47 : AV := .v (.string ⟨⟨[111,108,100,32,116,104,101]⟩⟩)
def q48 : AV := .agg [q13, q13, q11, q3, q2, q47]
def q49 : AV := .v (.int .i64 11)
def q50 : AV := .agg [q20, q20, q49]
def q51 : AV := .agg [q13, q22, q49]
def q52 : AV := .v (.int .i64 4)
def q53 : AV := .agg [q13, q20, q13, q3, q41, q0]
def q54 : AV := .agg [q22, q13, q49]
def q55 : AV := .v (.int .i64 5)
def q56 : AV := .v (.string ⟨⟨[105,115,32,111,108,100,32,111,108,100]⟩⟩)
def q57 : AV := .agg [q13, q20, q20, q0, q56, q37]
def q58 : AV := .v (.int .i64 6)
def q59 : AV := .agg [q13, q20, q22, q1, q47, q37]
def q60 : AV := .v (.string ⟨⟨[97,110,100,32,115,101,97]⟩⟩)
def q61 : AV := .agg [q20, q13, q13, q1, q37, q60]
def q62 : AV := .agg [q20, q13, q20, q7, q1, q1]
def q63 : AV := .v (.string ⟨⟨[115,101,97,32,97,110,100]⟩⟩)
def q64 : AV := .agg [q20, q13, q22, q1, q63, q37]
def q65 : AV := .vs 6 [q39, q42, q45, q48, q53, q57, q59, q61, q62, q64] none
def q66 : AV := .vs 6 [q59, q61] none
def q67 : AV := .v (.string ⟨⟨[97,98,99,100,101,102,103,104,105,106,107,108,109,110,111,112,113,114,115,116,117,118,119,120,121,122]⟩⟩)
def q68 : AV := .agg [q13, q13, q13, q1, q0, q37]
def q69 : AV := .v (.int .u8 0)
def q70 : AV := .agg [q13, q69]
def q71 : AV := .agg [q13, q69, q18, q28]
def q72 : AV := .agg [q13, q69, q30, q34]
def q73 : AV := .vs 3 [q21, q27] none
def q74 : AV := .v (.slice none 0 0)
def q75 : AV := .v (.string ⟨⟨[99,111,108,100]⟩⟩)
def q76 : AV := .agg [q13, q13, q11, q16, q75]
def q77 : AV := .v (.int .u8 1)
def q78 : AV := .agg [q13, q20, q20, q77, q37]
def q79 : AV := .agg [q20, q13, q11]
def q80 : AV := .v (.string ⟨⟨[115,97,108,116]⟩⟩)
def q81 : AV := .v (.int .u8 2)
def q82 : AV := .agg [q20, q13, q11, q81, q80]
def q83 : AV := .vs 5 [q76, q78, q82] (some 3)
def q84 : AV := .v (.int .i64 (-1))
def q85 : AV := .vs 5 [q76] none
def q86 : AV := .vs 1 [q0, q1, q2, q75] none
def q87 : AV := .vs 5 [q78] none
def q88 : AV := .vs 1 [q3, q1] none
def q89 : AV := .vs 5 [q82] none
def q90 : AV := .vs 1 [q1, q7, q1, q80] none
def q91 : AV := .agg [q52, q83]
def q92 : AV := .tup [q1, q13]
def q93 : AV := .v (.string ⟨⟨[97]⟩⟩)
def q94 : AV := .v (.string ⟨⟨[98]⟩⟩)
def q95 : AV := .agg [q13, q13, q13, q93, q37, q37]
def q96 : AV := .agg [q13, q13, q13, q94, q37, q37]
def q97 : AV := .agg [q13, q13, q22, q2, q1, q3]
def q98 : AV := .v (.int .u8 4)
def q99 : AV := .vs 6 [q95, q95] (some 2)
def q100 : AV := .agg [q15, q77]
def q101 : AV := .agg [q15, q77, q18, q28]
def q102 : AV := .agg [q13, q20, q13, q3, q38, q37]
def q103 : AV := .agg [q15, q81]
def q104 : AV := .agg [q15, q81, q18, q28]
def q105 : AV := .tup [q53, q13]
def q106 : AV := .agg [q74]
def q107 : AV := .v (.int .i64 10)
def q108 : AV := .v (.int .i64 9)
def q109 : AV := .agg [q108, q108, q108]
def q110 : AV := .agg [q13, q13, q13, q37, q37, q37]
def q111 : AV := .agg [q49, q77]
def q112 : AV := .v (.int .i64 30)
def q113 : AV := .agg [q13, q13, q52]
def q114 : AV := .v (.int .i64 12)
def q115 : AV := .tup [q37, q114]
def q116 : AV := .v (.string ⟨⟨[84,104,101]⟩⟩)
def q117 : AV := .v (.string ⟨⟨[84]⟩⟩)
def q118 : AV := .agg [q13, q13, q13, q116, q37, q37]
def q119 : AV := .v (.int .i64 31)
def q120 : AV := .v (.string ⟨⟨[97,32]⟩⟩)
def q121 : AV := .agg [q13, q13, q13, q0, q37, q120]
def q122 : AV := .agg [q22, q13, q13, q0, q37, q37]
def q123 : AV := .agg [q22, q13, q13]
def q124 : AV := .agg [q114, q98]
def t0 : Tell := ⟨90, [q0], (.v (.bool true))⟩
def t1 : Tell := ⟨90, [q1], (.v (.bool true))⟩
def t2 : Tell := ⟨90, [q2], (.v (.bool true))⟩
def t3 : Tell := ⟨90, [q3], (.v (.bool true))⟩
def t4 : Tell := ⟨135, [q6], (.v (.bool true))⟩
def t5 : Tell := ⟨90, [q7], (.v (.bool true))⟩
def t6 : Tell := ⟨135, [q9], (.v (.bool true))⟩
def t7 : Tell := ⟨116, [q12], (.v (.bool true))⟩
def t8 : Tell := ⟨85, [q12], q14⟩
def t9 : Tell := ⟨68, [q12], q13⟩
def t10 : Tell := ⟨83, [q17], (.v (.bool true))⟩
def t11 : Tell := ⟨41, [q17], q13⟩
def t12 : Tell := ⟨63, [q12, q17], q13⟩
def t13 : Tell := ⟨100, [q12, q17, q13], q29⟩
def t14 : Tell := ⟨100, [q12, q17, q20], q35⟩
def t15 : Tell := ⟨69, [q12, q17], (.vs 4 [q29, q35] none)⟩
def t16 : Tell := ⟨126, [q29, q13], q36⟩
def t17 : Tell := ⟨101, [q29, q13], q39⟩
def t18 : Tell := ⟨176, [q40, q36], (.v (.bool true))⟩
def t19 : Tell := ⟨126, [q29, q20], q40⟩
def t20 : Tell := ⟨101, [q29, q20], q42⟩
def t21 : Tell := ⟨176, [q43, q40], (.v (.bool false))⟩
def t22 : Tell := ⟨126, [q29, q22], q40⟩
def t23 : Tell := ⟨101, [q29, q22], q45⟩
def t24 : Tell := ⟨176, [q46, q40], (.v (.bool false))⟩
def t25 : Tell := ⟨126, [q29, q11], q40⟩
def t26 : Tell := ⟨101, [q29, q11], q48⟩
def t27 : Tell := ⟨176, [q50, q51], (.v (.bool true))⟩
def t28 : Tell := ⟨176, [q46, q43], (.v (.bool false))⟩
def t29 : Tell := ⟨126, [q29, q52], q43⟩
def t30 : Tell := ⟨101, [q29, q52], q53⟩
def t31 : Tell := ⟨176, [.agg [q20, q13, q10], .agg [q13, q20, q10]], (.v (.bool false))⟩
def t32 : Tell := ⟨176, [q54, q50], (.v (.bool false))⟩
def t33 : Tell := ⟨126, [q29, q55], q46⟩
def t34 : Tell := ⟨101, [q29, q55], q57⟩
def t35 : Tell := ⟨126, [q29, q58], q54⟩
def t36 : Tell := ⟨101, [q29, q58], q59⟩
def t37 : Tell := ⟨126, [q35, q13], q51⟩
def t38 : Tell := ⟨101, [q35, q13], q61⟩
def t39 : Tell := ⟨126, [q35, q20], q50⟩
def t40 : Tell := ⟨101, [q35, q20], q62⟩
def t41 : Tell := ⟨126, [q35, q22], q54⟩
def t42 : Tell := ⟨101, [q35, q22], q64⟩
def t43 : Tell := ⟨75, [q12, q17], q65⟩
def t44 : Tell := ⟨43, [q12, q17], (.tup [q65, q13])⟩
def t45 : Tell := ⟨79, [q12, q27], (.tup [q58, q13])⟩
def t46 : Tell := ⟨79, [q12, q31], (.tup [q10, q13])⟩
def t47 : Tell := ⟨39, [q12, q17, q27, q31], (.tup [q66, q13])⟩
def t48 : Tell := ⟨145, [q67], (.tup [.agg [.v (.bool false), .v (.bool false), .v (.bool false), .v (.bool false), .v (.bool false), .v (.bool false), .v (.bool false), .v (.bool false), .v (.bool false), .v (.bool false), .v (.bool false), .v (.bool false), .v (.bool false), .v (.bool false), .v (.bool false), .v (.bool false), .v (.bool false), .v (.bool false), .v (.bool false), .v (.bool false), .v (.bool false), .v (.bool false), .v (.bool false), .v (.bool false), .v (.bool false), .v (.bool false), .v (.bool false), .v (.bool false), .v (.bool false), .v (.bool false), .v (.bool false), .v (.bool false), .v (.bool false), .v (.bool false), .v (.bool false), .v (.bool false), .v (.bool false), .v (.bool false), .v (.bool false), .v (.bool false), .v (.bool false), .v (.bool false), .v (.bool false), .v (.bool false), .v (.bool false), .v (.bool false), .v (.bool false), .v (.bool false), .v (.bool false), .v (.bool false), .v (.bool false), .v (.bool false), .v (.bool false), .v (.bool false), .v (.bool false), .v (.bool false), .v (.bool false), .v (.bool false), .v (.bool false), .v (.bool false), .v (.bool false), .v (.bool false), .v (.bool false), .v (.bool false), .v (.bool false), .v (.bool false), .v (.bool false), .v (.bool false), .v (.bool false), .v (.bool false), .v (.bool false), .v (.bool false), .v (.bool false), .v (.bool false), .v (.bool false), .v (.bool false), .v (.bool false), .v (.bool false), .v (.bool false), .v (.bool false), .v (.bool false), .v (.bool false), .v (.bool false), .v (.bool false), .v (.bool false), .v (.bool false), .v (.bool false), .v (.bool false), .v (.bool false), .v (.bool false), .v (.bool false), .v (.bool false), .v (.bool false), .v (.bool false), .v (.bool false), .v (.bool false), .v (.bool false), .v (.bool true), .v (.bool true), .v (.bool true), .v (.bool true), .v (.bool true), .v (.bool true), .v (.bool true), .v (.bool true), .v (.bool true), .v (.bool true), .v (.bool true), .v (.bool true), .v (.bool true), .v (.bool true), .v (.bool true), .v (.bool true), .v (.bool true), .v (.bool true), .v (.bool true), .v (.bool true), .v (.bool true), .v (.bool true), .v (.bool true), .v (.bool true), .v (.bool true), .v (.bool true), .v (.bool false), .v (.bool false), .v (.bool false), .v (.bool false), .v (.bool false), .v (.bool false), .v (.bool false), .v (.bool false), .v (.bool false), .v (.bool false), .v (.bool false), .v (.bool false), .v (.bool false), .v (.bool false), .v (.bool false), .v (.bool false), .v (.bool false), .v (.bool false), .v (.bool false), .v (.bool false), .v (.bool false), .v (.bool false), .v (.bool false), .v (.bool false), .v (.bool false), .v (.bool false), .v (.bool false), .v (.bool false), .v (.bool false), .v (.bool false), .v (.bool false), .v (.bool false), .v (.bool false), .v (.bool false), .v (.bool false), .v (.bool false), .v (.bool false), .v (.bool false), .v (.bool false), .v (.bool false), .v (.bool false), .v (.bool false), .v (.bool false), .v (.bool false), .v (.bool false), .v (.bool false), .v (.bool false), .v (.bool false), .v (.bool false), .v (.bool false), .v (.bool false), .v (.bool false), .v (.bool false), .v (.bool false), .v (.bool false), .v (.bool false), .v (.bool false), .v (.bool false), .v (.bool false), .v (.bool false), .v (.bool false), .v (.bool false), .v (.bool false), .v (.bool false), .v (.bool false), .v (.bool false), .v (.bool false), .v (.bool false), .v (.bool false), .v (.bool false), .v (.bool false), .v (.bool false), .v (.bool false), .v (.bool false), .v (.bool false), .v (.bool false), .v (.bool false), .v (.bool false), .v (.bool false), .v (.bool false), .v (.bool false), .v (.bool false), .v (.bool false), .v (.bool false), .v (.bool false), .v (.bool false), .v (.bool false), .v (.bool false), .v (.bool false), .v (.bool false), .v (.bool false), .v (.bool false), .v (.bool false), .v (.bool false), .v (.bool false), .v (.bool false), .v (.bool false), .v (.bool false), .v (.bool false), .v (.bool false), .v (.bool false), .v (.bool false), .v (.bool false), .v (.bool false), .v (.bool false), .v (.bool false), .v (.bool false), .v (.bool false), .v (.bool false), .v (.bool false), .v (.bool false), .v (.bool false), .v (.bool false), .v (.bool false), .v (.bool false), .v (.bool false), .v (.bool false), .v (.bool false), .v (.bool false), .v (.bool false), .v (.bool false), .v (.bool false), .v (.bool false), .v (.bool false), .v (.bool false), .v (.bool false), .v (.bool false), .v (.bool false), .v (.bool false), .v (.bool false), .v (.bool false), .v (.bool false), .v (.bool false)], .v (.bool true)])⟩
def t49 : Tell := ⟨124, [q1, q67], q37⟩
def t50 : Tell := ⟨98, [q1], (.v (.bool true))⟩
def t51 : Tell := ⟨124, [q0, q67], q37⟩
def t52 : Tell := ⟨98, [q0], (.v (.bool true))⟩
def t53 : Tell := ⟨99, [q0], (.v (.bool true))⟩
def t54 : Tell := ⟨99, [q37], (.v (.bool true))⟩
def t55 : Tell := ⟨64, [.vs 6 [q68] (some 1)], q13⟩
def t56 : Tell := ⟨100, [q12, q70, q13], q71⟩
def t57 : Tell := ⟨100, [q12, q70, q20], q72⟩
def t58 : Tell := ⟨69, [q12, q70], (.vs 4 [q71, q72] none)⟩
def t59 : Tell := ⟨108, [.vs 1 [.vs 1 [q0] (some 1), .vs 1 [q1] (some 1), .vs 1 [] (some 0)] (some 3)], (.vs 1 [q0, q1] none)⟩
def t60 : Tell := ⟨70, [q71, q68], q73⟩
def t61 : Tell := ⟨70, [q72, q68], q74⟩
def t62 : Tell := ⟨21, [q12, q68], (.tup [q73, q13])⟩
def t63 : Tell := ⟨88, [q12, q24], q4⟩
def t64 : Tell := ⟨90, [q75], (.v (.bool true))⟩
def t65 : Tell := ⟨166, [q4, q76], (.v (.bool true))⟩
def t66 : Tell := ⟨88, [q12, q26], q5⟩
def t67 : Tell := ⟨162, [q5, q78], (.v (.bool true))⟩
def t68 : Tell := ⟨88, [q12, q79], q8⟩
def t69 : Tell := ⟨90, [q80], (.v (.bool true))⟩
def t70 : Tell := ⟨164, [q8, q82], (.v (.bool true))⟩
def t71 : Tell := ⟨137, [q12, q83], (.v (.bool true))⟩
def t72 : Tell := ⟨161, [q24, q26], q84⟩
def t73 : Tell := ⟨161, [q26, q79], q84⟩
def t74 : Tell := ⟨138, [q83], (.v (.bool true))⟩
def t75 : Tell := ⟨123, [q83, q19], q85⟩
def t76 : Tell := ⟨122, [q4, q85], q86⟩
def t77 : Tell := ⟨123, [q83, q25], q87⟩
def t78 : Tell := ⟨122, [q5, q87], q88⟩
def t79 : Tell := ⟨123, [q83, q31], q89⟩
def t80 : Tell := ⟨122, [q8, q89], q90⟩
def t81 : Tell := ⟨96, [q12, q91], (.agg [.vs 2 [.agg [q10, .vs 1 [q86, q88] none], .agg [q11, .vs 1 [q90] none]] none])⟩
def t82 : Tell := ⟨121, [q12, q91], (.v (.bool true))⟩
def t83 : Tell := ⟨95, [q12, q91], q14⟩
def t84 : Tell := ⟨88, [q12, q27], q5⟩
def t85 : Tell := ⟨87, [q12, q27], (.v (.bool true))⟩
def t86 : Tell := ⟨60, [q12, q91, q27], q92⟩
def t87 : Tell := ⟨35, [q12, q91, q27], (.tup [q26, q13])⟩
def t88 : Tell := ⟨124, [q3, q67], q37⟩
def t89 : Tell := ⟨98, [q3], (.v (.bool true))⟩
def t90 : Tell := ⟨99, [q47], (.v (.bool true))⟩
def t91 : Tell := ⟨124, [q7, q67], q37⟩
def t92 : Tell := ⟨98, [q7], (.v (.bool true))⟩
def t93 : Tell := ⟨99, [q60], (.v (.bool true))⟩
def t94 : Tell := ⟨64, [q66], q13⟩
def t95 : Tell := ⟨74, [q66], q13⟩
def t96 : Tell := ⟨23, [q12, q17, q66], (.tup [.vs 3 [q19, q21, q23, q24, q25, q26, q32, q33] none, q13])⟩
def t97 : Tell := ⟨124, [q93, q67], q37⟩
def t98 : Tell := ⟨98, [q93], (.v (.bool true))⟩
def t99 : Tell := ⟨124, [q94, q67], q37⟩
def t100 : Tell := ⟨98, [q94], (.v (.bool true))⟩
def t101 : Tell := ⟨64, [.vs 6 [q95, q96] (some 2)], q13⟩
def t102 : Tell := ⟨82, [q19, q19], q13⟩
def t103 : Tell := ⟨40, [q95, q96], (.tup [q84, q13])⟩
def t104 : Tell := ⟨124, [q2, q67], q37⟩
def t105 : Tell := ⟨98, [q2], (.v (.bool true))⟩
def t106 : Tell := ⟨99, [q1], (.v (.bool true))⟩
def t107 : Tell := ⟨99, [q3], (.v (.bool true))⟩
def t108 : Tell := ⟨64, [.vs 6 [q97] (some 1)], q13⟩
def t109 : Tell := ⟨88, [q12, q23], q4⟩
def t110 : Tell := ⟨87, [q12, q23], (.v (.bool true))⟩
def t111 : Tell := ⟨46, [q12, q23], (.tup [q2, q13])⟩
def t112 : Tell := ⟨102, [q28, q23], q22⟩
def t113 : Tell := ⟨65, [q12, q17, q23], q45⟩
def t114 : Tell := ⟨19, [q12, q17, q97], (.tup [q98, q13])⟩
def t115 : Tell := ⟨64, [q99], q13⟩
def t116 : Tell := ⟨74, [q99], q13⟩
def t117 : Tell := ⟨25, [q99], (.tup [.vs 1 [q20] none, q13])⟩
def t118 : Tell := ⟨37, [q12, q17, q23], (.tup [q45, q13])⟩
def t119 : Tell := ⟨32, [q23, q16, q2, q1, q44], (.v (.bool true))⟩
def t120 : Tell := ⟨83, [q100], (.v (.bool true))⟩
def t121 : Tell := ⟨41, [q100], q13⟩
def t122 : Tell := ⟨63, [q12, q100], q13⟩
def t123 : Tell := ⟨88, [q12, q25], q5⟩
def t124 : Tell := ⟨87, [q12, q25], (.v (.bool true))⟩
def t125 : Tell := ⟨46, [q12, q25], (.tup [q3, q13])⟩
def t126 : Tell := ⟨100, [q12, q100, q13], q101⟩
def t127 : Tell := ⟨102, [q28, q25], q52⟩
def t128 : Tell := ⟨126, [q101, q52], q46⟩
def t129 : Tell := ⟨101, [q101, q52], q102⟩
def t130 : Tell := ⟨65, [q12, q100, q25], q102⟩
def t131 : Tell := ⟨37, [q12, q100, q25], (.tup [q102, q13])⟩
def t132 : Tell := ⟨32, [q25, q77, q3, q38, q37], (.v (.bool true))⟩
def t133 : Tell := ⟨27, [q73, .vs 3 [q21, q27] (some 2)], (.v (.bool true))⟩
def t134 : Tell := ⟨31, [], (.v (.bool true))⟩
def t135 : Tell := ⟨88, [q12, q21], q4⟩
def t136 : Tell := ⟨87, [q12, q21], (.v (.bool true))⟩
def t137 : Tell := ⟨46, [q12, q21], q92⟩
def t138 : Tell := ⟨102, [q28, q21], q20⟩
def t139 : Tell := ⟨65, [q12, q17, q21], q42⟩
def t140 : Tell := ⟨37, [q12, q17, q21], (.tup [q42, q13])⟩
def t141 : Tell := ⟨32, [q21, q16, q1, q0, q41], (.v (.bool true))⟩
def t142 : Tell := ⟨83, [q103], (.v (.bool true))⟩
def t143 : Tell := ⟨41, [q103], q13⟩
def t144 : Tell := ⟨63, [q12, q103], q13⟩
def t145 : Tell := ⟨100, [q12, q103, q13], q104⟩
def t146 : Tell := ⟨126, [q104, q52], q43⟩
def t147 : Tell := ⟨101, [q104, q52], q53⟩
def t148 : Tell := ⟨65, [q12, q103, q25], q53⟩
def t149 : Tell := ⟨37, [q12, q103, q25], q105⟩
def t150 : Tell := ⟨32, [q25, q81, q3, q41, q0], (.v (.bool true))⟩
def t151 : Tell := ⟨65, [q12, q17, q25], q53⟩
def t152 : Tell := ⟨37, [q12, q17, q25], q105⟩
def t153 : Tell := ⟨32, [q25, q16, q3, q41, q0], (.v (.bool true))⟩
def t154 : Tell := ⟨87, [q12, q26], (.v (.bool true))⟩
def t155 : Tell := ⟨60, [q12, q91, q26], (.tup [q37, q13])⟩
def t156 : Tell := ⟨35, [q12, q91, q26], (.tup [q19, q58])⟩
def t157 : Tell := ⟨116, [q106], (.v (.bool false))⟩
def t158 : Tell := ⟨85, [q106], (.tup [q106, q107])⟩
def t159 : Tell := ⟨68, [q106], q107⟩
def t160 : Tell := ⟨63, [q106, q70], q107⟩
def t161 : Tell := ⟨37, [q106, q70, q109], (.tup [q110, q107])⟩
def t162 : Tell := ⟨83, [q111], (.v (.bool false))⟩
def t163 : Tell := ⟨41, [q111], q112⟩
def t164 : Tell := ⟨63, [q12, q111], q112⟩
def t165 : Tell := ⟨37, [q12, q111, q109], (.tup [q110, q112])⟩
def t166 : Tell := ⟨88, [q12, q113], q4⟩
def t167 : Tell := ⟨87, [q12, q113], (.v (.bool false))⟩
def t168 : Tell := ⟨46, [q12, q113], q115⟩
def t169 : Tell := ⟨37, [q12, q100, q113], (.tup [q110, q114])⟩
def t170 : Tell := ⟨79, [q12, q25], (.tup [q52, q13])⟩
def t171 : Tell := ⟨79, [q12, q19], (.tup [q13, q13])⟩
def t172 : Tell := ⟨39, [q12, q100, q25, q19], (.tup [q74, q22])⟩
def t173 : Tell := ⟨124, [q116, q67], q117⟩
def t174 : Tell := ⟨98, [q116], (.v (.bool false))⟩
def t175 : Tell := ⟨64, [.vs 6 [q118] (some 1)], q119⟩
def t176 : Tell := ⟨19, [q12, q100, q118], (.tup [q69, q119])⟩
def t177 : Tell := ⟨98, [q37], (.v (.bool false))⟩
def t178 : Tell := ⟨99, [q120], (.v (.bool false))⟩
def t179 : Tell := ⟨64, [.vs 6 [q121] (some 1)], q119⟩
def t180 : Tell := ⟨21, [q12, q121], (.tup [q74, q119])⟩
def t181 : Tell := ⟨64, [.vs 6 [q110, q95] (some 2)], q119⟩
def t182 : Tell := ⟨40, [q110, q95], (.tup [q13, q119])⟩
def t183 : Tell := ⟨64, [.vs 6 [q122] (some 1)], q13⟩
def t184 : Tell := ⟨88, [q12, q123], q74⟩
def t185 : Tell := ⟨87, [q12, q123], (.v (.bool false))⟩
def t186 : Tell := ⟨46, [q12, q123], q115⟩
def t187 : Tell := ⟨19, [q12, q100, q122], (.tup [q77, q13])⟩
def t188 : Tell := ⟨83, [q124], (.v (.bool false))⟩
def t189 : Tell := ⟨41, [q124], q112⟩
end Go.Ev
/- What calls answer that are met. Made by program. -/
namespace Go.Ev
set_option maxRecDepth 1000000
/- postil/leaf.isWord -/
theorem g0 : Good t0 := good [] trivial [] trivial (by kernel_rfl) (by kernel_rfl)
/- postil/leaf.isWord -/
theorem g1 : Good t1 := good [] trivial [] trivial (by kernel_rfl) (by kernel_rfl)
/- postil/leaf.isWord -/
theorem g2 : Good t2 := good [] trivial [] trivial (by kernel_rfl) (by kernel_rfl)
/- postil/leaf.isWord -/
theorem g3 : Good t3 := good [] trivial [] trivial (by kernel_rfl) (by kernel_rfl)
/- postil/leaf.isLines -/
theorem g4 : Good t4 := good [t0, t1, t2, t3] ⟨g0, g1, g2, g3, trivial⟩ [] trivial (by kernel_rfl) (by kernel_rfl)
/- postil/leaf.isWord -/
theorem g5 : Good t5 := good [] trivial [] trivial (by kernel_rfl) (by kernel_rfl)
/- postil/leaf.isLines -/
theorem g6 : Good t6 := good [t1, t5] ⟨g1, g5, trivial⟩ [] trivial (by kernel_rfl) (by kernel_rfl)
/- postil/leaf.isText -/
theorem g7 : Good t7 := good [t4, t6] ⟨g4, g6, trivial⟩ [] trivial (by kernel_rfl) (by kernel_rfl)
/- postil/leaf.begin -/
theorem g8 : Good t8 := good [t7] ⟨g7, trivial⟩ [] trivial (by kernel_rfl) (by kernel_rfl)
/- postil/leaf.Check -/
theorem g9 : Good t9 := good [t8] ⟨g8, trivial⟩ [] trivial (by kernel_rfl) (by kernel_rfl)
/- postil/slip.isCut -/
theorem g10 : Good t10 := good [] trivial [] trivial (by kernel_rfl) (by kernel_rfl)
/- postil/slip.Check -/
theorem g11 : Good t11 := good [t10] ⟨g10, trivial⟩ [] trivial (by kernel_rfl) (by kernel_rfl)
/- postil/slip.check -/
theorem g12 : Good t12 := good [t9, t11] ⟨g9, g11, trivial⟩ [] trivial (by kernel_rfl) (by kernel_rfl)
/- postil/slip.runOf -/
theorem g13 : Good t13 := good [] trivial [] trivial (by kernel_rfl) (by kernel_rfl)
/- postil/slip.runOf -/
theorem g14 : Good t14 := good [] trivial [] trivial (by kernel_rfl) (by kernel_rfl)
/- postil/slip.runs -/
theorem g15 : Good t15 := good [t13, t14] ⟨g13, g14, trivial⟩ [] trivial (by kernel_rfl) (by kernel_rfl)
/- (postil/slip.run).context -/
theorem g16 : Good t16 := good [] trivial [] trivial (by kernel_rfl) (by kernel_rfl)
/- (postil/slip.run).slip -/
theorem g17 : Good t17 := good [t16] ⟨g16, trivial⟩ [] trivial (by kernel_rfl) (by kernel_rfl)
/- postil/slip.sides$3 -/
theorem g18 : Good t18 := good [] trivial [] trivial (by kernel_rfl) (by kernel_rfl)
/- (postil/slip.run).context -/
theorem g19 : Good t19 := good [t18] ⟨g18, trivial⟩ [] trivial (by kernel_rfl) (by kernel_rfl)
/- (postil/slip.run).slip -/
theorem g20 : Good t20 := good [t19] ⟨g19, trivial⟩ [] trivial (by kernel_rfl) (by kernel_rfl)
/- postil/slip.sides$3 -/
theorem g21 : Good t21 := good [] trivial [] trivial (by kernel_rfl) (by kernel_rfl)
/- (postil/slip.run).context -/
theorem g22 : Good t22 := good [t18, t21] ⟨g18, g21, trivial⟩ [] trivial (by kernel_rfl) (by kernel_rfl)
/- (postil/slip.run).slip -/
theorem g23 : Good t23 := good [t22] ⟨g22, trivial⟩ [] trivial (by kernel_rfl) (by kernel_rfl)
/- postil/slip.sides$3 -/
theorem g24 : Good t24 := good [] trivial [] trivial (by kernel_rfl) (by kernel_rfl)
/- (postil/slip.run).context -/
theorem g25 : Good t25 := good [t21, t24] ⟨g21, g24, trivial⟩ [] trivial (by kernel_rfl) (by kernel_rfl)
/- (postil/slip.run).slip -/
theorem g26 : Good t26 := good [t25] ⟨g25, trivial⟩ [] trivial (by kernel_rfl) (by kernel_rfl)
/- postil/slip.sides$3 -/
theorem g27 : Good t27 := good [] trivial [] trivial (by kernel_rfl) (by kernel_rfl)
/- postil/slip.sides$3 -/
theorem g28 : Good t28 := good [] trivial [] trivial (by kernel_rfl) (by kernel_rfl)
/- (postil/slip.run).context -/
theorem g29 : Good t29 := good [t27, t28] ⟨g27, g28, trivial⟩ [] trivial (by kernel_rfl) (by kernel_rfl)
/- (postil/slip.run).slip -/
theorem g30 : Good t30 := good [t29] ⟨g29, trivial⟩ [] trivial (by kernel_rfl) (by kernel_rfl)
/- postil/slip.sides$3 -/
theorem g31 : Good t31 := good [] trivial [] trivial (by kernel_rfl) (by kernel_rfl)
/- postil/slip.sides$3 -/
theorem g32 : Good t32 := good [] trivial [] trivial (by kernel_rfl) (by kernel_rfl)
/- (postil/slip.run).context -/
theorem g33 : Good t33 := good [t31, t32] ⟨g31, g32, trivial⟩ [] trivial (by kernel_rfl) (by kernel_rfl)
/- (postil/slip.run).slip -/
theorem g34 : Good t34 := good [t33] ⟨g33, trivial⟩ [] trivial (by kernel_rfl) (by kernel_rfl)
/- (postil/slip.run).context -/
theorem g35 : Good t35 := good [] trivial [] trivial (by kernel_rfl) (by kernel_rfl)
/- (postil/slip.run).slip -/
theorem g36 : Good t36 := good [t35] ⟨g35, trivial⟩ [] trivial (by kernel_rfl) (by kernel_rfl)
/- (postil/slip.run).context -/
theorem g37 : Good t37 := good [] trivial [] trivial (by kernel_rfl) (by kernel_rfl)
/- (postil/slip.run).slip -/
theorem g38 : Good t38 := good [t37] ⟨g37, trivial⟩ [] trivial (by kernel_rfl) (by kernel_rfl)
/- (postil/slip.run).context -/
theorem g39 : Good t39 := good [t31] ⟨g31, trivial⟩ [] trivial (by kernel_rfl) (by kernel_rfl)
/- (postil/slip.run).slip -/
theorem g40 : Good t40 := good [t39] ⟨g39, trivial⟩ [] trivial (by kernel_rfl) (by kernel_rfl)
/- (postil/slip.run).context -/
theorem g41 : Good t41 := good [] trivial [] trivial (by kernel_rfl) (by kernel_rfl)
/- (postil/slip.run).slip -/
theorem g42 : Good t42 := good [t41] ⟨g41, trivial⟩ [] trivial (by kernel_rfl) (by kernel_rfl)
/- postil/slip.slips -/
theorem g43 : Good t43 := good [t15, t17, t20, t23, t26, t30, t34, t36, t38, t40, t42] ⟨g15, g17, g20, g23, g26, g30, g34, g36, g38, g40, g42, trivial⟩ [] trivial (by kernel_rfl) (by kernel_rfl)
/- postil/slip.All -/
theorem g44 : Good t44 := good [t12, t43] ⟨g12, g43, trivial⟩ [] trivial (by kernel_rfl) (by kernel_rfl)
/- postil/leaf.Number -/
theorem g45 : Good t45 := good [t8] ⟨g8, trivial⟩ [] trivial (by kernel_rfl) (by kernel_rfl)
/- postil/leaf.Number -/
theorem g46 : Good t46 := good [t8] ⟨g8, trivial⟩ [] trivial (by kernel_rfl) (by kernel_rfl)
/- postil/slip.Part -/
theorem g47 : Good t47 := good [t12, t43, t45, t46] ⟨g12, g43, g45, g46, trivial⟩ [] trivial (by kernel_rfl) (by kernel_rfl)
/- strings.makeASCIISet -/
theorem g48 : Good t48 := good [] trivial [] trivial (by kernel_rfl) (by kernel_rfl)
/- strings.Trim -/
theorem g49 : Good t49 := good [t48] ⟨g48, trivial⟩ [] trivial (by kernel_rfl) (by kernel_rfl)
/- postil/slip.isWord -/
theorem g50 : Good t50 := good [t49] ⟨g49, trivial⟩ [] trivial (by kernel_rfl) (by kernel_rfl)
/- strings.Trim -/
theorem g51 : Good t51 := good [t48] ⟨g48, trivial⟩ [] trivial (by kernel_rfl) (by kernel_rfl)
/- postil/slip.isWord -/
theorem g52 : Good t52 := good [t51] ⟨g51, trivial⟩ [] trivial (by kernel_rfl) (by kernel_rfl)
/- postil/slip.isSide -/
theorem g53 : Good t53 := good [t52] ⟨g52, trivial⟩ [] trivial (by kernel_rfl) (by kernel_rfl)
/- postil/slip.isSide -/
theorem g54 : Good t54 := good [] trivial [] trivial (by kernel_rfl) (by kernel_rfl)
/- postil/slip.checkSlips -/
theorem g55 : Good t55 := good [t50, t53, t54] ⟨g50, g53, g54, trivial⟩ [] trivial (by kernel_rfl) (by kernel_rfl)
/- postil/slip.runOf -/
theorem g56 : Good t56 := good [] trivial [] trivial (by kernel_rfl) (by kernel_rfl)
/- postil/slip.runOf -/
theorem g57 : Good t57 := good [] trivial [] trivial (by kernel_rfl) (by kernel_rfl)
/- postil/slip.runs -/
theorem g58 : Good t58 := good [t56, t57] ⟨g56, g57, trivial⟩ [] trivial (by kernel_rfl) (by kernel_rfl)
/- slices.Concat[[]string,string] -/
theorem g59 : Good t59 := good [] trivial [] trivial (by kernel_rfl) (by kernel_rfl)
/- (postil/slip.run).from -/
theorem g60 : Good t60 := good [t59] ⟨g59, trivial⟩ [] trivial (by kernel_rfl) (by kernel_rfl)
/- (postil/slip.run).from -/
theorem g61 : Good t61 := good [t59] ⟨g59, trivial⟩ [] trivial (by kernel_rfl) (by kernel_rfl)
/- postil/slip.Where -/
theorem g62 : Good t62 := good [t9, t55, t58, t60, t61] ⟨g9, g55, g58, g60, g61, trivial⟩ [] trivial (by kernel_rfl) (by kernel_rfl)
/- (postil/leaf.text).lineOf -/
theorem g63 : Good t63 := good [] trivial [] trivial (by kernel_rfl) (by kernel_rfl)
/- postil/leaf.isWord -/
theorem g64 : Good t64 := good [] trivial [] trivial (by kernel_rfl) (by kernel_rfl)
/- postil/leaf.kinds$5 -/
theorem g65 : Good t65 := good [t64] ⟨g64, trivial⟩ [] trivial (by kernel_rfl) (by kernel_rfl)
/- (postil/leaf.text).lineOf -/
theorem g66 : Good t66 := good [] trivial [] trivial (by kernel_rfl) (by kernel_rfl)
/- postil/leaf.kinds$1 -/
theorem g67 : Good t67 := good [] trivial [] trivial (by kernel_rfl) (by kernel_rfl)
/- (postil/leaf.text).lineOf -/
theorem g68 : Good t68 := good [] trivial [] trivial (by kernel_rfl) (by kernel_rfl)
/- postil/leaf.isWord -/
theorem g69 : Good t69 := good [] trivial [] trivial (by kernel_rfl) (by kernel_rfl)
/- postil/leaf.kinds$3 -/
theorem g70 : Good t70 := good [t69] ⟨g69, trivial⟩ [] trivial (by kernel_rfl) (by kernel_rfl)
/- (postil/leaf.text).fit -/
theorem g71 : Good t71 := good [t63, t65, t66, t67, t68, t70] ⟨g63, g65, g66, g67, g68, g70, trivial⟩ [] trivial (by kernel_rfl) (by kernel_rfl)
/- postil/leaf.comparePlaces -/
theorem g72 : Good t72 := good [] trivial [] trivial (by kernel_rfl) (by kernel_rfl)
/- postil/leaf.comparePlaces -/
theorem g73 : Good t73 := good [] trivial [] trivial (by kernel_rfl) (by kernel_rfl)
/- postil/leaf.areInOrder -/
theorem g74 : Good t74 := good [t72, t73] ⟨g72, g73, trivial⟩ [] trivial (by kernel_rfl) (by kernel_rfl)
/- postil/leaf.ofLine -/
theorem g75 : Good t75 := good [] trivial [] trivial (by kernel_rfl) (by kernel_rfl)
/- postil/leaf.readLine -/
theorem g76 : Good t76 := good [] trivial [] trivial (by kernel_rfl) (by kernel_rfl)
/- postil/leaf.ofLine -/
theorem g77 : Good t77 := good [] trivial [] trivial (by kernel_rfl) (by kernel_rfl)
/- postil/leaf.readLine -/
theorem g78 : Good t78 := good [] trivial [] trivial (by kernel_rfl) (by kernel_rfl)
/- postil/leaf.ofLine -/
theorem g79 : Good t79 := good [] trivial [] trivial (by kernel_rfl) (by kernel_rfl)
/- postil/leaf.readLine -/
theorem g80 : Good t80 := good [] trivial [] trivial (by kernel_rfl) (by kernel_rfl)
/- (postil/leaf.text).read -/
theorem g81 : Good t81 := good [t75, t76, t77, t78, t79, t80] ⟨g75, g76, g77, g78, g79, g80, trivial⟩ [] trivial (by kernel_rfl) (by kernel_rfl)
/- (postil/leaf.text).hasCopy -/
theorem g82 : Good t82 := good [t71, t74, t81] ⟨g71, g74, g81, trivial⟩ [] trivial (by kernel_rfl) (by kernel_rfl)
/- postil/leaf.beginCopy -/
theorem g83 : Good t83 := good [t8, t82] ⟨g8, g82, trivial⟩ [] trivial (by kernel_rfl) (by kernel_rfl)
/- (postil/leaf.text).lineOf -/
theorem g84 : Good t84 := good [] trivial [] trivial (by kernel_rfl) (by kernel_rfl)
/- (postil/leaf.text).hasPlace -/
theorem g85 : Good t85 := good [t84] ⟨g84, trivial⟩ [] trivial (by kernel_rfl) (by kernel_rfl)
/- postil/leaf.Stands -/
theorem g86 : Good t86 := good [t83, t84, t85] ⟨g83, g84, g85, trivial⟩ [] trivial (by kernel_rfl) (by kernel_rfl)
/- postil/slip.Moved -/
theorem g87 : Good t87 := good [t86] ⟨g86, trivial⟩ [] trivial (by kernel_rfl) (by kernel_rfl)
/- strings.Trim -/
theorem g88 : Good t88 := good [t48] ⟨g48, trivial⟩ [] trivial (by kernel_rfl) (by kernel_rfl)
/- postil/slip.isWord -/
theorem g89 : Good t89 := good [t88] ⟨g88, trivial⟩ [] trivial (by kernel_rfl) (by kernel_rfl)
/- postil/slip.isSide -/
theorem g90 : Good t90 := good [t52, t89] ⟨g52, g89, trivial⟩ [] trivial (by kernel_rfl) (by kernel_rfl)
/- strings.Trim -/
theorem g91 : Good t91 := good [t48] ⟨g48, trivial⟩ [] trivial (by kernel_rfl) (by kernel_rfl)
/- postil/slip.isWord -/
theorem g92 : Good t92 := good [t91] ⟨g91, trivial⟩ [] trivial (by kernel_rfl) (by kernel_rfl)
/- postil/slip.isSide -/
theorem g93 : Good t93 := good [t50, t92] ⟨g50, g92, trivial⟩ [] trivial (by kernel_rfl) (by kernel_rfl)
/- postil/slip.checkSlips -/
theorem g94 : Good t94 := good [t50, t54, t90, t93] ⟨g50, g54, g90, g93, trivial⟩ [] trivial (by kernel_rfl) (by kernel_rfl)
/- postil/slip.checkList -/
theorem g95 : Good t95 := good [t94] ⟨g94, trivial⟩ [] trivial (by kernel_rfl) (by kernel_rfl)
/- postil/slip.Missing -/
theorem g96 : Good t96 := good [t12, t43, t95] ⟨g12, g43, g95, trivial⟩ [] trivial (by kernel_rfl) (by kernel_rfl)
/- strings.Trim -/
theorem g97 : Good t97 := good [t48] ⟨g48, trivial⟩ [] trivial (by kernel_rfl) (by kernel_rfl)
/- postil/slip.isWord -/
theorem g98 : Good t98 := good [t97] ⟨g97, trivial⟩ [] trivial (by kernel_rfl) (by kernel_rfl)
/- strings.Trim -/
theorem g99 : Good t99 := good [t48] ⟨g48, trivial⟩ [] trivial (by kernel_rfl) (by kernel_rfl)
/- postil/slip.isWord -/
theorem g100 : Good t100 := good [t99] ⟨g99, trivial⟩ [] trivial (by kernel_rfl) (by kernel_rfl)
/- postil/slip.checkSlips -/
theorem g101 : Good t101 := good [t54, t98, t100] ⟨g54, g98, g100, trivial⟩ [] trivial (by kernel_rfl) (by kernel_rfl)
/- postil/slip.comparePlaces -/
theorem g102 : Good t102 := good [] trivial [] trivial (by kernel_rfl) (by kernel_rfl)
/- postil/slip.Order -/
theorem g103 : Good t103 := good [t101, t102] ⟨g101, g102, trivial⟩ [] trivial (by kernel_rfl) (by kernel_rfl)
/- strings.Trim -/
theorem g104 : Good t104 := good [t48] ⟨g48, trivial⟩ [] trivial (by kernel_rfl) (by kernel_rfl)
/- postil/slip.isWord -/
theorem g105 : Good t105 := good [t104] ⟨g104, trivial⟩ [] trivial (by kernel_rfl) (by kernel_rfl)
/- postil/slip.isSide -/
theorem g106 : Good t106 := good [t50] ⟨g50, trivial⟩ [] trivial (by kernel_rfl) (by kernel_rfl)
/- postil/slip.isSide -/
theorem g107 : Good t107 := good [t89] ⟨g89, trivial⟩ [] trivial (by kernel_rfl) (by kernel_rfl)
/- postil/slip.checkSlips -/
theorem g108 : Good t108 := good [t105, t106, t107] ⟨g105, g106, g107, trivial⟩ [] trivial (by kernel_rfl) (by kernel_rfl)
/- (postil/leaf.text).lineOf -/
theorem g109 : Good t109 := good [] trivial [] trivial (by kernel_rfl) (by kernel_rfl)
/- (postil/leaf.text).hasPlace -/
theorem g110 : Good t110 := good [t109] ⟨g109, trivial⟩ [] trivial (by kernel_rfl) (by kernel_rfl)
/- postil/leaf.At -/
theorem g111 : Good t111 := good [t8, t109, t110] ⟨g8, g109, g110, trivial⟩ [] trivial (by kernel_rfl) (by kernel_rfl)
/- slices.Index[[]postil/api.Place,postil/api.Place] -/
theorem g112 : Good t112 := good [] trivial [] trivial (by kernel_rfl) (by kernel_rfl)
/- postil/slip.slipOf -/
theorem g113 : Good t113 := good [t13, t23, t112] ⟨g13, g23, g112, trivial⟩ [] trivial (by kernel_rfl) (by kernel_rfl)
/- postil/slip.Wrong -/
theorem g114 : Good t114 := good [t12, t108, t111, t113] ⟨g12, g108, g111, g113, trivial⟩ [] trivial (by kernel_rfl) (by kernel_rfl)
/- postil/slip.checkSlips -/
theorem g115 : Good t115 := good [t54, t98] ⟨g54, g98, trivial⟩ [] trivial (by kernel_rfl) (by kernel_rfl)
/- postil/slip.checkList -/
theorem g116 : Good t116 := good [t115] ⟨g115, trivial⟩ [] trivial (by kernel_rfl) (by kernel_rfl)
/- postil/slip.Twice -/
theorem g117 : Good t117 := good [t116] ⟨g116, trivial⟩ [] trivial (by kernel_rfl) (by kernel_rfl)
/- postil/slip.Make -/
theorem g118 : Good t118 := good [t12, t111, t113] ⟨g12, g111, g113, trivial⟩ [] trivial (by kernel_rfl) (by kernel_rfl)
/- postil/postillaw03.made -/
theorem g119 : Good t119 := good [t118] ⟨g118, trivial⟩ [] trivial (by kernel_rfl) (by kernel_rfl)
/- postil/slip.isCut -/
theorem g120 : Good t120 := good [] trivial [] trivial (by kernel_rfl) (by kernel_rfl)
/- postil/slip.Check -/
theorem g121 : Good t121 := good [t120] ⟨g120, trivial⟩ [] trivial (by kernel_rfl) (by kernel_rfl)
/- postil/slip.check -/
theorem g122 : Good t122 := good [t9, t121] ⟨g9, g121, trivial⟩ [] trivial (by kernel_rfl) (by kernel_rfl)
/- (postil/leaf.text).lineOf -/
theorem g123 : Good t123 := good [] trivial [] trivial (by kernel_rfl) (by kernel_rfl)
/- (postil/leaf.text).hasPlace -/
theorem g124 : Good t124 := good [t123] ⟨g123, trivial⟩ [] trivial (by kernel_rfl) (by kernel_rfl)
/- postil/leaf.At -/
theorem g125 : Good t125 := good [t8, t123, t124] ⟨g8, g123, g124, trivial⟩ [] trivial (by kernel_rfl) (by kernel_rfl)
/- postil/slip.runOf -/
theorem g126 : Good t126 := good [] trivial [] trivial (by kernel_rfl) (by kernel_rfl)
/- slices.Index[[]postil/api.Place,postil/api.Place] -/
theorem g127 : Good t127 := good [] trivial [] trivial (by kernel_rfl) (by kernel_rfl)
/- (postil/slip.run).context -/
theorem g128 : Good t128 := good [] trivial [] trivial (by kernel_rfl) (by kernel_rfl)
/- (postil/slip.run).slip -/
theorem g129 : Good t129 := good [t128] ⟨g128, trivial⟩ [] trivial (by kernel_rfl) (by kernel_rfl)
/- postil/slip.slipOf -/
theorem g130 : Good t130 := good [t126, t127, t129] ⟨g126, g127, g129, trivial⟩ [] trivial (by kernel_rfl) (by kernel_rfl)
/- postil/slip.Make -/
theorem g131 : Good t131 := good [t122, t125, t130] ⟨g122, g125, g130, trivial⟩ [] trivial (by kernel_rfl) (by kernel_rfl)
/- postil/postillaw03.made -/
theorem g132 : Good t132 := good [t131] ⟨g131, trivial⟩ [] trivial (by kernel_rfl) (by kernel_rfl)
/- postil/postilref01.SamePlaces -/
theorem g133 : Good t133 := good [] trivial [] trivial (by kernel_rfl) (by kernel_rfl)
/- postil/postillaw03.alive -/
theorem g134 : Good t134 := good [t44, t47, t62, t87, t96, t103, t114, t117, t119, t132, t133] ⟨g44, g47, g62, g87, g96, g103, g114, g117, g119, g132, g133, trivial⟩ [] trivial (by kernel_rfl) (by kernel_rfl)
/- (postil/leaf.text).lineOf -/
theorem g135 : Good t135 := good [] trivial [] trivial (by kernel_rfl) (by kernel_rfl)
/- (postil/leaf.text).hasPlace -/
theorem g136 : Good t136 := good [t135] ⟨g135, trivial⟩ [] trivial (by kernel_rfl) (by kernel_rfl)
/- postil/leaf.At -/
theorem g137 : Good t137 := good [t8, t135, t136] ⟨g8, g135, g136, trivial⟩ [] trivial (by kernel_rfl) (by kernel_rfl)
/- slices.Index[[]postil/api.Place,postil/api.Place] -/
theorem g138 : Good t138 := good [] trivial [] trivial (by kernel_rfl) (by kernel_rfl)
/- postil/slip.slipOf -/
theorem g139 : Good t139 := good [t13, t20, t138] ⟨g13, g20, g138, trivial⟩ [] trivial (by kernel_rfl) (by kernel_rfl)
/- postil/slip.Make -/
theorem g140 : Good t140 := good [t12, t137, t139] ⟨g12, g137, g139, trivial⟩ [] trivial (by kernel_rfl) (by kernel_rfl)
/- postil/postillaw03.made -/
theorem g141 : Good t141 := good [t140] ⟨g140, trivial⟩ [] trivial (by kernel_rfl) (by kernel_rfl)
/- postil/slip.isCut -/
theorem g142 : Good t142 := good [] trivial [] trivial (by kernel_rfl) (by kernel_rfl)
/- postil/slip.Check -/
theorem g143 : Good t143 := good [t142] ⟨g142, trivial⟩ [] trivial (by kernel_rfl) (by kernel_rfl)
/- postil/slip.check -/
theorem g144 : Good t144 := good [t9, t143] ⟨g9, g143, trivial⟩ [] trivial (by kernel_rfl) (by kernel_rfl)
/- postil/slip.runOf -/
theorem g145 : Good t145 := good [] trivial [] trivial (by kernel_rfl) (by kernel_rfl)
/- (postil/slip.run).context -/
theorem g146 : Good t146 := good [] trivial [] trivial (by kernel_rfl) (by kernel_rfl)
/- (postil/slip.run).slip -/
theorem g147 : Good t147 := good [t146] ⟨g146, trivial⟩ [] trivial (by kernel_rfl) (by kernel_rfl)
/- postil/slip.slipOf -/
theorem g148 : Good t148 := good [t127, t145, t147] ⟨g127, g145, g147, trivial⟩ [] trivial (by kernel_rfl) (by kernel_rfl)
/- postil/slip.Make -/
theorem g149 : Good t149 := good [t125, t144, t148] ⟨g125, g144, g148, trivial⟩ [] trivial (by kernel_rfl) (by kernel_rfl)
/- postil/postillaw03.made -/
theorem g150 : Good t150 := good [t149] ⟨g149, trivial⟩ [] trivial (by kernel_rfl) (by kernel_rfl)
/- postil/slip.slipOf -/
theorem g151 : Good t151 := good [t13, t30, t127] ⟨g13, g30, g127, trivial⟩ [] trivial (by kernel_rfl) (by kernel_rfl)
/- postil/slip.Make -/
theorem g152 : Good t152 := good [t12, t125, t151] ⟨g12, g125, g151, trivial⟩ [] trivial (by kernel_rfl) (by kernel_rfl)
/- postil/postillaw03.made -/
theorem g153 : Good t153 := good [t152] ⟨g152, trivial⟩ [] trivial (by kernel_rfl) (by kernel_rfl)
/- (postil/leaf.text).hasPlace -/
theorem g154 : Good t154 := good [t66] ⟨g66, trivial⟩ [] trivial (by kernel_rfl) (by kernel_rfl)
/- postil/leaf.Stands -/
theorem g155 : Good t155 := good [t83, t154] ⟨g83, g154, trivial⟩ [] trivial (by kernel_rfl) (by kernel_rfl)
/- postil/slip.Moved -/
theorem g156 : Good t156 := good [t155] ⟨g155, trivial⟩ [] trivial (by kernel_rfl) (by kernel_rfl)
/- postil/leaf.isText -/
theorem g157 : Good t157 := good [] trivial [] trivial (by kernel_rfl) (by kernel_rfl)
/- postil/leaf.begin -/
theorem g158 : Good t158 := good [t157] ⟨g157, trivial⟩ [] trivial (by kernel_rfl) (by kernel_rfl)
/- postil/leaf.Check -/
theorem g159 : Good t159 := good [t158] ⟨g158, trivial⟩ [] trivial (by kernel_rfl) (by kernel_rfl)
/- postil/slip.check -/
theorem g160 : Good t160 := good [t159] ⟨g159, trivial⟩ [] trivial (by kernel_rfl) (by kernel_rfl)
/- postil/slip.Make -/
theorem g161 : Good t161 := good [t160] ⟨g160, trivial⟩ [] trivial (by kernel_rfl) (by kernel_rfl)
/- postil/slip.isCut -/
theorem g162 : Good t162 := good [] trivial [] trivial (by kernel_rfl) (by kernel_rfl)
/- postil/slip.Check -/
theorem g163 : Good t163 := good [t162] ⟨g162, trivial⟩ [] trivial (by kernel_rfl) (by kernel_rfl)
/- postil/slip.check -/
theorem g164 : Good t164 := good [t9, t163] ⟨g9, g163, trivial⟩ [] trivial (by kernel_rfl) (by kernel_rfl)
/- postil/slip.Make -/
theorem g165 : Good t165 := good [t164] ⟨g164, trivial⟩ [] trivial (by kernel_rfl) (by kernel_rfl)
/- (postil/leaf.text).lineOf -/
theorem g166 : Good t166 := good [] trivial [] trivial (by kernel_rfl) (by kernel_rfl)
/- (postil/leaf.text).hasPlace -/
theorem g167 : Good t167 := good [t166] ⟨g166, trivial⟩ [] trivial (by kernel_rfl) (by kernel_rfl)
/- postil/leaf.At -/
theorem g168 : Good t168 := good [t8, t167] ⟨g8, g167, trivial⟩ [] trivial (by kernel_rfl) (by kernel_rfl)
/- postil/slip.Make -/
theorem g169 : Good t169 := good [t122, t168] ⟨g122, g168, trivial⟩ [] trivial (by kernel_rfl) (by kernel_rfl)
/- postil/leaf.Number -/
theorem g170 : Good t170 := good [t8] ⟨g8, trivial⟩ [] trivial (by kernel_rfl) (by kernel_rfl)
/- postil/leaf.Number -/
theorem g171 : Good t171 := good [t8] ⟨g8, trivial⟩ [] trivial (by kernel_rfl) (by kernel_rfl)
/- postil/slip.Part -/
theorem g172 : Good t172 := good [t122, t170, t171] ⟨g122, g170, g171, trivial⟩ [] trivial (by kernel_rfl) (by kernel_rfl)
/- strings.Trim -/
theorem g173 : Good t173 := good [t48] ⟨g48, trivial⟩ [] trivial (by kernel_rfl) (by kernel_rfl)
/- postil/slip.isWord -/
theorem g174 : Good t174 := good [t173] ⟨g173, trivial⟩ [] trivial (by kernel_rfl) (by kernel_rfl)
/- postil/slip.checkSlips -/
theorem g175 : Good t175 := good [t174] ⟨g174, trivial⟩ [] trivial (by kernel_rfl) (by kernel_rfl)
/- postil/slip.Wrong -/
theorem g176 : Good t176 := good [t122, t175] ⟨g122, g175, trivial⟩ [] trivial (by kernel_rfl) (by kernel_rfl)
/- postil/slip.isWord -/
theorem g177 : Good t177 := good [] trivial [] trivial (by kernel_rfl) (by kernel_rfl)
/- postil/slip.isSide -/
theorem g178 : Good t178 := good [t98, t177] ⟨g98, g177, trivial⟩ [] trivial (by kernel_rfl) (by kernel_rfl)
/- postil/slip.checkSlips -/
theorem g179 : Good t179 := good [t52, t54, t178] ⟨g52, g54, g178, trivial⟩ [] trivial (by kernel_rfl) (by kernel_rfl)
/- postil/slip.Where -/
theorem g180 : Good t180 := good [t9, t179] ⟨g9, g179, trivial⟩ [] trivial (by kernel_rfl) (by kernel_rfl)
/- postil/slip.checkSlips -/
theorem g181 : Good t181 := good [t177] ⟨g177, trivial⟩ [] trivial (by kernel_rfl) (by kernel_rfl)
/- postil/slip.Order -/
theorem g182 : Good t182 := good [t181] ⟨g181, trivial⟩ [] trivial (by kernel_rfl) (by kernel_rfl)
/- postil/slip.checkSlips -/
theorem g183 : Good t183 := good [t52, t54] ⟨g52, g54, trivial⟩ [] trivial (by kernel_rfl) (by kernel_rfl)
/- (postil/leaf.text).lineOf -/
theorem g184 : Good t184 := good [] trivial [] trivial (by kernel_rfl) (by kernel_rfl)
/- (postil/leaf.text).hasPlace -/
theorem g185 : Good t185 := good [t184] ⟨g184, trivial⟩ [] trivial (by kernel_rfl) (by kernel_rfl)
/- postil/leaf.At -/
theorem g186 : Good t186 := good [t8, t185] ⟨g8, g185, trivial⟩ [] trivial (by kernel_rfl) (by kernel_rfl)
/- postil/slip.Wrong -/
theorem g187 : Good t187 := good [t122, t183, t186] ⟨g122, g183, g186, trivial⟩ [] trivial (by kernel_rfl) (by kernel_rfl)
/- postil/slip.isCut -/
theorem g188 : Good t188 := good [] trivial [] trivial (by kernel_rfl) (by kernel_rfl)
/- postil/slip.Check -/
theorem g189 : Good t189 := good [t188] ⟨g188, trivial⟩ [] trivial (by kernel_rfl) (by kernel_rfl)
end Go.Ev
/- The whole, of its parts. Made by program. -/
namespace Go.Ev
set_option maxRecDepth 1000000
theorem gAll : Good ⟨4, [], .v (.bool true)⟩ := good [t122, t134, t141, t150, t153, t156, t161, t165, t169, t172, t176, t177, t180, t182, t187, t189] ⟨g122, g134, g141, g150, g153, g156, g161, g165, g169, g172, g176, g177, g180, g182, g187, g189, trivial⟩ [] trivial (by kernel_rfl) (by kernel_rfl)
end Go.Ev
/- From a row's condition on package variables to what memory stands for. -/
namespace Go.Ev
open Go.Lib

theorem tabIs_of_vars {P : Program} {W : World} {name : String} {k : IntKind} {zs : List Int} {g : Nat} {t e : TypeId} {n : Nat}
    (hg : P.globalNamed name = some g) (hty : (P.globals[g]?).map (·.type) = some t) (ht : P.underlying t = some (.array n e)) (he : P.underlying e = some (.int k)) (hce : P.cellsOf e = 1) (hct : P.cellsOf t = n) :
    ∀ {l : List (String × DataW Unit)} {ps : List MemPlace}, (name, tabData k zs) ∈ l → DataW.LaidVars P W l ps → TabIs P W name k zs
  | [], _, hm, _ => by cases hm
  | (nm, d) :: rest, ps, hm, h => by
    obtain ⟨g', t', cs, fuel, p, q, hg', ht', hvar, hd, hr, _⟩ := h
    rcases List.mem_cons.1 hm with hm | hm
    · cases hm
      obtain rfl := Option.some.inj (hg.symm.trans hg')
      obtain rfl := Option.some.inj (hty.symm.trans ht')
      unfold TabIs
      rw [hvar, ← cells_of_tab ht he hce hct hd]
    · exact tabIs_of_vars hg hty ht he hce hct hm hr

theorem heap_of_tab {P : Program} {W : World} {name : String} {k : IntKind} {zs : List Int} {g : Nat} (hg : P.globalNamed name = some g) (h : TabIs P W name k zs) :
    ∃ e fz, allZ W g = some (.cells (zs.map fun z => Value.int k z).toArray e fz) := by
  unfold TabIs World.var? at h
  rw [hg] at h
  simp only [Option.bind_some] at h
  unfold allZ
  cases ho : W.heap[g]? with
  | none => rw [ho] at h; cases h
  | some o =>
    rw [ho] at h
    cases o <;> simp at h
    subst h
    exact ⟨_, _, rfl⟩
end Go.Ev
