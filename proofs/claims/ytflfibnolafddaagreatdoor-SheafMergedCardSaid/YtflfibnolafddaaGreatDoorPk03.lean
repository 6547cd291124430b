/- What the proof of this claim stands on, part 4: an evaluator of the model, proved right, and what it answers for functions of the program. -/
import Derived.Test.YtflfibnolafddaaGreatDoorPk02
import Derived.ChangeReads
import Derived.ChangeOld
import Derived.ChangeArms
import Derived.RowKit3
import Derived.WalkKit
import Derived.ProofKit
import Derived.OpenShut
import Derived.KernelRfl
import Derived.Lib.Overlaps
import Derived.Shelf.Strings.Builder1
import Derived.Shelf.Strings.OnBuilder
import Derived.Test.YtflfibnolafddaaGreatDoorProg
set_option maxHeartbeats 8000000
set_option maxRecDepth 1000000
set_option linter.unusedSimpArgs false
namespace Go.Ev
def tiled (P : Program) : Nat → List Field → Nat → Bool
 | k,[],e => k == e
 | k,f :: r,e => f.offset == k && tiled P (k + P.cellsOf f.type) r e
def plainT (P : Program) : Nat → TypeId → Bool
 | 0,_ => false
 | n + 1,t =>
  match P.underlying t with
  | some .bool => true
  | some (.int _) => true
  | some .string => true
  | some (.slice e) => decide (0 < P.cellsOf e) && plainT P n e
  | some (.struct fs) => tiled P 0 fs.toList (P.cellsOf t) && fs.toList.all fun f => plainT P n f.type
  | _ => false
def elemOf (cs : List AV) : AV := match cs with | [c] => c | cs => .agg cs
def Plain (P : Program) : Nat → TypeId → List AV → Prop
 | 0,_,_ => False
 | n + 1,t,cs =>
  match P.underlying t with
  | some .bool => ∃ b,cs = [.v (.bool b)]
  | some (.int k) => ∃ m,cs = [.v (.int k m)] ∧ (Lit.int k m).wf = true
  | some .string => ∃ s,cs = [.v (.string s)] ∧ s.size ≤ maxLen
  | some (.slice e) => ∃ x xs,cs = [x] ∧ SlOf (P.cellsOf e) xs x ∧ xs.length ≤ maxLen ∧ ∀ y ∈ xs,∃ c,y = elemOf c ∧ c.length = P.cellsOf e ∧ Plain P n e c
  | some (.struct fs) => cs.length = P.cellsOf t ∧ ∀ f ∈ fs.toList,Plain P n f.type ((cs.drop f.offset).take (P.cellsOf f.type))
  | _ => False
theorem elem_cells {cs : List AV} (h : ∀ c ∈ cs,c.flat = true) : (elemOf cs).cells = cs := by
 unfold elemOf
 split
 ·rename_i c
  have := h c (by simp)
  cases c <;> simp_all [AV.cells,AV.flat]
 ·rfl
theorem exists_list {α : Type} {Q : Nat → α → Prop} : ∀ (n : Nat),(∀ i,i < n → ∃ y,Q i y) → ∃ l : List α,l.length = n ∧ ∀ i y,l[i]? = some y → Q i y
 | 0,_ => ⟨[],rfl,fun i y h => by simp at h⟩
 | n + 1,h => by
  obtain ⟨l,hl,hq⟩ := exists_list n fun i hi => h i (by omega)
  obtain ⟨y,hy⟩ := h n (by omega)
  refine ⟨l ++ [y],by simp [hl],fun i z hz => ?_⟩
  by_cases hi : i < l.length
  ·rw [List.getElem?_append_left hi] at hz;exact hq i z hz
  ·have hlt := (List.getElem?_eq_some_iff.1 hz).1
   simp at hlt
   have : i = l.length := by omega
   subst this
   simp at hz;subst hz;rw [hl];exact hy
theorem tile_rep {Z : Fzn} {ρ : Pls} {P : Program} {Q : Field → List AV → Prop} : ∀ (fs : List Field) (k e : Nat) (cs : List Value),tiled P k fs e = true → cs.length = e →
  (∀ f ∈ fs,∃ a,RepL Z ρ a ((cs.drop f.offset).take (P.cellsOf f.type)) ∧ Q f a ∧ ∀ c ∈ a,c.flat = true) →
  k ≤ e → ∃ A,RepL Z ρ A (cs.drop k) ∧ (∀ c ∈ A,c.flat = true) ∧ ∀ f ∈ fs,k ≤ f.offset ∧ f.offset + P.cellsOf f.type ≤ e ∧ Q f ((A.drop (f.offset - k)).take (P.cellsOf f.type))
 | [],k,e,cs,ht,hl,_,_ => by
  have : k = e := by simpa [tiled] using ht
  subst this
  refine ⟨[], ?_,by simp,by simp⟩
  rw [List.drop_of_length_le (by omega)];exact RepL.nil
 | f :: r,k,e,cs,ht,hl,hf,hk => by
  simp only [tiled,Bool.and_eq_true,beq_iff_eq] at ht
  obtain ⟨ho,ht⟩ := ht
  have hle : ∀ (fs : List Field) (k : Nat),tiled P k fs e = true → k ≤ e := by
   intro fs
   induction fs with
   | nil => intro k h;have : k = e := by simpa [tiled] using h
            omega
   | cons g s ih => intro k h;simp only [tiled,Bool.and_eq_true] at h;have := ih _ h.2;omega
  have hle' := hle _ _ ht
  obtain ⟨A,hA,hAf,hAq⟩ := tile_rep r (k + P.cellsOf f.type) e cs ht hl (fun g hg => hf g (List.mem_cons_of_mem _ hg)) hle'
  obtain ⟨a,ha,hq,haf⟩ := hf f List.mem_cons_self
  have hal : a.length = P.cellsOf f.type := by rw [ha.1];simp;omega
  refine ⟨a ++ A, ?_, ?_, ?_⟩
  ·have : cs.drop k = (cs.drop f.offset).take (P.cellsOf f.type) ++ cs.drop (k + P.cellsOf f.type) := by
    rw [ho,← List.drop_drop];exact (List.take_append_drop _ _).symm
   rw [this];exact ha.append hA
  ·intro c hc
   rcases List.mem_append.1 hc with h | h
   ·exact haf c h
   ·exact hAf c h
  ·intro g hg
   rcases List.mem_cons.1 hg with rfl | hg
   ·refine ⟨by omega,by omega, ?_⟩
    rw [ho,Nat.sub_self,List.drop_zero,List.take_append_of_le_length (by omega),List.take_of_length_le (by omega)]
    exact hq
   ·obtain ⟨h1,h2,h3⟩ := hAq g hg
    refine ⟨by omega,h2, ?_⟩
    have : (a ++ A).drop (g.offset - k) = A.drop (g.offset - (k + P.cellsOf f.type)) := by
     rw [List.drop_append,List.drop_of_length_le (by omega),List.nil_append,hal];congr 1;omega
    rw [this];exact h3
section
variable {HH : Type} {enc : TypeId × Value → HH} {P : Program} {w : World}
theorem cells_at {a : Addr} {n : Nat} {cs : List Value} (h : w.cells? 0 a n = some cs) (hn : 0 < n) : a.spot = none ∧ ∃ arr e fr,w.heap[a.block]? = some (.cells arr e fr) ∧ cs.length = n ∧ ∀ j,j < n → arr[a.off + j]? = cs[j]? := by
 obtain ⟨_,hl,hc⟩ := World.cells?_some h
 have h0 := hc 0 hn
 obtain ⟨c0,hc0⟩ : ∃ c0,cs[0]? = some c0 := ⟨cs[0]'(by omega),List.getElem?_eq_getElem _⟩
 have hsp : a.spot = none := by
  have := World.cell?_spot (h0.trans hc0)
  simpa [Addr.add] using this
 have hcell := h0.trans hc0
 have hb : ∀ j,(a.add j).block = a.block := by intro j;unfold Addr.add;split <;> rfl
 have hs : ∀ j,(a.add j).spot = none := by
  intro j;unfold Addr.add;split
  ·exact hsp
  ·rfl
 have ho : ∀ j,(a.add j).off = a.off + j := by
  intro j;unfold Addr.add;split
  ·rename_i hj;subst hj;rfl
  ·rfl
 refine ⟨hsp, ?_⟩
 unfold World.cell? at hcell
 rw [hb] at hcell
 split at hcell
 ·rename_i arr e fr hh
  refine ⟨arr,e,fr,hh,hl,fun j hj => ?_⟩
  have := hc j hj
  unfold World.cell? at this
  rw [hb,hh] at this
  simp only [hs,ho,Option.isSome_none,Bool.false_eq_true,if_false] at this
  exact this
 ·cases hcell
theorem plain_rep : ∀ (N t fuel : Nat) (cs : List Value) (x : DataW HH × List MemPlace),plainT P N t = true → DataW.trod enc P w 0 (fun _ => true) true fuel t cs = some x →
  ∃ A,RepL (allZ w) noPls A cs ∧ Plain P N t A ∧ ∀ c ∈ A,c.flat = true
 | 0,_,_,_,_,hp,_ => by simp [plainT] at hp
 | N + 1,t,fuel,cs,x,hp,h => by
  unfold plainT at hp
  cases hu : P.underlying t with
  | none => rw [hu] at hp;simp at hp
  | some u =>
   rw [hu] at hp
   cases u <;> simp only [Bool.false_eq_true] at hp
   case bool =>
    obtain ⟨b,rfl, -⟩ := DataW.trod_bool hu h
    exact ⟨[.v (.bool b)],RepL.cons (.v rfl) RepL.nil,by unfold Plain;rw [hu];exact ⟨b,rfl⟩,by simp [AV.flat]⟩
   case int k =>
    obtain ⟨n,rfl, -,hw⟩ := DataW.trod_int hu h
    exact ⟨[.v (.int k n)],RepL.cons (.v rfl) RepL.nil,by unfold Plain;rw [hu];exact ⟨n,rfl,hw⟩,by simp [AV.flat]⟩
   case string =>
    obtain ⟨n,rfl, -,hw⟩ := DataW.trod_string hu h
    exact ⟨[.v (.string n)],RepL.cons (.v rfl) RepL.nil,by unfold Plain;rw [hu];exact ⟨n,rfl,hw⟩,by simp [AV.flat]⟩
   case struct fs =>
    rw [Bool.and_eq_true,List.all_eq_true] at hp
    obtain ⟨xs,n, -, -,hl,hlen,hf⟩ := DataW.trod_struct hu h
    have hall : ∀ f ∈ fs.toList,∃ a,RepL (allZ w) noPls a ((cs.drop f.offset).take (P.cellsOf f.type)) ∧ Plain P N f.type a ∧ ∀ c ∈ a,c.flat = true := by
     intro f hfm
     obtain ⟨i,hi⟩ := List.getElem?_of_mem hfm
     have hi' : fs[i]? = some f := by simpa using hi
     have hxi := hf i f hi'
     have hlt : i < xs.length := by
      rw [hlen]
      have := (List.getElem?_eq_some_iff.1 hi).1
      simpa using this
     rw [List.getElem?_eq_getElem hlt] at hxi
     exact plain_rep N f.type n _ _ (hp.2 f hfm) hxi
    obtain ⟨A,hA,hAf,hAq⟩ := tile_rep fs.toList 0 (P.cellsOf t) cs hp.1 hl hall (Nat.zero_le _)
    rw [List.drop_zero] at hA
    refine ⟨A,hA, ?_,hAf⟩
    unfold Plain;rw [hu]
    refine ⟨by rw [hA.1];exact hl,fun f hf => ?_⟩
    have := (hAq f hf).2.2
    rwa [Nat.sub_zero] at this
   case slice e =>
    simp only [Bool.and_eq_true,decide_eq_true_eq] at hp
    rcases DataW.trod_slice hu h with ⟨rfl, -⟩ | ⟨a,len,cap,elems,rest,n, -,rfl, -, -,hlc,hcm,hel,hget, -, -⟩
    ·refine ⟨[.v (.slice none 0 0)],RepL.cons (.v rfl) RepL.nil, ?_,by simp [AV.flat]⟩
     unfold Plain;rw [hu]
     exact ⟨_,[],rfl,Or.inl ⟨rfl,rfl⟩,Nat.zero_le _,by simp⟩
    ·have hone : ∀ i,i < len → ∃ y : AV,∃ A ci,w.cells? 0 (a.add (i * P.cellsOf e)) (P.cellsOf e) = some ci ∧ RepL (allZ w) noPls A ci ∧ Plain P N e A ∧ (∀ c ∈ A,c.flat = true) ∧ y = elemOf A := by
      intro i hi
      have := hget i hi
      rw [List.getElem?_eq_getElem (by omega),Option.bind_eq_some_iff] at this
      obtain ⟨ci,hc1,hc2⟩ := this
      obtain ⟨A,h1,h2,h3⟩ := plain_rep N e n ci _ hp.2 hc2
      exact ⟨_,A,ci,hc1,h1,h2,h3,rfl⟩
     obtain ⟨xs,hxl,hxq⟩ := exists_list len hone
     have hsz : ∀ y ∈ xs,y.cells.length = P.cellsOf e := by
      intro y hy
      obtain ⟨i,hi⟩ := List.getElem?_of_mem hy
      obtain ⟨A,ci,h1,h2,h3,h4,rfl⟩ := hxq i y hi
      rw [elem_cells h4,h2.1]
      exact (World.cells?_some h1).2.1
     have hplain : Plain P (N + 1) t [.vs (P.cellsOf e) xs (some cap)] := by
      unfold Plain;rw [hu]
      refine ⟨_,xs,rfl,Or.inr ⟨_,rfl⟩,by omega,fun y hy => ?_⟩
      obtain ⟨i,hi⟩ := List.getElem?_of_mem hy
      obtain ⟨A,ci,h1,h2,h3,h4,rfl⟩ := hxq i y hi
      exact ⟨A,rfl,by rw [h2.1];exact (World.cells?_some h1).2.1,h3⟩
     by_cases h0 : len = 0
     ·subst h0
      have : xs = [] := List.length_eq_zero_iff.1 hxl
      subst this
      exact ⟨_,RepL.cons (.vs0 (by simp)) RepL.nil,hplain,by simp [AV.flat]⟩
     ·-- the block
      have hpos := hp.1
      obtain ⟨y0,hy0⟩ : ∃ y,xs[0]? = some y := ⟨xs[0]'(by omega),List.getElem?_eq_getElem _⟩
      obtain ⟨A0,c0,hc0, -⟩ := hxq 0 y0 hy0
      obtain ⟨hsp0,arr,et,fr,hh, -, -⟩ := cells_at hc0 hpos
      have hb : ∀ j,(a.add j).block = a.block := by intro j;unfold Addr.add;split <;> rfl
      have ho : ∀ j,(a.add j).off = a.off + j := by
       intro j;unfold Addr.add;split
       ·rename_i hj;subst hj;rfl
       ·rfl
      rw [hb] at hh
      have hsp : a.spot = none := by simpa [Addr.add] using hsp0
      have hall : ∀ i j,i < len → j < P.cellsOf e → ∃ A ci,xs[i]? = some (elemOf A) ∧ (∀ c ∈ A,c.flat = true) ∧ RepL (allZ w) noPls A ci ∧ ci.length = P.cellsOf e ∧ arr[a.off + i * P.cellsOf e + j]? = ci[j]? := by
       intro i j hi hj
       obtain ⟨y,hy⟩ : ∃ y,xs[i]? = some y := ⟨xs[i]'(by omega),List.getElem?_eq_getElem _⟩
       obtain ⟨A,ci,h1,h2,h3,h4,rfl⟩ := hxq i y hy
       obtain ⟨-,arr',et',fr',hh',hl',hg⟩ := cells_at h1 hpos
       rw [hb,hh] at hh'
       obtain ⟨rfl,rfl,rfl⟩ : arr = arr' ∧ et = et' ∧ fr = fr' := by simpa using hh'
       have := hg j hj
       rw [ho] at this
       exact ⟨A,ci,hy,h4,h2,hl',this⟩
      have hfl : (xs.flatMap AV.cells).length = len * P.cellsOf e := by rw [flat_len hsz,hxl]
      have hfit : a.off + len * P.cellsOf e ≤ arr.size := by
       obtain ⟨A,ci, -, -, -,hl',hg⟩ := hall (len - 1) (P.cellsOf e - 1) (by omega) (by omega)
       rw [List.getElem?_eq_getElem (by omega)] at hg
       have := (Array.getElem?_eq_some_iff.1 hg).1
       have e1 : (len - 1) * P.cellsOf e + P.cellsOf e = len * P.cellsOf e := by
        have : len = (len - 1) + 1 := by omega
        conv => rhs;rw [this,Nat.succ_mul]
       omega
      refine ⟨[.vs (P.cellsOf e) xs (some cap)],RepL.cons ?_ RepL.nil,hplain,by simp [AV.flat]⟩
      have hval : (Value.slice (some a) len cap) = .slice (some ⟨a.block,(arr.toList.take a.off).length,none⟩) xs.length cap := by
       have : (arr.toList.take a.off).length = a.off := by simp;omega
       rw [this,hxl];cases a;simp_all
      rw [hval]
      refine .vs (vs := (arr.toList.drop a.off).take (len * P.cellsOf e)) (post := (arr.toList.drop a.off).drop (len * P.cellsOf e)) (pre := arr.toList.take a.off) (e := et) (fz := fr) (arr := arr) hh ?_ hsz ?_ ?_ (by simp) (by omega)
      ·rw [List.append_assoc,List.take_append_drop,List.take_append_drop]
      ·rw [hfl];simp;omega
      ·intro i c v hc hv
       have hi := (List.getElem?_eq_some_iff.1 hc).1
       rw [hfl] at hi
       have hq : i / P.cellsOf e < len := Nat.div_lt_of_lt_mul (by rw [Nat.mul_comm];exact hi)
       have hr : i % P.cellsOf e < P.cellsOf e := Nat.mod_lt _ hpos
       have hdm : i / P.cellsOf e * P.cellsOf e + i % P.cellsOf e = i := by rw [Nat.mul_comm];exact Nat.div_add_mod _ _
       obtain ⟨A,ci,hx,hA,hR,hl',hg⟩ := hall _ _ hq hr
       have hfa := (flat_at hsz hx).1
       rw [elem_cells hA] at hfa
       have hcA : A[i % P.cellsOf e]? = some c := by
        rw [← hfa,List.getElem?_take,if_pos hr,List.getElem?_drop,hdm];exact hc
       have hvA : ci[i % P.cellsOf e]? = some v := by
        rw [← hg]
        rw [List.getElem?_take,if_pos hi,List.getElem?_drop] at hv
        rw [show a.off + i / P.cellsOf e * P.cellsOf e + i % P.cellsOf e = a.off + i by omega]
        simpa using hv
       exact hR.2 _ _ _ hcA hvA
theorem plain_spare {base : Nat} {sp : Nat → Bool} : ∀ (N t fuel : Nat) (cs : List Value) (x : DataW HH × List MemPlace),plainT P N t = true → DataW.trod enc P w base (fun _ => true) true fuel t cs = some x →
  (∀ p ∈ x.2,sp p.block = true) → DataW.trod enc P w base sp true fuel t cs = some x
 | 0,_,_,_,_,hp,_,_ => by simp [plainT] at hp
 | N + 1,t,fuel,cs,x,hp,h,hs => by
  unfold plainT at hp
  cases fuel with
  | zero => simp [DataW.trod] at h
  | succ n =>
   cases hu : P.underlying t with
   | none => rw [hu] at hp;simp at hp
   | some u =>
    rw [hu] at hp
    cases u <;> simp only [Bool.false_eq_true] at hp
    case bool => obtain ⟨b,rfl,rfl⟩ := DataW.trod_bool hu h;rw [DataW.trod_step];unfold DataW.trodStep;rw [hu]
    case int k => obtain ⟨m,rfl,rfl,hw⟩ := DataW.trod_int hu h;rw [DataW.trod_step];unfold DataW.trodStep;rw [hu];simp [hw]
    case string => obtain ⟨m,rfl,rfl,hw⟩ := DataW.trod_string hu h;rw [DataW.trod_step];unfold DataW.trodStep;rw [hu];simp [hw]
    case struct fs =>
     rw [Bool.and_eq_true,List.all_eq_true] at hp
     rw [DataW.trod_step] at h ⊢
     unfold DataW.trodStep at h ⊢
     rw [hu] at h ⊢
     simp only at h ⊢
     split at h
     ·rename_i hl
      rw [if_pos hl]
      simp only [Option.map_eq_some_iff] at h ⊢
      obtain ⟨xs,hxs,rfl⟩ := h
      refine ⟨xs,mapM_carry hxs fun f y hf hy hfy => plain_spare N f.type n _ y (hp.2 f hf) hfy fun p hpm => hs p ?_,rfl⟩
      exact List.mem_flatMap.2 ⟨y,hy,hpm⟩
     ·cases h
    case slice e =>
     simp only [Bool.and_eq_true,decide_eq_true_eq] at hp
     have h0 := h
     rw [DataW.trod_step] at h ⊢
     unfold DataW.trodStep at h ⊢
     rw [hu] at h ⊢
     rcases DataW.trod_slice hu h0 with ⟨rfl,rfl⟩ | ⟨a,len,cap,elems,rest,n',hn',rfl,rfl, -,hlc,hcm,hel,hget,hrest, -⟩
     ·rfl
     ·simp only at h ⊢
      split at h
      ·rename_i hc
       rw [if_pos hc]
       simp only [if_true,Option.bind_eq_some_iff,Option.map_eq_some_iff] at h ⊢
       obtain ⟨es,hes,rs,hrs,heq⟩ := h
       have hin : ∀ y,y ∈ es ++ rs → ∀ p ∈ y.2,sp p.block = true := by
        intro y hy p hpm
        refine hs p ?_
        have := congrArg Prod.snd heq
        simp only at this
        rw [← this]
        exact List.mem_append_right _ (List.mem_flatMap.2 ⟨y,hy,hpm⟩)
       refine ⟨es,mapM_carry hes fun i y _ hy hfy => ?_,rs, ?_,heq⟩
       ·obtain ⟨ci,h1,h2⟩ := Option.bind_eq_some_iff.1 hfy
        rw [h1]
        exact plain_spare N e n ci y hp.2 h2 (hin y (List.mem_append_left _ hy))
       ·have hrl : rs.length = cap - len := by
         have := mapM_some_length hrs
         simpa using this
        by_cases hz : cap - len = 0
        ·have : rs = [] := List.length_eq_zero_iff.1 (by omega)
         subst this
         split
         ·rw [hz] at hrs ⊢;exact hrs
         ·rfl
        ·have hsp : sp a.block = true := by
          have hel' : es.length = len := by
           have := mapM_some_length hes
           simpa using this
          have := congrArg Prod.snd heq
          simp only at this
          have hm : MemPlace.cell a.block (a.off + 0) ∈ MemPlace.row a ((elems.length + rest.length) * P.cellsOf e) ++ (elems ++ rest).flatMap (·.2) := by
           rw [← this]
           refine List.mem_append_left _ (MemPlace.mem_row.2 ⟨0, ?_,rfl⟩)
           exact Nat.mul_pos (by omega) hp.1
          exact hs _ hm
         rw [if_pos hsp]
         refine mapM_carry hrs fun i y _ hy hfy => ?_
         obtain ⟨ci,h1,h2⟩ := Option.bind_eq_some_iff.1 hfy
         rw [h1]
         exact plain_spare N e n ci y hp.2 h2 (hin y (List.mem_append_right _ hy))
      ·cases h
end
end Go.Ev
namespace Go.Ev
open Go.ChangeShapes Go.WideShapes Go.ChangeAt Go.RowKit
def Arg (P : Program) (N : Nat) (t : TypeId) (x : AV) : Prop :=
 match P.underlying t with
 | some (.struct _) => ∃ A,x = .agg A ∧ Plain P N t A
 | _ => Plain P N t [x]
inductive ArgsOf (P : Program) (N : Nat) : List TypeId → List AV → Prop
 | nil : ArgsOf P N [] []
 | cons {t : TypeId} {ts : List TypeId} {x : AV} {xs : List AV} (h : Arg P N t x) (hs : ArgsOf P N ts xs) : ArgsOf P N (t :: ts) (x :: xs)
section
variable {HH : Type} {enc : TypeId × Value → HH} {P : Program} {w : World}
theorem arg_rep {N base : Nat} {t : TypeId} {v : Value} {d : DataW HH} {ps : List MemPlace} (hp : plainT P N t = true) (hok : Value.okWide P w .any base t v) (h : DataW.Trod enc P w 0 (fun _ => true) true t v d ps) :
  ∃ x,Rep (allZ w) noPls x v ∧ Arg P N t x := by
 obtain ⟨fuel,h⟩ := h
 obtain ⟨A,hA,hpl,hfl⟩ := plain_rep N t fuel _ _ hp h
 cases N with
 | zero => simp [plainT] at hp
 | succ N =>
  have one : ∀ (hv : v.cells.toList = [v]),(∃ c,A = [c]) → (∀ fs,P.underlying t ≠ some (.struct fs)) → ∃ x,Rep (allZ w) noPls x v ∧ Arg P (N + 1) t x := by
   rintro hv ⟨c,rfl⟩ hns
   rw [hv] at hA
   obtain ⟨v',ws,e,hr, -⟩ := hA.uncons
   cases e
   refine ⟨c,hr, ?_⟩
   unfold Arg
   split
   ·rename_i fs hu;exact absurd hu (hns fs)
   ·exact hpl
  unfold plainT at hp
  unfold Value.okWide at hok
  have hpl' := hpl
  unfold Plain at hpl'
  cases hu : P.underlying t with
  | none => rw [hu] at hp;simp at hp
  | some u =>
   rw [hu] at hp hok hpl'
   cases u <;> simp only [Bool.false_eq_true] at hp hok hpl'
   case bool =>
    obtain ⟨b,rfl⟩ := hpl'
    refine one ?_ ⟨_,rfl⟩ (by simp [hu])
    unfold Cell.okWide Cell.ok at hok;rw [hu] at hok
    cases v <;> first | rfl | simp at hok
   case int k =>
    obtain ⟨m,rfl, -⟩ := hpl'
    refine one ?_ ⟨_,rfl⟩ (by simp [hu])
    unfold Cell.okWide Cell.ok at hok;rw [hu] at hok
    cases v <;> first | rfl | simp at hok
   case string =>
    obtain ⟨m,rfl, -⟩ := hpl'
    refine one ?_ ⟨_,rfl⟩ (by simp [hu])
    unfold Cell.okWide Cell.ok at hok;rw [hu] at hok
    cases v <;> first | rfl | simp at hok
   case slice e =>
    obtain ⟨x,xs,rfl, -⟩ := hpl'
    refine one ?_ ⟨_,rfl⟩ (by simp [hu])
    unfold Cell.okWide Cell.ok at hok;rw [hu] at hok
    cases v <;> first | rfl | simp at hok
   case struct fs =>
    obtain ⟨cs,rfl, -, -⟩ := hok
    refine ⟨.agg A, ?_, ?_⟩
    ·have := hA.agg
     simpa [Value.cells] using this
    ·unfold Arg;rw [hu];exact ⟨A,rfl,hpl⟩
theorem args_rep {N base : Nat} : ∀ {ts : List TypeId} {vs : List Value} {ds : List (DataW HH)} {ps : List MemPlace},ts.all (plainT P N) = true → (∀ (j : Nat) t v,ts[j]? = some t → vs[j]? = some v → Value.okWide P w .any base t v) →
  DataW.TrodAll enc P w 0 (fun _ => true) true ts vs ds ps → ∃ xs,RepL (allZ w) noPls xs vs ∧ ArgsOf P N ts xs
 | [],vs,ds,ps,_,_,h => by
  cases vs <;> cases ds <;> simp [DataW.TrodAll] at h
  exact ⟨[],RepL.nil,.nil⟩
 | t :: ts,vs,ds,ps,hp,hok,h => by
  obtain ⟨v,vs',d,ds',p,q,rfl,rfl,rfl,h1,h2⟩ := trodAll_cons h
  simp only [List.all_cons,Bool.and_eq_true] at hp
  obtain ⟨x,hx,hax⟩ := arg_rep hp.1 (hok 0 t v rfl rfl) h1
  obtain ⟨xs,hxs,haxs⟩ := args_rep hp.2 (fun j t' v' ht hv => hok (j + 1) t' v' (by simpa using ht) (by simpa using hv)) h2
  exact ⟨x :: xs,RepL.cons hx hxs,.cons hax haxs⟩
theorem trod_after {w' : World} (hh : ∀ k,k < w.heap.size → w'.heap[k]? = w.heap[k]?) {N : Nat} {sp : Nat → Bool} : ∀ {ts : List TypeId} {vs : List Value} {ds : List (DataW HH)} {ps : List MemPlace},ts.all (plainT P N) = true →
  DataW.TrodAll enc P w 0 (fun _ => true) true ts vs ds ps → (∀ p ∈ ps,sp p.block = true) → DataW.TrodAll enc P w' 0 sp true ts vs ds ps
 | [],vs,ds,ps,_,h,_ => by
  cases vs <;> cases ds <;> simp [DataW.TrodAll] at h ⊢
  exact h
 | t :: ts,vs,ds,ps,hp,h,hs => by
  obtain ⟨v,vs',d,ds',p,q,rfl,rfl,rfl,⟨fuel,h1⟩,h2⟩ := trodAll_cons h
  simp only [List.all_cons,Bool.and_eq_true] at hp
  refine ⟨p,q,⟨fuel, ?_⟩,trod_after hh hp.2 h2 fun p hp => hs p (List.mem_append_right _ hp),rfl⟩
  have hlt := DataW.trod_lt _ _ _ _ h1
  refine plain_spare N t fuel _ _ hp.1 (DataW.trod_carry _ _ _ _ h1 fun p hp => ?_) fun p hp => hs p (List.mem_append_left _ hp)
  have := hlt p hp
  cases p with
  | cell b off =>
   have hb : b < w.heap.size := this
   simp only [World.sameAt,World.cell?,hh b hb]
  | map b =>
   have hb : b < w.heap.size := this
   simp only [World.sameAt,hh b hb]
theorem trodAll_len {b : Nat} {sp : Nat → Bool} {hd : Bool} : ∀ {ts : List TypeId} {vs : List Value} {ds : List (DataW HH)} {ps : List MemPlace},DataW.TrodAll enc P w b sp hd ts vs ds ps → ds.length = ts.length
 | [],vs,ds,ps,h => by cases vs <;> cases ds <;> simp [DataW.TrodAll] at h ⊢
 | t :: ts,vs,ds,ps,h => by
  obtain ⟨v,vs',d,ds',p,q,rfl,rfl,rfl,h1,h2⟩ := trodAll_cons h
  simp [trodAll_len h2]
theorem kept_of {w' : World} (hos : w'.os = w.os) (hout : w'.output = w.output) (hh : ∀ k,k < w.heap.size → w'.heap[k]? = w.heap[k]?) : w.keptBut w' (fun _ => False) := by
 refine ⟨hos,hout,fun i hi => ?_⟩
 rw [hh i hi]
 cases h : w.heap[i]? with
 | none => simp
 | some o => cases o <;> simp
theorem post_of_old {f : Func} {s : ChangeSpec} {apart fresh handsOn again : Bool} {W W' : World} {args : Array Value} {v : Value} {ds gs : List (DataW HH)} {before pa pv : List MemPlace}
  (hW : DataW.Whole enc P f.params.toList s.vars apart W args.toList ds gs before)
  (hres : ∀ (b : Nat) (sp : Nat → Bool) (hd : Bool),DataW.TrodAll enc P W' b sp hd f.resultTypes.toList (v.resultList f.resultTypes.size) (s.fn HH (ds ++ gs)).results [])
  (hargs : ∀ sp : Nat → Bool,(∀ p ∈ before,sp p.block = true) → DataW.TrodAll enc P W' 0 sp true f.params.toList args.toList (s.fn HH (ds ++ gs)).args pa)
  (hvars : ∀ sp : Nat → Bool,(∀ p ∈ before,sp p.block = true) → DataW.TrodVars enc P W' sp s.vars (s.fn HH (ds ++ gs)).vars pv)
  (hps : before = pa ++ pv) (hk : W.keptBut W' (· ∈ before)) (hfz : ∀ a : Addr,a.block < W.heap.size → W'.frozen? a = W.frozen? a)
  (hok : ∀ (j : Nat) (t : TypeId) (r : Value),f.resultTypes[j]? = some t → (v.resultList f.resultTypes.size)[j]? = some r → Value.okWide P W' .any 0 t r) :
  s.post enc P f apart fresh handsOn again W args v W' := by
 have hold : ∀ p ∈ before,(fun b => decide (b < W.heap.size)) p.block = true := fun p hp => by simpa using hW.lt p hp
 have hlt := hW.lt
 refine ⟨ds,gs,before,[],pa,pv,hW,hres _ _ _,hargs _ hold,hvars _ hold,World.keptBut_mono (fun p hp => ⟨hp, ?_⟩) hk,fun _ => ?_⟩
 ·rw [hps,List.mem_append] at hp
  exact Or.inr hp
 ·obtain ⟨_,_,_,_,_,hz,hn⟩ := hW
  refine ⟨hok,_,_,([] ++ pa) ++ pv,⟨[] ++ pa,pv,trodAll_append (hargs _ (fun _ _ => rfl)) (hres _ _ _),hvars _ (fun _ _ => rfl),rfl, ?_, ?_⟩, ?_⟩
  ·intro b off hp
   have hp' : MemPlace.cell b off ∈ before := by rw [hps];simpa using hp
   rw [hfz ⟨b,off,none⟩ (hlt _ hp')]
   exact hz b off hp'
  ·intro ha
   have := hn ha
   rw [hps] at this
   simpa using this
  ·intro p hp _
   rw [hps]
   simpa using hp
theorem law_contract {C : Cfg} (hP : C.P = P) (hgo : NoGo P) (hm : P.follows .mixedOrders = true) (hext : ExtOK C) {f : FuncId} {fn : Func} {s : ChangeSpec} {N : Nat} {apart fresh handsOn again : Bool} {tb : TypeId}
  (hpl : fn.params.toList.all (plainT P N) = true) (hvars : s.vars = []) (hspec : ∀ ds : List (DataW HH),ds.length = fn.params.size → s.fn HH ds = { results := [.lit (.bool true)],args := ds })
  (hrt : fn.resultTypes = #[tb]) (htb : P.underlying tb = some .bool)
  (hlaw : ∀ xs,ArgsOf P N fn.params.toList xs → ∃ H',lim C (.call f xs { objs := [],lock := 0 }) = some (.ret (.v (.bool true)) H'))
  {W : World} {base : Nat} {args : Array Value} {ds gs : List (DataW HH)} {before : List MemPlace}
  (hval : ∀ (j : Nat) t v,fn.params[j]? = some t → args[j]? = some v → Value.okWide P W .any base t v)
  (hW : DataW.Whole enc P fn.params.toList s.vars apart W args.toList ds gs before) (hg : laidOk (allZ W) := by intro p hp;cases hp) :
  Calls P f args W fun e W' => ∃ v,e = .returned v ∧ s.post enc P fn apart fresh handsOn again W args v W' := by
 subst hP
 have hW' := hW
 obtain ⟨p,q,hA,hV,rfl,hfz,hnd⟩ := hW
 have hV' := hV
 rw [hvars] at hV'
 obtain ⟨rfl,rfl⟩ := trodVars_none hV'
 obtain ⟨xs,hxs,hax⟩ := args_rep hpl (fun j t v ht hv => hval j t v (by simpa using ht) (by simpa using hv)) hA
 obtain ⟨H',hl⟩ := hlaw xs hax
 have hc := top_calls hg hgo hm hext hl hxs
 have hlen : ds.length = fn.params.size := by have := trodAll_len hA;simpa using this
 have hsf : s.fn HH (ds ++ []) = { results := [.lit (.bool true)],args := ds } := by rw [List.append_nil];exact hspec ds hlen
 refine Calls.mono' hc ?_
 rintro e W' ⟨rfl,hh,hsz,hos,hout, -,hfr⟩
 refine ⟨_,rfl,post_of_old (pa := p) (pv := []) hW' ?_ ?_ ?_ rfl (World.keptBut_mono (fun _ h => h.elim) (kept_of hos hout hh)) hfr ?_⟩
 ·intro b sp hd
  rw [hsf,hrt]
  exact trodAll_mk1 (shut_bool htb true)
 ·intro sp hsp
  rw [hsf]
  exact trod_after hh hpl hA fun x hx => hsp x (List.mem_append_left _ hx)
 ·intro sp hsp
  rw [hsf,hvars]
  rfl
 ·exact ok_one hrt rfl (okWide_bool_mk htb true)
end
end Go.Ev
namespace Go.Ev
structure Tell where
 f : Nat
 K : List AV
 R : AV
def tabHas : List Tell → Nat → Bool
 | [],_ => false
 | t :: r,f => Nat.beq t.f f || tabHas r f
def tabFn : List Tell → Nat → List AV → Option AV
 | [],_,_ => none
 | t :: r,f,args => if Nat.beq t.f f && listEq (eqA 30) args t.K then some t.R else tabFn r f args
def tabExt (e : FuncId → Option (List AV → Option AV)) (T : List Tell) : FuncId → Option (List AV → Option AV) := fun f => if tabHas T f then some (tabFn T f) else e f
def Cfg.more (C : Cfg) (e : FuncId → Option (List AV → Option AV)) : Cfg := { C with ext := e }
structure TellH where
 f : Nat
 K : List AV
 G : List (Option AObj)
 R : AV
def eqEnt : List (AV × AV × Nat) → List (AV × AV × Nat) → Bool
 | [],[] => true
 | (a,b,n) :: r,(a',b',n') :: s => eqQ 30 a a' && eqQ 30 b b' && Nat.beq n n' && eqEnt r s
 | _,_ => false
def sameX : Option AObj → Option AObj → Bool
 | none,none => true
 | some .dead,some .dead => true
 | some .dfr,some .dfr => true
 | some (.cells v m e sz g cs),some (.cells v' m' e' sz' g' cs') => Nat.beq v v' && Nat.beq m m' && Nat.beq e e' && Nat.beq sz sz' && (g == g') && eqLQ (eqQ 30) cs cs'
 | some (.map m es c),some (.map m' es' c') => Nat.beq m m' && eqEnt es es' && Nat.beq c c'
 | _,_ => false
def sameL : List (Option AObj) → List (Option AObj) → Bool
 | [],[] => true
 | x :: r,y :: s => sameX x y && sameL r s
 | _,_ => false
theorem eqEnt_eq : ∀ {l m : List (AV × AV × Nat)},eqEnt l m = true → l = m
 | [],[],_ => rfl
 | [],_ :: _,h => by cases h
 | _ :: _,[],h => by cases h
 | (a,b,n) :: r,(a',b',n') :: s,h => by
  simp only [eqEnt,Bool.and_eq_true] at h
  obtain ⟨⟨⟨h1,h2⟩,h3⟩,h4⟩ := h
  rw [eqQ_eq 30 _ _ h1,eqQ_eq 30 _ _ h2,Nat.eq_of_beq_eq_true h3,eqEnt_eq h4]
theorem sameX_eq {x y : Option AObj} (h : sameX x y = true) : x = y := by
 unfold sameX at h
 split at h
 ·rfl
 ·rfl
 ·rfl
 ·simp only [Bool.and_eq_true,beq_iff_eq] at h
  obtain ⟨⟨⟨⟨⟨h1,h2⟩,h3⟩,h4⟩,h5⟩,h6⟩ := h
  rw [Nat.eq_of_beq_eq_true h1,Nat.eq_of_beq_eq_true h2,Nat.eq_of_beq_eq_true h3,Nat.eq_of_beq_eq_true h4,h5,eqLQ_eq (eqQ_eq 30) h6]
 ·simp only [Bool.and_eq_true] at h
  obtain ⟨⟨h1,h2⟩,h3⟩ := h
  rw [Nat.eq_of_beq_eq_true h1,eqEnt_eq h2,Nat.eq_of_beq_eq_true h3]
 ·cases h
theorem sameL_eq : ∀ {l m : List (Option AObj)},sameL l m = true → l = m
 | [],[],_ => rfl
 | [],_ :: _,h => by cases h
 | _ :: _,[],h => by cases h
 | x :: r,y :: s,h => by
  simp only [sameL,Bool.and_eq_true] at h
  rw [sameX_eq h.1,sameL_eq h.2]
def tabHHas : List TellH → Nat → Bool
 | [],_ => false
 | t :: r,f => Nat.beq t.f f || tabHHas r f
def tabH : List TellH → Nat → List AV → Heap → Option AV
 | [],_,_,_ => none
 | t :: r,f,args,H => if Nat.beq t.f f && (eqLQ (eqQ 30) args t.K && sameL H.objs t.G) then some t.R else tabH r f args H
def atom1 : AV → Bool
 | .v _ => true
 | _ => false
def atom1b : AV → Bool
 | .v _ => true
 | .agg cs => cs.all atom1
 | _ => false
def atomR : AV → Bool
 | .v _ => true
 | .tup cs => cs.all atom1b
 | .agg cs => cs.all atom1b
 | _ => false
def borH (T : List Tell) (f : Nat) (args : List AV) (H : Heap) : Option AV :=
 match freezeL { H with lock := 0 } 100000 args with
 | some l => match tabFn T f l with | some R => if atomR R then some R else none | none => none
 | none => none
def tabX (T : List Tell) (TH : List TellH) (f : Nat) (args : List AV) (H : Heap) : Option AV := match tabH TH f args H with | some v => some v | none => borH T f args H
def tabExh (e : FuncId → Option (List AV → Heap → Option AV)) (T : List Tell) (TH : List TellH) : FuncId → Option (List AV → Heap → Option AV) := fun f => if tabHHas TH f || tabHas T f then some (tabX T TH f) else e f
def Cfg.more2 (C : Cfg) (e : FuncId → Option (List AV → Option AV)) (x : FuncId → Option (List AV → Heap → Option AV)) : Cfg := { C with ext := e,exh := x }
def ansH (n : Nat) (o : Option Out) : Option AV := match o with | some (.ret v H) => freezeV { H with lock := n } 1000000 v | _ => none
def GoodC (C : Cfg) (t : Tell) : Prop := (∃ e x,ExtOK (C.more2 e x) ∧ Ans (C.more2 e x) t.f t.K t.R) ∧ boundL t.K = 0
def GoodH (C : Cfg) (t : TellH) : Prop := (∃ e x,ExtOK (C.more2 e x) ∧ ∃ n,ansH t.G.length (evT (C.more2 e x) n (.call t.f t.K { objs := t.G,lock := t.G.length })) = some t.R) ∧ (Nat.beq (boundL t.K) 0 || t.K.any isYld) = false
def AllG (C : Cfg) : List Tell → Prop
 | [] => True
 | t :: r => GoodC C t ∧ AllG C r
def AllH (C : Cfg) : List TellH → Prop
 | [] => True
 | t :: r => GoodH C t ∧ AllH C r
theorem tabFn_some {C : Cfg} : ∀ {T : List Tell} {f : Nat} {args : List AV} {v : AV},AllG C T → tabFn T f args = some v → ∃ t,GoodC C t ∧ t.f = f ∧ args = t.K ∧ v = t.R
 | [],_,_,_,_,h => by cases h
 | t :: r,f,args,v,hT,h => by
  unfold tabFn at h
  split at h
  ·rename_i hq
   simp only [Bool.and_eq_true] at hq
   exact ⟨t,hT.1,Nat.eq_of_beq_eq_true hq.1,listEq_eq (eqA_eq 30) hq.2,by simpa using h.symm⟩
  ·exact tabFn_some hT.2 h
theorem tabH_some {C : Cfg} : ∀ {T : List TellH} {f : Nat} {args : List AV} {H : Heap} {v : AV},AllH C T → tabH T f args H = some v → ∃ t,GoodH C t ∧ t.f = f ∧ args = t.K ∧ H.objs = t.G ∧ v = t.R
 | [],_,_,_,_,_,h => by cases h
 | t :: r,f,args,H,v,hT,h => by
  unfold tabH at h
  split at h
  ·rename_i hq
   simp only [Bool.and_eq_true] at hq
   exact ⟨t,hT.1,Nat.eq_of_beq_eq_true hq.1,eqLQ_eq (eqQ_eq 30) hq.2.1,sameL_eq hq.2.2,by simpa using h.symm⟩
  ·exact tabH_some hT.2 h
theorem atom1_rep {Z Z' : Fzn} {ρ ρ' : Pls} {x : AV} {v : Value} (h : Rep Z ρ x v) (ha : atom1 x = true) : Rep Z' ρ' x v := by
 cases h with
 | v h => exact .v h
 | _ => cases ha
theorem atom1b_rep {Z Z' : Fzn} {ρ ρ' : Pls} {x : AV} {v : Value} (h : Rep Z ρ x v) (ha : atom1b x = true) : Rep Z' ρ' x v := by
 cases h with
 | v h => exact .v h
 | agg hl h => exact .agg hl fun i c v hc hv => atom1_rep (h i c v hc hv) (List.all_eq_true.1 (show List.all _ atom1 = true from ha) c (List.mem_of_getElem? hc))
 | _ => cases ha
theorem atomR_rep {Z Z' : Fzn} {ρ ρ' : Pls} {x : AV} {v : Value} (h : Rep Z ρ x v) (ha : atomR x = true) : Rep Z' ρ' x v := by
 cases h with
 | v h => exact .v h
 | agg hl h => exact .agg hl fun i c v hc hv => atom1b_rep (h i c v hc hv) (List.all_eq_true.1 (show List.all _ atom1b = true from ha) c (List.mem_of_getElem? hc))
 | tup hl h => exact .tup hl fun i c v hc hv => atom1b_rep (h i c v hc hv) (List.all_eq_true.1 (show List.all _ atom1b = true from ha) c (List.mem_of_getElem? hc))
 | _ => cases ha
theorem back_frozen {Z : Fzn} {ρ : Pls} {H : Heap} {w : World} (hs : Sim Z ρ H w) {R : AV} (hR : atomR R = true) {x : Value} {w' : World} (h : After (allZ w) noPls { objs := [],lock := 0 } w R { objs := [],lock := 0 } x w') : After Z ρ H w R H x w' := by
 obtain ⟨Z',ρ',h1,h2,h3⟩ := h
 have hsame : ∀ k,k < w.heap.size → w'.heap[k]? = w.heap[k]? := fun k hk => h3.frame k hk (start_own w k)
 refine ⟨Z,ρ,atomR_rep h1 hR,⟨fun b o hb hl => ?_,hs.inj,fun k o hk => ?_,hs.fresh,hs.lk,hs.lg⟩,⟨.refl _,.refl _,fun k hk _ => hsame k hk,fun _ _ h => h,h3.size,h3.os,h3.output,h3.tape,h3.drawn,fun a ha _ => frozen_same (hsame _ ha),rfl,fun _ _ => rfl,Nat.le_refl _,fun _ _ _ => rfl,fun _ _ _ => rfl,fun _ _ h _ => ⟨h,fun _ => rfl⟩⟩⟩
 ·obtain ⟨pl,obj,q1,q2,q3,q4⟩ := hs.objs b o hb hl
  exact ⟨pl,obj,q1,(hsame _ (Array.getElem?_eq_some_iff.1 q2).1).trans q2,q3,q4⟩
 ·have := hs.zok k o hk
  exact (hsame _ (Array.getElem?_eq_some_iff.1 this).1).trans this
theorem extOK_tab {C : Cfg} (hgo : NoGo C.P) (hm : C.P.follows .mixedOrders = true) (h0 : ExtOK C) {T : List Tell} (hT : AllG C T) {TH : List TellH} (hH : AllH C TH) : ExtOK (C.more2 (tabExt C.ext T) (tabExh C.exh T TH)) := by
 refine ⟨fun f g hf args v hv Z ρ H w vals hs hl => ?_,h0.lay,fun f g hf args v H hv Z ρ w vals hs hl => ?_⟩
 ·have hf' : (if tabHas T f then some (tabFn T f) else C.ext f) = some g := hf
  split at hf'
  ·simp only [Option.some.injEq] at hf'
   subst hf'
   obtain ⟨t,⟨⟨e,x,he,ha⟩,hb⟩,rfl,rfl,rfl⟩ := tabFn_some hT hv
   exact ext_of_ans (C := C.more2 e x) hgo hm he ha hb Z ρ H w vals hs hl
  ·exact h0.ext f g hf' args v hv Z ρ H w vals hs hl
 ·have hf' : (if tabHHas TH f || tabHas T f then some (tabX T TH f) else C.exh f) = some g := hf
  split at hf'
  ·simp only [Option.some.injEq] at hf'
   subst hf'
   unfold tabX at hv
   split at hv
   case h_2 =>
    unfold borH at hv
    split at hv
    ·rename_i l hfz
     split at hv
     ·rename_i R hR
      split at hv
      ·rename_i hat
       simp only [Option.some.injEq] at hv
       subst hv
       have hlz : RepL (allZ w) noPls l vals := (freeze_rep (ρ := noPls) (Z1 := Z) (Z2 := allZ w) (ρ1 := ρ) (H1 := { H with lock := 0 }) (w1 := w) ⟨hs.objs,hs.inj,hs.zok,hs.fresh,Nat.zero_le _,hs.lg⟩ (fun k o hk => hs.zok k o hk) (fun b o pl _ _ _ _ => rfl) (fun b v p hb _ => absurd hb (Nat.not_lt_zero _)) 100000).2 _ _ _ hfz hl
       obtain ⟨t,⟨⟨e,x,he,ha⟩,hb⟩,rfl,rfl,rfl⟩ := tabFn_some hT hR
       have hm1 := ext_of_ans (C := C.more2 e x) hgo hm he ha hb (allZ w) noPls { objs := [],lock := 0 } w vals (start_sim w (hs.lg.mono fun k o hk => hs.zok k o hk)) hlz
       rcases hm1 with ⟨y,w',h1,h2⟩ | ⟨h1,h2⟩
       ·exact Or.inl ⟨y,w',h1,back_frozen hs hat h2⟩
       ·exact Or.inr ⟨h1,Calls.mono' h2 fun en w' he => by
         obtain ⟨y,rfl,h3⟩ := he
         exact ⟨y,rfl,back_frozen hs hat h3⟩⟩
      ·cases hv
     ·cases hv
    ·cases hv
   rename_i v2 hv2
   simp only [Option.some.injEq] at hv
   subst hv
   obtain ⟨t,⟨⟨e,x,he,n,ha⟩,hb⟩,rfl,rfl,hG,rfl⟩ := tabH_some hH hv2
   have hrec : RecOK C.P (evT (C.more2 e x) n) := (ev_sound (C := C.more2 e x) hgo he (draw_ok hm he) n).1
   let D : Cfg := { C.more2 e x with pure := fun _ _ _ => true }
   have hk : callKind D t.f t.f none t.K = 2 := by
    simp only [Bool.or_eq_false_iff] at hb
    unfold callKind
    simp only [hb.1,hb.2,Bool.false_eq_true,if_false,if_true,D]
   have hB : callB D (evT (C.more2 e x) n) t.f t.f none t.K H = some (t.R,H) := by
    unfold callB;rw [hk]
    have h1 : ({ H with lock := H.size } : Heap) = { objs := t.G,lock := t.G.length } := by
     obtain ⟨objs,lock⟩ := H
     simp only at hG
     subst hG
     rfl
    have h2 : H.size = t.G.length := by unfold Heap.size;rw [hG]
    simp only
    rw [h1,h2]
    unfold ansH at ha
    split at ha
    ·rename_i v1 H1 h3
     rw [h3]
     simp only [ha,Option.map_some]
    ·cases ha
   obtain ⟨hbody,hc⟩ := callB_sound (C := D) hrec hs hl hB
   exact Or.inr ⟨hbody.run _ _,hc⟩
  ·exact h0.exh f g hf' args v H hv Z ρ w vals hs hl
def ansC (o : Option Out) : Option AV := match o with | some (.ret v H) => freezeV { H with lock := 0 } 1000000 v | _ => none
theorem ans_of_evC {C : Cfg} {n : Nat} {f : FuncId} {args : List AV} {v : AV} (h : ansC (evT C n (.call f args { objs := [],lock := 0 })) = some v) : Ans C f args v := by
 refine Ans.iff.2 ?_
 cases ho : evT C n (.call f args { objs := [],lock := 0 }) with
 | none => rw [ho] at h;cases h
 | some o =>
  rw [ho] at h
  cases o with
  | go => cases h
  | ret x H => exact ⟨x,H,lim_iff.2 ⟨n,ho⟩,h⟩
theorem goodC {C : Cfg} (hgo : NoGo C.P) (hm : C.P.follows .mixedOrders = true) (h0 : ExtOK C) {t : Tell} (T : List Tell) (hT : AllG C T) (TH : List TellH) (hH : AllH C TH) (n : Nat)
  (h : ansC (evT (C.more2 (tabExt C.ext T) (tabExh C.exh T TH)) n (.call t.f t.K { objs := [],lock := 0 })) = some t.R) (hb : boundL t.K = 0) : GoodC C t :=
 ⟨⟨_,_,extOK_tab hgo hm h0 hT hH,ans_of_evC h⟩,hb⟩
end Go.Ev
namespace Go.Ev
end Go.Ev
namespace Go.Ev
open Go.Proofs Go.Shelf Go.RowKit
def joinH (args : List AV) (H : Heap) : Option AV :=
 match args with
 | [.sl b ver off len _,.v (.string sep)] =>
  match H.get b with
  | some (.cells v _ _ _ _ cs) =>
   if v = ver then
    match strsOf ((cs.drop off).take len) with
    | some l => if l.length = len ∧ l.length ≤ 100000 ∧ (Lib.join (l.map (·.data.toList)) sep.data.toList).length ≤ 100000 then some (.v (.string ⟨(Lib.join (l.map (·.data.toList)) sep.data.toList).toArray⟩)) else none
    | none => none
   else none
  | _ => none
 | _ => none
theorem exh_join {P : Program} {ρn : Ren} (L : Lays.n156 P ρn) (X : Builder.Extra P ρn) {f : FuncId} (hf : ρn.f 156 = f) (hbody : HasBody P f)
  {args : List AV} {v : AV} {H : Heap} (h : joinH args H = some v) (Z : Fzn) (ρ : Pls) (w : World) (vals : List Value) (hs : Sim Z ρ H w) (hl : RepL Z ρ args vals) : FnMeets P f vals w (After Z ρ H w v H) := by
 subst hf
 unfold joinH at h
 split at h
 ·rename_i b ver off len cap sep
  obtain ⟨v1,ws,rfl,hv1,hl⟩ := hl.uncons
  obtain ⟨v2,ws,rfl,hv2,hl⟩ := hl.uncons
  have : ws = [] := List.length_eq_zero_iff.1 hl.1.symm
  subst this
  obtain ⟨rfl, -⟩ := hv2.v_inv
  split at h
  ·rename_i vr m t sz g cs hg
   split at h
   ·rename_i hver
    subst hver
    split at h
    ·rename_i l hstr
     split at h
     ·rename_i hc
      simp only [Option.some.injEq] at h
      subst h
      have hxs := strsOf_some hstr
      refine Or.inr ⟨hbody.run _ _, ?_⟩
      cases hv1 with
      | sl hp hcap hcn hle =>
       rename_i c pl
       obtain ⟨pl',obj,q1,q2,q3,q4⟩ := hs.objs b _ hg rfl
       simp only [AObj.ver] at q1
       rw [hp] at q1;cases q1
       cases obj <;> simp only [RepO] at q3
       rename_i arr e fz
       obtain ⟨⟨rfl, -⟩,q5,q6,q7,pre,us,post,q8,q9,q10,q11,q12⟩ := q3
       have hblk := (Array.getElem?_eq_some_iff.1 q2).1
       have hget : ∀ (j : Nat) (x : ByteArray),l[j]? = some x → w.cell? ⟨pl.blk,pl.base + off + j,none⟩ = some (.string x) := by
        intro j x hj
        have hjl := (List.getElem?_eq_some_iff.1 hj).1
        have h1 : ((cs.drop off).take len)[j]? = some (.v (.string x)) := by rw [hxs,List.getElem?_map,hj];rfl
        have h2 : cs[off + j]? = some (.v (.string x)) := by
         rw [List.getElem?_take,if_pos (by omega),List.getElem?_drop] at h1;exact h1
        obtain ⟨y,h3,h4⟩ := q12.get h2
        obtain ⟨rfl, -⟩ := h4.v_inv
        have := cell_at q2 q8 h3
        rw [q9] at this
        rw [Nat.add_assoc];exact this
       have hcall := Any.strings_Join L X pl.blk (pl.base + off) c l sep w hget hblk (by have := hc.2.1;omega) (by omega) (by have := hc.2.2;omega)
       rw [hc.1] at hcall
       refine Calls.mono' hcall ?_
       rintro e w' ⟨rfl,hb⟩
       exact ⟨_,rfl,Z,ρ,.v rfl,hs.below hb,Ext.below hb⟩
     ·cases h
    ·cases h
   ·cases h
  ·cases h
 ·cases h
theorem extOK_exh {C C' : Cfg} (hP : C'.P = C.P) {f : FuncId} {g : List AV → Heap → Option AV} (hg : ∀ args v H,g args H = some v → ∀ (Z : Fzn) (ρ : Pls) (w : World) (vals : List Value),Sim Z ρ H w → RepL Z ρ args vals → FnMeets C.P f vals w (After Z ρ H w v H))
  (hext : ExtOK C) (he : C'.ext = C.ext := by rfl) (hlay : C'.lay = C.lay := by rfl) (hexh : C'.exh = fun f' => if Nat.beq f' f then some g else C.exh f') : ExtOK C' := by
 refine ⟨fun f' g' hf' => by rw [hP];rw [he] at hf';exact hext.ext f' g' hf',fun f' g' hf' => by rw [hP];rw [hlay] at hf';exact hext.lay f' g' hf',fun f' g' hf' args v H hv Z ρ w vals hs hl => ?_⟩
 rw [hP]
 rw [hexh] at hf'
 simp only at hf'
 split at hf'
 ·rename_i hb
  have := Nat.eq_of_beq_eq_true hb
  subst this
  simp only [Option.some.injEq] at hf'
  subst hf'
  exact hg args v H hv Z ρ w vals hs hl
 ·exact hext.exh f' g' hf' args v H hv Z ρ w vals hs hl
end Go.Ev
namespace Go.Proofs
open Go.Shelf
open Go.RowKit in
open Go.RowKit in
open Go.RowKit in
open Go.RowKit in
def Tryz.lays156_ren : Go.Shelf.Ren := ⟨fun | 156 => 88 | 165 => 107 | 166 => 40 | 169 => 43 | 240 => 66 | 241 => 133 | 276 => 84 | 277 => 161 | n => n,fun | 31 => 22 | 9 => 9 | 3 => 3 | 4 => 4 | 0 => 0 | 20 => 20 | 72 => 88 | 76 => 91 | 70 => 86 | 37 => 33 | 75 => 90 | 127 => 134 | 164 => 162 | 5 => 5 | 80 => 95 | n => n,fun | n => n⟩
theorem Tryz.lays156 : Go.Proofs.Lays.n156 Tryz.prog Tryz.lays156_ren := {
 mixed := by kernel_rfl
 f156 := Tryz.func88.trans (congrArg some (by kernel_rfl))
 f165 := Tryz.func107.trans (congrArg some (by kernel_rfl))
 f166 := Tryz.func40.trans (congrArg some (by kernel_rfl))
 f169 := Tryz.func43.trans (congrArg some (by kernel_rfl))
 f240 := Tryz.func66.trans (congrArg some (by kernel_rfl))
 f241 := Tryz.func133.trans (congrArg some (by kernel_rfl))
 f276 := Tryz.func84.trans (congrArg some (by kernel_rfl))
 f277 := Tryz.func161.trans (congrArg some (by kernel_rfl))
 t0 := Tryz.underlying0
 a0 := Tryz.isAgg0
 z0 := Tryz.sizeOf0
 v0 := Tryz.zeroValue0
 t3 := Tryz.underlying3
 a3 := Tryz.isAgg3
 z3 := Tryz.sizeOf3
 v3 := Tryz.zeroValue3
 t4 := Tryz.underlying4
 a4 := Tryz.isAgg4
 z4 := Tryz.sizeOf4
 v4 := Tryz.zeroValue4
 t9 := Tryz.underlying9
 a9 := Tryz.isAgg9
 z9 := Tryz.sizeOf9
 v9 := Tryz.zeroValue9
 t20 := Tryz.underlying20
 a20 := Tryz.isAgg20
 z20 := Tryz.sizeOf20
 v20 := Tryz.zeroValue20
 t31 := Tryz.underlying22
 a31 := Tryz.isAgg22
 z31 := Tryz.sizeOf22
 v31 := Tryz.zeroValue22
 t37 := Tryz.underlying33
 a37 := Tryz.isAgg33
 z37 := Tryz.sizeOf33
 v37 := Tryz.zeroValue33
 t70 := Tryz.underlying86
 a70 := Tryz.isAgg86
 z70 := Tryz.sizeOf86
 v70 := Tryz.zeroValue86
 t72 := Tryz.underlying88
 a72 := Tryz.isAgg88
 z72 := Tryz.sizeOf88
 v72 := Tryz.zeroValue88
 t75 := Tryz.underlying90
 a75 := Tryz.isAgg90
 z75 := Tryz.sizeOf90
 v75 := Tryz.zeroValue90
 t76 := Tryz.underlying91
 a76 := Tryz.isAgg91
 z76 := Tryz.sizeOf91
 v76 := Tryz.zeroValue91
 t127 := Tryz.underlying134
 a127 := Tryz.isAgg134
 z127 := Tryz.sizeOf134
 v127 := Tryz.zeroValue134
 t164 := Tryz.underlying162
 a164 := Tryz.isAgg162
 z164 := Tryz.sizeOf162
 v164 := Tryz.zeroValue162 }
theorem Tryz.Builder_Extra_156 : Builder.Extra Tryz.prog Tryz.lays156_ren := {
 sizeBuilder := by kernel_rfl
 liesBuilder := by kernel_rfl
 t5 := Tryz.underlying5
 a5 := Tryz.isAgg5
 z5 := Tryz.sizeOf5
 v5 := Tryz.zeroValue5
 infoByte := by kernel_rfl
 cellsByte := by kernel_rfl
 sizeByte := by kernel_rfl
 neB5 := by decide }
open Go.RowKit in
theorem Tryz.strings_Join_none (a : Option Addr) (c : Nat) (sep : ByteArray) (w : World) :
  Calls Tryz.prog 88 #[.slice a 0 c,.string sep] w fun e w' => e = .returned (.string ⟨#[]⟩) ∧ w' = w := Any.strings_Join_none Tryz.lays156 Tryz.Builder_Extra_156 a c sep w
open Go.RowKit in
theorem Tryz.strings_Join (bk o c : Nat) (xs : List ByteArray) (sep : ByteArray) (w : World) (hcells : ∀ (j : Nat) x,xs[j]? = some x → w.cell? ⟨bk,o + j,none⟩ = some (.string x)) (hbk : bk < w.heap.size) (hN : xs.length ≤ 140737488355328) (hcap : xs.length ≤ c) (hlen : (Lib.join (xs.map (·.data.toList)) sep.data.toList).length ≤ 140737488355328) :
  Calls Tryz.prog 88 #[.slice (some ⟨bk,o,none⟩) xs.length c,.string sep] w fun e w' => e = .returned (.string ⟨(Lib.join (xs.map (·.data.toList)) sep.data.toList).toArray⟩) ∧ Below w.heap.size w w' := Any.strings_Join Tryz.lays156 Tryz.Builder_Extra_156 bk o c xs sep w hcells hbk hN hcap hlen
end Go.Proofs
namespace Go.Ev.Cl
open Go.Proofs
def impF : List Nat := [40,43,52,66,100,112,116,120,135,138,143,144,147,150,154,155,157,158,160,166,179,180,182,190,197,198,199,200,201,202,203,204,215,216,217,218,219,224]
def impC : List (Nat × Nat × Nat) := [(93,117,7)]
def altF : List Nat := []
def altC : List (Nat × Nat) := []
def nearF : List Nat := [46]
def nearC : List (Nat × Nat) := []
def keepF : Nat → List Nat
 | 2 => []
 | 3 => [0,5,25,7,33,6,10,9,8,58,1,11,74,73,75,17,80,15,14,13,16,12,4]
 | 4 => [0,7,30,9,38,8,46,1,10,53,52,54,11,12,13,82,14,2,100,17,16,15,131,171,6]
 | 5 => [0,5,30,7,38,1,8,50,49,51,9,10,11,6,73,14,13,12,100,119,17,16,15,4]
 | 6 => [0,1,9,33,11,10,51,12,14,13,69,2,3,15,16,17,100,18,20,19,126,8]
 | 7 => [0,1,2,7,33,9,11,8,10,12,13,14,15,6]
 | 8 => [0,1,2,7,35,9,8,55,11,13,15,17,110,14,12,16,10,6]
 | 9 => [0,3,1,2,7,39,9,48,8,76,11,84,10,90,89,91,12,14,16,13,15,116,134,18,17,20,19,21,6]
 | 10 => [0,2,5,25,1,6,8,10,9,7,72,77,76,78,11,13,15,12,14,105,17,4]
 | 11 => [2,1,3,5,4,7,6,8,9,11,10,139,12,13,14,15,16,17,18,19,20,21,0]
 | 12 => [0,2]
 | 13 => [0,4,10,14,13,15,6,5,26,2,3]
 | 14 => [0,9,2,3,11,12,13,6,5,4]
 | 15 => [0,1,10,5,14,25,4]
 | 16 => [0,2,7,16,4,1,8,22,6,28,9,5]
 | 17 => [1,3,0,23,6,4,5]
 | 18 => [0,1,2,20,21,30,6,7]
 | 19 => [1,0,2,6]
 | 20 => [0,1,7,6,24,4,5]
 | 21 => [0,1,2]
 | 22 => [0,1,4,2]
 | 23 => [0,1,12,3,17,26,2]
 | 24 => [0,2,1,7,15,6,4,5]
 | 25 => [0,1,4,5,2,3]
 | 26 => [0,2,1,7,15,4,6,5]
 | 27 => [0,1,2,3,22,5,27,6,7,59,4]
 | 28 => [0,2]
 | 29 => [0]
 | 30 => [0,1,2,3,6,11,4,5]
 | 31 => [0]
 | 32 => [0]
 | 33 => [0,1,4,8,2,3]
 | 34 => [0,1,2,3,6,11,4,5]
 | 35 => [0]
 | 36 => [0,4,11,15,14,16,13,6,31,7,37,2,3]
 | 37 => [0,1,2,6]
 | 38 => [3,0,8,17,4,24,42,2]
 | 39 => [0,5,2]
 | 40 => [0,1,4,5]
 | 41 => [0,1,4]
 | 42 => [0,2]
 | 43 => [0,2]
 | 44 => [0,1,2]
 | 45 => [0,1,4,21,2,5,37,36,38,35,7,44,3]
 | 46 => [0,2,1,20,19,21,18,5,7,4]
 | 47 => [0,1,5,6,4]
 | 48 => [0,1,2]
 | 49 => [0,1,2,6]
 | 50 => [0,8,11,10,12,4,22,28,27,29,5,41,3,2]
 | 51 => [0,1,10,13,12,14,5,24,4]
 | 52 => [0,4,2]
 | 53 => [1,2,5,4,13,23,0,8,31,6,7]
 | 54 => [0,1,4,11,2]
 | 55 => [0,6,3,10,18,2]
 | 56 => [0,2,7,14,4,6,1,25,5]
 | 57 => [0,1,2,3,6,4]
 | 58 => [0,1,18,17,19,16,4,6,3,2]
 | 59 => [0,1,4,2]
 | 60 => [0,1,11,10,12,9,3,5,27,26,28,25,7,2]
 | 61 => [0,1,2,3,6,4]
 | 62 => [0,1,11,10,12,9,3,5,32,31,33,30,7,2]
 | 63 => [0,9,8,10,7,4,6,20,2]
 | 64 => [0,1,9,8,10,7,6,2,22,4]
 | 65 => [0,8,7,9,6,3,5,24,34,2]
 | 66 => [0,6,19]
 | 67 => [1,0,13,12,14,5,6,4]
 | 68 => [7,8,1,3,4,6,19,5,0,30]
 | 69 => [0,6,7,1,29,4,5]
 | 70 => [0,1,2,4]
 | 71 => [1,0,3,4]
 | 72 => [7,0,1,2,25,6]
 | 73 => [0,1,4]
 | 74 => [0,1,4]
 | 75 => [0,1,17,5,27,4,7,6,49,2,3]
 | 76 => [0,1,2,7,14,4,6,3,20,5]
 | 77 => [0,8,7,9,6,5,13,3,2]
 | 78 => [0,8,7,9,6,3,5,2]
 | 79 => [0,1,2]
 | 80 => [0,1,6,2,3]
 | 81 => [0,1,2,6,17,4,3,25,24,26,23,9,33,32,34,31,11,40,39,41,38,7,8,10,12,13,73,5]
 | 82 => [0,1,17,18,3,5,26,4,35,2]
 | 83 => [0,1,2,3,6,12,4,5]
 | 85 => [0,1,4]
 | 86 => [0,11,10,12,9,3,5,20,27,26,28,25,6,8,2]
 | 87 => [0,1,3,2,30,35,36,37,5,7,4]
 | 88 => [0,12,13,15,1,22,29,5,41,40,42,39,7,49,8,65,64,66,63,10,4]
 | 89 => [0,2]
 | 90 => [0,1,11,15,14,16,13,4,3,38,2]
 | 91 => [0,2]
 | 92 => [0,1,10,14,13,15,12,5,7,2,27,4]
 | 93 => [0,1,2,5,4]
 | 94 => [0,1,2]
 | 95 => [0,7,6,8,5,4,26,2]
 | 96 => [0,8,7,9,6,5,3,14,2]
 | 97 => [0,1,4]
 | 98 => [0,1,2,3,4]
 | 99 => [0,1,4]
 | 100 => [1,6,0,16,4]
 | 101 => [0,2]
 | 102 => [0,1,12,11,13,10,2,7,8,5,42,4]
 | 103 => [3,0,9,4,5,38,2]
 | 104 => [0,1,2,15,14,16,13,5,7,29,30,31,8,10,9,3,4]
 | 105 => [0,1,2]
 | 106 => [0,2]
 | 107 => [0,1,7,21]
 | 108 => [0,2]
 | 109 => [0,1,9,8,10,7,6,2,22,4]
 | 110 => [1,0,3,4]
 | 111 => [0,12,15,14,16,4,25,31,30,32,29,6,37,3,2]
 | 112 => [0,1,4]
 | 113 => [0,1,2]
 | 114 => [0,1,2]
 | 115 => [0,1,3,2,4]
 | 116 => [0,5,1,4]
 | 117 => [0,1,2]
 | 118 => [0,1,2,3,4]
 | 119 => [0,1,5,11,6,12,13,16,19,4]
 | 120 => [0,11,10,12,9,3,5,20,21,22,7,31,2]
 | 121 => [0,10,9,11,8,1,6,17,5,7,4]
 | 122 => [1,2,0,4]
 | 123 => [0,2]
 | 124 => [0,5,2,8,10,11,3,14]
 | 125 => [0,1,4]
 | 127 => [0]
 | 128 => [0,1,3,2,13,5,27,4]
 | 129 => [0,1,2,3,4]
 | 130 => [0,1,15,14,16,13,6,8,9,5,4]
 | 131 => [1,0,11,10,12,9,7,8,3,24,5,4]
 | 132 => [1,10,9,11,8,4,18,17,19,0,3,5,31]
 | 133 => [0,1,4]
 | 134 => [1,11,0,17,23,6,7,5,34,9,4]
 | 135 => [0,1,4]
 | 136 => [0,2,1,3]
 | 137 => [0,9,12,11,13,3,24,2]
 | 138 => [0,8,7,9,1,5,16,4]
 | 139 => [0,1,9,8,10,7,6,2,22,4]
 | 140 => [0]
 | 141 => [0,2]
 | 142 => [0]
 | 143 => [0,2]
 | 144 => [0,4,1]
 | 145 => [1,7,6,8,5,0,4,14]
 | 146 => [0,2]
 | 147 => [0,1,2]
 | 148 => [0,1,9,8,10,7,6,2,22,4]
 | 149 => [0,1,12,21,6,34,5,4]
 | 150 => [0,1,4]
 | 152 => [1,3,0,4]
 | 153 => [1,0,4]
 | 154 => [0,2,4]
 | 155 => [0,2,1,4]
 | 156 => [1,0,3,4]
 | 157 => [0,2,1,4]
 | 158 => [0,2,1,4]
 | 159 => [1,3,0,4]
 | 160 => [0,2,1,4]
 | 162 => [0,4,2]
 | 163 => [0,3,2]
 | 164 => [0,4,20,1,5,7,6,9,8,11,10,99,12,13,15,14,139,16,161]
 | 165 => [2,28,3,30,1,34,15,46,13,16,12,14,17,68,18,89,4,94,0,10,11]
 | 166 => [0,8,7,9,1,5,16,4]
 | 167 => [0,1,3,4]
 | 168 => [0,2]
 | 169 => [0,1,2]
 | 170 => [0,2,3,1,6]
 | 171 => [0,1,3,2,4]
 | 172 => [0,1,2,3,4]
 | 173 => [0,2,3,1,5,6]
 | 174 => [0,1,2,3,4]
 | 175 => [0,1,2,3,4]
 | 176 => [0,2,3,5,6]
 | 177 => [0,1,3,4]
 | 178 => [0,2,6]
 | 179 => [0,1,6,7,2,5,4]
 | 180 => [2,1,12,25,0,4,3,32,10,39,14,56,13,11,75,80,97,15,17,16,18,19,125,20]
 | 181 => [0,2]
 | 182 => [1,3,8,0,18]
 | 183 => [0,1,13,4]
 | 184 => [0,1,16,4]
 | 185 => [4,0,9,5,16,2,3]
 | 186 => [0,7,1,12,4]
 | 187 => [0,7,1,15,4]
 | 188 => [0,9,1,5,18,6,4]
 | 189 => [0,9,5,17,1,26,6,4]
 | 190 => [0,1,2,4,3,5,6]
 | 191 => [0,2]
 | 192 => [0,4,8,2,14]
 | 193 => [0,3,2]
 | 194 => [0,2]
 | 195 => [0,2]
 | 196 => [1,0,3,4]
 | 197 => [1,8,2,14,9,3,0,34]
 | 198 => [1,2,10,11,21,0,8,3,12,33,9]
 | 199 => [2,1,8,17,11,35,9,10,12,45,0]
 | 200 => [2,1,10,34,36,0,12,3,11,13,14,55,57,60,8,9]
 | 201 => [1,2,8,9,15,0]
 | 202 => [1,10,16,9,2,3,0,36,41,45,65,11,69,84,104,12,109,124,8]
 | 203 => [0,1,3,2,11,12,4,47,65,70,10]
 | 204 => [0,1,3,2,12,13,4,47,66,71,120,139,144,10,11]
 | 205 => [0,4,8,2]
 | 206 => [0,1,4]
 | 207 => [0,10,2,3]
 | 208 => [0,1,4]
 | 209 => [0,4,10,5,2,18,6,27,33,35,3,48]
 | 210 => [1,11,2,14,0,6,25,7,33,3,8,42]
 | 211 => [0,1,4]
 | 212 => [0,4,2]
 | 213 => [0,4,2]
 | 214 => [1,0,8,7,9,3,5,16,4]
 | 215 => [1,10,11,2,18,4,0,3,40,58]
 | 216 => [0,2]
 | 217 => [0,2]
 | 218 => [0,1,2,3,8]
 | 219 => [0,1,2,4,5,3,12]
 | 220 => [0,4,16,5,6,23,7,8,45,10,9,57,59,11,75,77,12,98,2,3]
 | 221 => [1,160,0,171,175,177,176,6,181,5,183,7,8,9,26,33,11,43,12,51,64,10,98,13,108,124,14,15,139,16,143,156,4]
 | 222 => [0,2]
 | 223 => [1,5,0,16,24,31,36,8,9,59,6,64,11,73,7,93,10,107,12,114,132,13,139,4]
 | 224 => [4,0,2,1,22,3,10,11]
 | 225 => [0,3,10,2]
 | 226 => [0,2]
 | 228 => [1,9,7,20,8,0,5,39,10,44,6,77,4]
 | 229 => [5,0,12,4,8,25,30,6,7,2,3]
 | 256 => []
 | _ => []
def isImp (me f : Nat) (d : Option Nat) : Bool := impF.any (Nat.beq f) || impC.any fun t => Nat.beq t.1 me && Nat.beq t.2.1 f && (match d with | some d => Nat.beq t.2.2 d | none => false)
noncomputable def CC : Cfg := { P := Tryz.prog,pure := fun me f d => !(isImp me f d),alter := fun me d => altF.any (Nat.beq me) || (match d with | some d => altC.any fun t => Nat.beq t.1 me && Nat.beq t.2 d | none => false),keep := keepF,ext := fun f' => if Nat.beq f' 88 then some joinStr else if Nat.beq f' 126 then some idxStr else if Nat.beq f' 151 then some cmpStr else none,exh := fun f' => if Nat.beq f' 88 then some joinH else (fun _ => none) f',near := fun me d => nearF.any (Nat.beq me) || (match d with | some d => nearC.any fun t => Nat.beq t.1 me && Nat.beq t.2 d | none => false),lay := fun f' => if Nat.beq f' 66 then some (ccA 88) else none }
theorem mixedC : CC.P.follows .mixedOrders = true := by show Tryz.prog.follows .mixedOrders = true;kernel_rfl
theorem nogo_allC : (Tryz.prog.funcs.toList.all fun fn => !(fn.body.isSome && (fn.name == "runtime.NumGoroutine"))) = true := by kernel_rfl
theorem nogoC : NoGo CC.P := by
 intro f fn hf hb
 have h := List.all_eq_true.1 nogo_allC fn (by
  have : Tryz.prog.funcs[f]? = some fn := hf
  exact List.mem_of_getElem? (by simpa using this))
 rw [hb] at h
 simpa using h
theorem extOKZ0 : ExtOK { CC with ext := fun _ => none,exh := fun _ => none,lay := fun _ => none } := by
 exact ⟨fun _ _ h => (nomatch h),fun _ _ h => (nomatch h),fun _ _ h => (nomatch h)⟩
theorem extOKZ : ExtOK { CC with ext := fun _ => none,exh := fun _ => none } := by
 refine extOK_lay (C := { CC with ext := fun _ => none,exh := fun _ => none,lay := fun _ => none }) (f := 66) (g := ccA 88) rfl ?_ extOKZ0 rfl rfl rfl
 intro args H v H' h
 exact lay_cc Go.Proofs.Tryz.lays156 Go.Proofs.Tryz.Builder_Extra_156 (f := 66) rfl ⟨_,Tryz.func66,by kernel_rfl,by kernel_rfl⟩ h
theorem extOKJ : ExtOK { CC with ext := fun _ => none,exh := fun f' => if Nat.beq f' 88 then some joinH else (fun _ => none) f' } := by
 refine extOK_exh (C := { CC with ext := fun _ => none,exh := fun _ => none }) (f := 88) (g := joinH) rfl ?_ extOKZ rfl rfl rfl
 intro args v H h Z ρ w vals hs hl
 exact exh_join Go.Proofs.Tryz.lays156 Go.Proofs.Tryz.Builder_Extra_156 (f := 88) rfl ⟨_,Tryz.func88,by kernel_rfl,by kernel_rfl⟩ h Z ρ w vals hs hl
theorem extOKN : ExtOK (CC.more fun _ => none) := extOKJ
theorem extOKE0 : ExtOK (CC.more (fun f' => if Nat.beq f' 151 then some cmpStr else none)) := by
 refine extOK_more (C := CC.more (fun _ => none)) (f := 151) (g := cmpStr) rfl ?_ extOKN rfl
 intro args v h Z ρ H w vals hs hl
 exact ext_cmp (fn := Tryz.f151) Tryz.func151 (by kernel_rfl) (by kernel_rfl) (by kernel_rfl) (by kernel_rfl) h Z ρ H w vals hs hl
theorem extOKE1 : ExtOK (CC.more (fun f' => if Nat.beq f' 126 then some idxStr else if Nat.beq f' 151 then some cmpStr else none)) := by
 refine extOK_more (C := CC.more (fun f' => if Nat.beq f' 151 then some cmpStr else none)) (f := 126) (g := idxStr) rfl ?_ extOKE0 rfl
 intro args v h Z ρ H w vals hs hl
 exact ext_idx (fn := Tryz.f126) Tryz.func126 (by kernel_rfl) (by kernel_rfl) (by kernel_rfl) (by kernel_rfl) h Z ρ H w vals hs hl
theorem extOKE2 : ExtOK (CC.more (fun f' => if Nat.beq f' 88 then some joinStr else if Nat.beq f' 126 then some idxStr else if Nat.beq f' 151 then some cmpStr else none)) := by
 refine extOK_more (C := CC.more (fun f' => if Nat.beq f' 126 then some idxStr else if Nat.beq f' 151 then some cmpStr else none)) (f := 88) (g := joinStr) rfl ?_ extOKE1 rfl
 intro args v h Z ρ H w vals hs hl
 exact ext_join Go.Proofs.Tryz.lays156 Go.Proofs.Tryz.Builder_Extra_156 (f := 88) rfl ⟨_,Tryz.func88,by kernel_rfl,by kernel_rfl⟩ h Z ρ H w vals hs hl
theorem extOKC : ExtOK CC := extOKE2
abbrev Good (t : Tell) : Prop := GoodC CC t
theorem good {t : Tell} (T : List Tell) (hT : AllG CC T) (TH : List TellH) (hH : AllH CC TH) (h : ansC (evT (CC.more2 (tabExt CC.ext T) (tabExh CC.exh T TH)) 1000 (.call t.f t.K { objs := [],lock := 0 })) = some t.R) (hb : boundL t.K = 0) : Good t :=
 goodC nogoC mixedC extOKC T hT TH hH 1000 h hb
end Go.Ev.Cl
namespace Go.Ev.Cl
def q0 : AV := .v (.string ⟨⟨[97,98]⟩⟩)
def q1 : AV := .v (.string ⟨⟨[98]⟩⟩)
def q2 : AV := .vs 1 [q0,q1] (some 2)
def q3 : AV := .v (.int .i64 0)
def q4 : AV := .v (.string ⟨⟨[115,103]⟩⟩)
def q5 : AV := .v (.string ⟨⟨[97,98,32,115,103,10]⟩⟩)
def q6 : AV := .v (.int .i64 1)
def q7 : AV := .v (.string ⟨⟨[101,97]⟩⟩)
def q8 : AV := .v (.string ⟨⟨[98,32,101,97,10]⟩⟩)
def q9 : AV := .v (.string ⟨⟨[97,98,32,115,103,10,98,32,101,97,10]⟩⟩)
def q10 : AV := .vs 1 [q0] (some 1)
def q11 : AV := .v (.string ⟨⟨[97,98,32,115,103,10,98,32,101,97]⟩⟩)
def q12 : AV := .v (.string ⟨⟨[]⟩⟩)
def q13 : AV := .v (.string ⟨⟨[98,32,101,97]⟩⟩)
def q14 : AV := .vs 1 [q0] none
def q15 : AV := .v (.slice none 0 0)
def q16 : AV := .agg [q2,q15]
def q17 : AV := .vs 1 [q0,q1] none
def q18 : AV := .v (.string ⟨⟨[99]⟩⟩)
def q19 : AV := .vs 1 [q0,q18,q1] (some 3)
def q20 : AV := .vs 1 [q18] none
def q21 : AV := .agg [q6,q3,q20]
def q22 : AV := .agg [q17,.vs 3 [q21] none]
def q23 : AV := .vs 1 [q18] (some 1)
def q24 : AV := .agg [q3,q6,q15]
def q25 : AV := .vs 1 [q0,q18,q1] none
def q26 : AV := .vs 1 [] none
def q27 : AV := .vs 1 [q18,q1] none
def q28 : AV := .agg [q6,q3,q23]
def q29 : AV := .vs 3 [q28,q24] (some 2)
def q30 : AV := .agg [q2,q29]
def q31 : AV := .tup [.agg [q2,q29,.vs 1 [q17,q25,q27] none],q3]
def q32 : AV := .agg [q25,.vs 3 [q24] none]
def q33 : AV := .v (.string ⟨⟨[116,104,101]⟩⟩)
def q34 : AV := .v (.string ⟨⟨[115,101,97]⟩⟩)
def q35 : AV := .v (.string ⟨⟨[105,115]⟩⟩)
def q36 : AV := .v (.string ⟨⟨[111,108,100]⟩⟩)
def q37 : AV := .vs 1 [q33,q34,q35,q36] (some 4)
def q38 : AV := .vs 1 [q36,q33,q34] (some 3)
def q39 : AV := .vs 1 [q37,q38] (some 2)
def q40 : AV := .v (.string ⟨⟨[97,110,100]⟩⟩)
def q41 : AV := .vs 1 [q34,q40,q34] (some 3)
def q42 : AV := .vs 1 [q41] (some 1)
def q43 : AV := .v (.int .i64 7)
def q44 : AV := .v (.int .i64 3)
def q45 : AV := .agg [.vs 2 [.agg [q43,q39],.agg [q44,q42]] (some 2)]
def q46 : AV := .tup [q45,q3]
def q47 : AV := .agg [q3,q3,q44]
def q48 : AV := .v (.string ⟨⟨[99,111,108,100]⟩⟩)
def q49 : AV := .v (.int .u8 3)
def q50 : AV := .agg [q3,q3,q44,q49,q48]
def q51 : AV := .agg [q3,q6,q6]
def q52 : AV := .v (.int .u8 1)
def q53 : AV := .agg [q3,q6,q6,q52,q12]
def q54 : AV := .agg [q6,q3,q44]
def q55 : AV := .v (.string ⟨⟨[115,97,108,116]⟩⟩)
def q56 : AV := .v (.int .u8 2)
def q57 : AV := .agg [q6,q3,q44,q56,q55]
def q58 : AV := .vs 5 [q50,q53,q57] (some 3)
def q59 : AV := .v (.int .i64 (-1))
def q60 : AV := .agg [q3,q3,q3]
def q61 : AV := .vs 5 [q50] none
def q62 : AV := .vs 1 [q33,q34,q35,q48] none
def q63 : AV := .agg [q3,q6,q3]
def q64 : AV := .vs 5 [q53] none
def q65 : AV := .vs 1 [q36,q34] none
def q66 : AV := .agg [q6,q3,q3]
def q67 : AV := .vs 5 [q57] none
def q68 : AV := .vs 1 [q34,q40,q34,q55] none
def q69 : AV := .v (.int .i64 4)
def q70 : AV := .agg [q69,q58]
def q71 : AV := .v (.string ⟨⟨[52]⟩⟩)
def q72 : AV := .v (.string ⟨⟨[99,111,112,121]⟩⟩)
def q73 : AV := .v (.string ⟨⟨[99,111,112,121,32,52]⟩⟩)
def q74 : AV := .v (.string ⟨⟨[48,32,48,32,51]⟩⟩)
def q75 : AV := .v (.string ⟨⟨[111,116,104,101,114]⟩⟩)
def q76 : AV := .v (.string ⟨⟨[111,116,104,101,114,32,48,32,48,32,51,32,99,111,108,100]⟩⟩)
def q77 : AV := .v (.string ⟨⟨[48,32,49,32,49]⟩⟩)
def q78 : AV := .v (.string ⟨⟨[111,109,105,116]⟩⟩)
def q79 : AV := .v (.string ⟨⟨[111,109,105,116,32,48,32,49,32,49]⟩⟩)
def q80 : AV := .v (.string ⟨⟨[49,32,48,32,51]⟩⟩)
def q81 : AV := .v (.string ⟨⟨[112,117,116]⟩⟩)
def q82 : AV := .v (.string ⟨⟨[112,117,116,32,49,32,48,32,51,32,115,97,108,116]⟩⟩)
def q83 : AV := .vs 1 [q73,q76,q79,q82] none
def q84 : AV := .v (.string ⟨⟨[55]⟩⟩)
def q85 : AV := .v (.string ⟨⟨[99,104,97,112,116,101,114]⟩⟩)
def q86 : AV := .v (.string ⟨⟨[99,104,97,112,116,101,114,32,55]⟩⟩)
def q87 : AV := .v (.string ⟨⟨[116,104,101,32,115,101,97,32,105,115,32,111,108,100]⟩⟩)
def q88 : AV := .v (.string ⟨⟨[108,105,110,101]⟩⟩)
def q89 : AV := .v (.string ⟨⟨[108,105,110,101,32,116,104,101,32,115,101,97,32,105,115,32,111,108,100]⟩⟩)
def q90 : AV := .v (.string ⟨⟨[111,108,100,32,116,104,101,32,115,101,97]⟩⟩)
def q91 : AV := .v (.string ⟨⟨[108,105,110,101,32,111,108,100,32,116,104,101,32,115,101,97]⟩⟩)
def q92 : AV := .v (.string ⟨⟨[51]⟩⟩)
def q93 : AV := .v (.string ⟨⟨[99,104,97,112,116,101,114,32,51]⟩⟩)
def q94 : AV := .v (.string ⟨⟨[115,101,97,32,97,110,100,32,115,101,97]⟩⟩)
def q95 : AV := .v (.string ⟨⟨[108,105,110,101,32,115,101,97,32,97,110,100,32,115,101,97]⟩⟩)
def q96 : AV := .vs 1 [q86,q89,q91,q93,q95] none
def q97 : AV := .v (.string ⟨⟨[97,98,99,100,101,102,103,104,105,106,107,108,109,110,111,112,113,114,115,116,117,118,119,120,121,122]⟩⟩)
def q98 : AV := .v (.string ⟨⟨[115]⟩⟩)
def q99 : AV := .v (.int .i64 2)
def q100 : AV := .agg [q98,q12,q99]
def q101 : AV := .v (.string ⟨⟨[108,100]⟩⟩)
def q102 : AV := .v (.string ⟨⟨[108,100,101]⟩⟩)
def q103 : AV := .agg [q101,q102,q6]
def q104 : AV := .vs 3 [q100,q103] (some 2)
def q105 : AV := .agg [q34,q52]
def q106 : AV := .v (.string ⟨⟨[97,103,101]⟩⟩)
def q107 : AV := .agg [q106,q49]
def q108 : AV := .v (.string ⟨⟨[115,101,101]⟩⟩)
def q109 : AV := .agg [q108,q56]
def q110 : AV := .agg [q6,q52,q34,q3,q3,q3,q34,q52,q3]
def q111 : AV := .agg [q99,q56,q36,q3,q6,q3,q106,q49,q3]
def q112 : AV := .agg [q44,q49,q12,q6,q3,q99,q108,q56,q3]
def q113 : AV := .v (.int .i64 5)
def q114 : AV := .v (.int .u8 0)
def q115 : AV := .agg [q113,.v (.int .u8 4),q12,q3,q3,q3,q12,q114,q44]
def q116 : AV := .agg [q104,.vs 9 [q110,q111,q112,q115] (some 4)]
def q117 : AV := .agg [q3,q3,q99]
def q118 : AV := .agg [q6,q3,q99]
def q119 : AV := .v (.string ⟨⟨[50]⟩⟩)
def q120 : AV := .v (.string ⟨⟨[99,117,116]⟩⟩)
def q121 : AV := .v (.string ⟨⟨[99,117,116,32,115,32,50]⟩⟩)
def q122 : AV := .v (.string ⟨⟨[49]⟩⟩)
def q123 : AV := .v (.string ⟨⟨[99,117,116,32,108,100,32,108,100,101,32,49]⟩⟩)
def q124 : AV := .v (.string ⟨⟨[48,32,48,32,48]⟩⟩)
def q125 : AV := .v (.string ⟨⟨[115,101,97,32,49]⟩⟩)
def q126 : AV := .v (.string ⟨⟨[102,111,114,109]⟩⟩)
def q127 : AV := .v (.string ⟨⟨[102,111,114,109,32,49,32,115,101,97,32,115,101,97,32,49]⟩⟩)
def q128 : AV := .v (.string ⟨⟨[48,32,49,32,48]⟩⟩)
def q129 : AV := .v (.string ⟨⟨[97,103,101,32,51]⟩⟩)
def q130 : AV := .v (.string ⟨⟨[102,114,111,109]⟩⟩)
def q131 : AV := .v (.string ⟨⟨[102,114,111,109,32,50,32,48,32,49,32,48,32,111,108,100,32,97,103,101,32,51]⟩⟩)
def q132 : AV := .v (.string ⟨⟨[49,32,48,32,50]⟩⟩)
def q133 : AV := .v (.string ⟨⟨[115,101,101,32,50]⟩⟩)
def q134 : AV := .v (.string ⟨⟨[112,108,97,99,101]⟩⟩)
def q135 : AV := .v (.string ⟨⟨[112,108,97,99,101,32,51,32,49,32,48,32,50,32,115,101,101,32,50]⟩⟩)
def q136 : AV := .v (.string ⟨⟨[53]⟩⟩)
def q137 : AV := .v (.string ⟨⟨[48]⟩⟩)
def q138 : AV := .v (.string ⟨⟨[118,111,105,100]⟩⟩)
def q139 : AV := .v (.string ⟨⟨[118,111,105,100,32,53,32,51]⟩⟩)
def q140 : AV := .vs 1 [q121,q123,q127,q131,q135,q139] none
def q141 : AV := .v (.string ⟨⟨[111,108,100,32,111,108,100]⟩⟩)
def q142 : AV := .agg [q3,q3,q99,q35,q34,q141]
def q143 : AV := .vs 6 [q142] (some 1)
def q144 : AV := .v (.string ⟨⟨[48,32,48,32,50]⟩⟩)
def q145 : AV := .v (.string ⟨⟨[115,108,105,112]⟩⟩)
def q146 : AV := .v (.string ⟨⟨[115,108,105,112,32,48,32,48,32,50,32,105,115]⟩⟩)
def q147 : AV := .v (.string ⟨⟨[98,101,102,111,114,101]⟩⟩)
def q148 : AV := .v (.string ⟨⟨[98,101,102,111,114,101,32,115,101,97]⟩⟩)
def q149 : AV := .v (.string ⟨⟨[97,102,116,101,114]⟩⟩)
def q150 : AV := .v (.string ⟨⟨[97,102,116,101,114,32,111,108,100,32,111,108,100]⟩⟩)
def q151 : AV := .vs 1 [q146,q148,q150] none
def q152 : AV := .v (.string ⟨⟨[97]⟩⟩)
def q153 : AV := .vs 1 [q152,q1,q18] (some 3)
def q154 : AV := .v (.string ⟨⟨[120]⟩⟩)
def q155 : AV := .vs 1 [q154,q1,q18] (some 3)
def q156 : AV := .vs 1 [q152,q1] (some 2)
def q157 : AV := .vs 1 [q154] none
def q158 : AV := .agg [q3,q6,q157]
def q159 : AV := .vs 1 [] (some 0)
def q160 : AV := .agg [q99,q6,q159]
def q161 : AV := .vs 1 [q152,q1] none
def q162 : AV := .vs 1 [q154,q1] none
def q163 : AV := .tup [q162,q3]
def q164 : AV := .vs 1 [q73,q76,q79,q82] (some 4)
def q165 : AV := .vs 1 [q86,q89,q91,q93,q95] (some 5)
def q166 : AV := .vs 1 [q121,q123,q127,q131,q135,q139] (some 6)
def q167 : AV := .vs 1 [q146,q148,q150] (some 3)
def q168 : AV := .vs 1 [q154,q1] (some 2)
def t0 : Tell := ⟨50,[q2],(.v (.bool true))⟩
def t1 : Tell := ⟨39,[q2],q3⟩
def t2 : Tell := ⟨67,[q0,q3],q4⟩
def t3 : Tell := ⟨41,[q0,q3],q5⟩
def t4 : Tell := ⟨67,[q1,q6],q7⟩
def t5 : Tell := ⟨41,[q1,q6],q8⟩
def t6 : Tell := ⟨13,[q2],(.tup [q9,q3])⟩
def t7 : Tell := ⟨50,[q10],(.v (.bool true))⟩
def t8 : Tell := ⟨69,[q11,q3],(.tup [q0,.v (.bool true)])⟩
def t9 : Tell := ⟨50,[.vs 1 [q12] (some 1)],(.v (.bool false))⟩
def t10 : Tell := ⟨69,[q13,q6],(.tup [q12,.v (.bool false)])⟩
def t11 : Tell := ⟨14,[q11],(.tup [q14,.v (.int .i64 6),q3])⟩
def t12 : Tell := ⟨45,[q16],(.tup [.agg [q2,q15,.vs 1 [q17] none],q3])⟩
def t13 : Tell := ⟨50,[q19],(.v (.bool true))⟩
def t14 : Tell := ⟨39,[q19],q3⟩
def t15 : Tell := ⟨47,[q17,q19],q21⟩
def t16 : Tell := ⟨16,[q16,q19],(.tup [q22,q3])⟩
def t17 : Tell := ⟨50,[q23],(.v (.bool true))⟩
def t18 : Tell := ⟨50,[q15],(.v (.bool true))⟩
def t19 : Tell := ⟨70,[q24,q25],(.v (.bool true))⟩
def t20 : Tell := ⟨86,[.vs 1 [q26,q15,q27] (some 3)],q27⟩
def t21 : Tell := ⟨71,[q25,q24],q27⟩
def t22 : Tell := ⟨45,[q30],q31⟩
def t23 : Tell := ⟨56,[q30,q6],q31⟩
def t24 : Tell := ⟨24,[q30,q6],(.tup [q25,q3])⟩
def t25 : Tell := ⟨26,[q30,q6],(.tup [q32,q3])⟩
def t26 : Tell := ⟨137,[q33],(.v (.bool true))⟩
def t27 : Tell := ⟨137,[q34],(.v (.bool true))⟩
def t28 : Tell := ⟨137,[q35],(.v (.bool true))⟩
def t29 : Tell := ⟨137,[q36],(.v (.bool true))⟩
def t30 : Tell := ⟨111,[q39],(.v (.bool true))⟩
def t31 : Tell := ⟨137,[q40],(.v (.bool true))⟩
def t32 : Tell := ⟨111,[q42],(.v (.bool true))⟩
def t33 : Tell := ⟨90,[q45],(.v (.bool true))⟩
def t34 : Tell := ⟨80,[q45],q46⟩
def t35 : Tell := ⟨128,[q45,q47],q37⟩
def t36 : Tell := ⟨137,[q48],(.v (.bool true))⟩
def t37 : Tell := ⟨159,[q37,q50],(.v (.bool true))⟩
def t38 : Tell := ⟨128,[q45,q51],q38⟩
def t39 : Tell := ⟨152,[q38,q53],(.v (.bool true))⟩
def t40 : Tell := ⟨128,[q45,q54],q41⟩
def t41 : Tell := ⟨137,[q55],(.v (.bool true))⟩
def t42 : Tell := ⟨156,[q41,q57],(.v (.bool true))⟩
def t43 : Tell := ⟨102,[q45,q58],(.v (.bool true))⟩
def t44 : Tell := ⟨129,[q47,q51],q59⟩
def t45 : Tell := ⟨129,[q51,q54],q59⟩
def t46 : Tell := ⟨103,[q58],(.v (.bool true))⟩
def t47 : Tell := ⟨131,[q58,q60],q61⟩
def t48 : Tell := ⟨130,[q37,q61],q62⟩
def t49 : Tell := ⟨131,[q58,q63],q64⟩
def t50 : Tell := ⟨130,[q38,q64],q65⟩
def t51 : Tell := ⟨131,[q58,q66],q67⟩
def t52 : Tell := ⟨130,[q41,q67],q68⟩
def t53 : Tell := ⟨104,[q45,q70],(.agg [.vs 2 [.agg [q43,.vs 1 [q62,q65] none],.agg [q44,.vs 1 [q68] none]] none])⟩
def t54 : Tell := ⟨87,[q45,q70],(.v (.bool true))⟩
def t55 : Tell := ⟨76,[q45,q70],q46⟩
def t56 : Tell := ⟨57,[q45,q70],q3⟩
def t57 : Tell := ⟨78,[.vs 1 [q69] (some 1)],q71⟩
def t58 : Tell := ⟨77,[.vs 1 [q72,q71] (some 2)],q73⟩
def t59 : Tell := ⟨78,[.vs 1 [q3,q3,q44] (some 3)],q74⟩
def t60 : Tell := ⟨79,[q47],q74⟩
def t61 : Tell := ⟨77,[.vs 1 [q75,q74,q48] (some 3)],q76⟩
def t62 : Tell := ⟨78,[.vs 1 [q3,q6,q6] (some 3)],q77⟩
def t63 : Tell := ⟨79,[q51],q77⟩
def t64 : Tell := ⟨77,[.vs 1 [q78,q77,q12] (some 3)],q79⟩
def t65 : Tell := ⟨78,[.vs 1 [q6,q3,q44] (some 3)],q80⟩
def t66 : Tell := ⟨79,[q54],q80⟩
def t67 : Tell := ⟨77,[.vs 1 [q81,q80,q55] (some 3)],q82⟩
def t68 : Tell := ⟨58,[q70],q83⟩
def t69 : Tell := ⟨30,[q45,q70],(.tup [q83,q3])⟩
def t70 : Tell := ⟨59,[q45],q3⟩
def t71 : Tell := ⟨78,[.vs 1 [q43] (some 1)],q84⟩
def t72 : Tell := ⟨77,[.vs 1 [q85,q84] (some 2)],q86⟩
def t73 : Tell := ⟨77,[q37],q87⟩
def t74 : Tell := ⟨77,[.vs 1 [q88,q87] (some 2)],q89⟩
def t75 : Tell := ⟨77,[q38],q90⟩
def t76 : Tell := ⟨77,[.vs 1 [q88,q90] (some 2)],q91⟩
def t77 : Tell := ⟨78,[.vs 1 [q44] (some 1)],q92⟩
def t78 : Tell := ⟨77,[.vs 1 [q85,q92] (some 2)],q93⟩
def t79 : Tell := ⟨77,[q41],q94⟩
def t80 : Tell := ⟨77,[.vs 1 [q88,q94] (some 2)],q95⟩
def t81 : Tell := ⟨60,[q45],q96⟩
def t82 : Tell := ⟨33,[q45],(.tup [q96,q3])⟩
def t83 : Tell := ⟨185,[q97],(.tup [.agg [.v (.bool false),.v (.bool false),.v (.bool false),.v (.bool false),.v (.bool false),.v (.bool false),.v (.bool false),.v (.bool false),.v (.bool false),.v (.bool false),.v (.bool false),.v (.bool false),.v (.bool false),.v (.bool false),.v (.bool false),.v (.bool false),.v (.bool false),.v (.bool false),.v (.bool false),.v (.bool false),.v (.bool false),.v (.bool false),.v (.bool false),.v (.bool false),.v (.bool false),.v (.bool false),.v (.bool false),.v (.bool false),.v (.bool false),.v (.bool false),.v (.bool false),.v (.bool false),.v (.bool false),.v (.bool false),.v (.bool false),.v (.bool false),.v (.bool false),.v (.bool false),.v (.bool false),.v (.bool false),.v (.bool false),.v (.bool false),.v (.bool false),.v (.bool false),.v (.bool false),.v (.bool false),.v (.bool false),.v (.bool false),.v (.bool false),.v (.bool false),.v (.bool false),.v (.bool false),.v (.bool false),.v (.bool false),.v (.bool false),.v (.bool false),.v (.bool false),.v (.bool false),.v (.bool false),.v (.bool false),.v (.bool false),.v (.bool false),.v (.bool false),.v (.bool false),.v (.bool false),.v (.bool false),.v (.bool false),.v (.bool false),.v (.bool false),.v (.bool false),.v (.bool false),.v (.bool false),.v (.bool false),.v (.bool false),.v (.bool false),.v (.bool false),.v (.bool false),.v (.bool false),.v (.bool false),.v (.bool false),.v (.bool false),.v (.bool false),.v (.bool false),.v (.bool false),.v (.bool false),.v (.bool false),.v (.bool false),.v (.bool false),.v (.bool false),.v (.bool false),.v (.bool false),.v (.bool false),.v (.bool false),.v (.bool false),.v (.bool false),.v (.bool false),.v (.bool false),.v (.bool true),.v (.bool true),.v (.bool true),.v (.bool true),.v (.bool true),.v (.bool true),.v (.bool true),.v (.bool true),.v (.bool true),.v (.bool true),.v (.bool true),.v (.bool true),.v (.bool true),.v (.bool true),.v (.bool true),.v (.bool true),.v (.bool true),.v (.bool true),.v (.bool true),.v (.bool true),.v (.bool true),.v (.bool true),.v (.bool true),.v (.bool true),.v (.bool true),.v (.bool true),.v (.bool false),.v (.bool false),.v (.bool false),.v (.bool false),.v (.bool false),.v (.bool false),.v (.bool false),.v (.bool false),.v (.bool false),.v (.bool false),.v (.bool false),.v (.bool false),.v (.bool false),.v (.bool false),.v (.bool false),.v (.bool false),.v (.bool false),.v (.bool false),.v (.bool false),.v (.bool false),.v (.bool false),.v (.bool false),.v (.bool false),.v (.bool false),.v (.bool false),.v (.bool false),.v (.bool false),.v (.bool false),.v (.bool false),.v (.bool false),.v (.bool false),.v (.bool false),.v (.bool false),.v (.bool false),.v (.bool false),.v (.bool false),.v (.bool false),.v (.bool false),.v (.bool false),.v (.bool false),.v (.bool false),.v (.bool false),.v (.bool false),.v (.bool false),.v (.bool false),.v (.bool false),.v (.bool false),.v (.bool false),.v (.bool false),.v (.bool false),.v (.bool false),.v (.bool false),.v (.bool false),.v (.bool false),.v (.bool false),.v (.bool false),.v (.bool false),.v (.bool false),.v (.bool false),.v (.bool false),.v (.bool false),.v (.bool false),.v (.bool false),.v (.bool false),.v (.bool false),.v (.bool false),.v (.bool false),.v (.bool false),.v (.bool false),.v (.bool false),.v (.bool false),.v (.bool false),.v (.bool false),.v (.bool false),.v (.bool false),.v (.bool false),.v (.bool false),.v (.bool false),.v (.bool false),.v (.bool false),.v (.bool false),.v (.bool false),.v (.bool false),.v (.bool false),.v (.bool false),.v (.bool false),.v (.bool false),.v (.bool false),.v (.bool false),.v (.bool false),.v (.bool false),.v (.bool false),.v (.bool false),.v (.bool false),.v (.bool false),.v (.bool false),.v (.bool false),.v (.bool false),.v (.bool false),.v (.bool false),.v (.bool false),.v (.bool false),.v (.bool false),.v (.bool false),.v (.bool false),.v (.bool false),.v (.bool false),.v (.bool false),.v (.bool false),.v (.bool false),.v (.bool false),.v (.bool false),.v (.bool false),.v (.bool false),.v (.bool false),.v (.bool false),.v (.bool false),.v (.bool false),.v (.bool false),.v (.bool false),.v (.bool false),.v (.bool false),.v (.bool false),.v (.bool false),.v (.bool false),.v (.bool false),.v (.bool false),.v (.bool false),.v (.bool false),.v (.bool false),.v (.bool false),.v (.bool false),.v (.bool false)],.v (.bool true)])⟩
def t84 : Tell := ⟨149,[q98,q97],q12⟩
def t85 : Tell := ⟨141,[q98],(.v (.bool true))⟩
def t86 : Tell := ⟨149,[q12,q97],q12⟩
def t87 : Tell := ⟨141,[q12],(.v (.bool true))⟩
def t88 : Tell := ⟨114,[q100],(.v (.bool true))⟩
def t89 : Tell := ⟨113,[q100],(.v (.bool false))⟩
def t90 : Tell := ⟨149,[q101,q97],q12⟩
def t91 : Tell := ⟨141,[q101],(.v (.bool true))⟩
def t92 : Tell := ⟨149,[q102,q97],q12⟩
def t93 : Tell := ⟨141,[q102],(.v (.bool true))⟩
def t94 : Tell := ⟨114,[q103],(.v (.bool true))⟩
def t95 : Tell := ⟨113,[q103],(.v (.bool false))⟩
def t96 : Tell := ⟨91,[q104],(.v (.bool true))⟩
def t97 : Tell := ⟨149,[q34,q97],q12⟩
def t98 : Tell := ⟨141,[q34],(.v (.bool true))⟩
def t99 : Tell := ⟨168,[q34],(.v (.bool true))⟩
def t100 : Tell := ⟨169,[q105],(.v (.bool true))⟩
def t101 : Tell := ⟨149,[q36,q97],q12⟩
def t102 : Tell := ⟨141,[q36],(.v (.bool true))⟩
def t103 : Tell := ⟨168,[q36],(.v (.bool true))⟩
def t104 : Tell := ⟨149,[q106,q97],q12⟩
def t105 : Tell := ⟨141,[q106],(.v (.bool true))⟩
def t106 : Tell := ⟨168,[q106],(.v (.bool true))⟩
def t107 : Tell := ⟨169,[q107],(.v (.bool true))⟩
def t108 : Tell := ⟨149,[q108,q97],q12⟩
def t109 : Tell := ⟨141,[q108],(.v (.bool true))⟩
def t110 : Tell := ⟨168,[q108],(.v (.bool true))⟩
def t111 : Tell := ⟨169,[q109],(.v (.bool true))⟩
def t112 : Tell := ⟨81,[q45,q116],(.tup [.agg [q104,.vs 9 [q110,q111,q112,q115] none,.vs 9 [q110,q111,q115] none,.vs 3 [q60,.agg [q3,q3,q6],q117,q47,q63,q51,.agg [q3,q6,q99],q66,.agg [q6,q3,q6],q118] none,.vs 1 [q33,q34,q35,q36,q36,q33,q34,q34,q40,q34] none],q3])⟩
def t113 : Tell := ⟨61,[q45,q116],q3⟩
def t114 : Tell := ⟨78,[.vs 1 [q99] (some 1)],q119⟩
def t115 : Tell := ⟨77,[.vs 1 [q120,q98,q12,q119] (some 4)],q121⟩
def t116 : Tell := ⟨78,[.vs 1 [q6] (some 1)],q122⟩
def t117 : Tell := ⟨77,[.vs 1 [q120,q101,q102,q122] (some 4)],q123⟩
def t118 : Tell := ⟨78,[.vs 1 [q3,q3,q3] (some 3)],q124⟩
def t119 : Tell := ⟨79,[q60],q124⟩
def t120 : Tell := ⟨77,[.vs 1 [q34,q122] (some 2)],q125⟩
def t121 : Tell := ⟨94,[q105],q125⟩
def t122 : Tell := ⟨77,[.vs 1 [q126,q122,q34,q125] (some 4)],q127⟩
def t123 : Tell := ⟨82,[q110],q127⟩
def t124 : Tell := ⟨78,[.vs 1 [q3,q6,q3] (some 3)],q128⟩
def t125 : Tell := ⟨79,[q63],q128⟩
def t126 : Tell := ⟨77,[.vs 1 [q106,q92] (some 2)],q129⟩
def t127 : Tell := ⟨94,[q107],q129⟩
def t128 : Tell := ⟨77,[.vs 1 [q130,q119,q128,q36,q129] (some 5)],q131⟩
def t129 : Tell := ⟨82,[q111],q131⟩
def t130 : Tell := ⟨78,[.vs 1 [q6,q3,q99] (some 3)],q132⟩
def t131 : Tell := ⟨79,[q118],q132⟩
def t132 : Tell := ⟨77,[.vs 1 [q108,q119] (some 2)],q133⟩
def t133 : Tell := ⟨94,[q109],q133⟩
def t134 : Tell := ⟨77,[.vs 1 [q134,q92,q132,q133] (some 4)],q135⟩
def t135 : Tell := ⟨82,[q112],q135⟩
def t136 : Tell := ⟨78,[.vs 1 [q113] (some 1)],q136⟩
def t137 : Tell := ⟨78,[.vs 1 [q3] (some 1)],q137⟩
def t138 : Tell := ⟨77,[.vs 1 [q12,q137] (some 2)],q137⟩
def t139 : Tell := ⟨94,[.agg [q12,q114]],q137⟩
def t140 : Tell := ⟨77,[.vs 1 [q138,q136,q92] (some 3)],q139⟩
def t141 : Tell := ⟨82,[q115],q139⟩
def t142 : Tell := ⟨62,[q116],q140⟩
def t143 : Tell := ⟨34,[q45,q116],(.tup [q140,q3])⟩
def t144 : Tell := ⟨149,[q35,q97],q12⟩
def t145 : Tell := ⟨123,[q35],(.v (.bool true))⟩
def t146 : Tell := ⟨123,[q34],(.v (.bool true))⟩
def t147 : Tell := ⟨124,[q34],(.v (.bool true))⟩
def t148 : Tell := ⟨123,[q36],(.v (.bool true))⟩
def t149 : Tell := ⟨124,[q141],(.v (.bool true))⟩
def t150 : Tell := ⟨95,[.vs 6 [q142,q142] (some 2)],q3⟩
def t151 : Tell := ⟨98,[q117,q117],q3⟩
def t152 : Tell := ⟨83,[q142,q142],(.tup [q3,q3])⟩
def t153 : Tell := ⟨63,[q143],q3⟩
def t154 : Tell := ⟨78,[.vs 1 [q3,q3,q99] (some 3)],q144⟩
def t155 : Tell := ⟨79,[q117],q144⟩
def t156 : Tell := ⟨77,[.vs 1 [q145,q144,q35] (some 3)],q146⟩
def t157 : Tell := ⟨77,[.vs 1 [q147,q34] (some 2)],q148⟩
def t158 : Tell := ⟨77,[.vs 1 [q149,q141] (some 2)],q150⟩
def t159 : Tell := ⟨65,[q143],q151⟩
def t160 : Tell := ⟨36,[q143],(.tup [q151,q3])⟩
def t161 : Tell := ⟨50,[q153],(.v (.bool true))⟩
def t162 : Tell := ⟨50,[q155],(.v (.bool true))⟩
def t163 : Tell := ⟨50,[q156],(.v (.bool true))⟩
def t164 : Tell := ⟨47,[q153,q155],q158⟩
def t165 : Tell := ⟨47,[q153,q156],q160⟩
def t166 : Tell := ⟨86,[.vs 1 [.vs 1 [q152,q1] (some 3),q159,q159] (some 3)],q161⟩
def t167 : Tell := ⟨71,[q153,q160],q161⟩
def t168 : Tell := ⟨86,[.vs 1 [q26,q157,.vs 1 [q1] none] (some 3)],q162⟩
def t169 : Tell := ⟨71,[q161,q158],q162⟩
def t170 : Tell := ⟨53,[q153,q158,q160],q163⟩
def t171 : Tell := ⟨18,[q153,q155,q156],q163⟩
def t172 : Tell := ⟨15,[q14,q10],(.v (.bool true))⟩
def t173 : Tell := ⟨19,[q14,q3,q10],(.v (.bool true))⟩
def t174 : Tell := ⟨15,[q17,q2],(.v (.bool true))⟩
def t175 : Tell := ⟨15,[q20,q23],(.v (.bool true))⟩
def t176 : Tell := ⟨27,[q22,.agg [q2,.vs 3 [q28] (some 2)]],(.v (.bool true))⟩
def t177 : Tell := ⟨15,[q25,q19],(.v (.bool true))⟩
def t178 : Tell := ⟨19,[q25,q3,q19],(.v (.bool true))⟩
def t179 : Tell := ⟨15,[q15,q15],(.v (.bool true))⟩
def t180 : Tell := ⟨27,[q32,.agg [q19,.vs 3 [q24] (some 1)]],(.v (.bool true))⟩
def t181 : Tell := ⟨15,[q83,q164],(.v (.bool true))⟩
def t182 : Tell := ⟨19,[q83,q3,q164],(.v (.bool true))⟩
def t183 : Tell := ⟨15,[q96,q165],(.v (.bool true))⟩
def t184 : Tell := ⟨19,[q96,q3,q165],(.v (.bool true))⟩
def t185 : Tell := ⟨15,[q140,q166],(.v (.bool true))⟩
def t186 : Tell := ⟨19,[q140,q3,q166],(.v (.bool true))⟩
def t187 : Tell := ⟨15,[q151,q167],(.v (.bool true))⟩
def t188 : Tell := ⟨19,[q151,q3,q167],(.v (.bool true))⟩
def t189 : Tell := ⟨15,[q162,q168],(.v (.bool true))⟩
def t190 : Tell := ⟨19,[q162,q3,q168],(.v (.bool true))⟩
end Go.Ev.Cl
namespace Go.Ev.Cl
theorem g0 : Good t0 := good [] trivial [] trivial (by kernel_rfl) (by kernel_rfl)
theorem g1 : Good t1 := good [t0] ⟨g0,trivial⟩ [] trivial (by kernel_rfl) (by kernel_rfl)
theorem g2 : Good t2 := good [] trivial [] trivial (by kernel_rfl) (by kernel_rfl)
theorem g3 : Good t3 := good [t2] ⟨g2,trivial⟩ [] trivial (by kernel_rfl) (by kernel_rfl)
theorem g4 : Good t4 := good [] trivial [] trivial (by kernel_rfl) (by kernel_rfl)
theorem g5 : Good t5 := good [t4] ⟨g4,trivial⟩ [] trivial (by kernel_rfl) (by kernel_rfl)
theorem g6 : Good t6 := good [t1,t3,t5] ⟨g1,g3,g5,trivial⟩ [] trivial (by kernel_rfl) (by kernel_rfl)
theorem g7 : Good t7 := good [] trivial [] trivial (by kernel_rfl) (by kernel_rfl)
theorem g8 : Good t8 := good [t3,t7] ⟨g3,g7,trivial⟩ [] trivial (by kernel_rfl) (by kernel_rfl)
theorem g9 : Good t9 := good [] trivial [] trivial (by kernel_rfl) (by kernel_rfl)
theorem g10 : Good t10 := good [t9] ⟨g9,trivial⟩ [] trivial (by kernel_rfl) (by kernel_rfl)
theorem g11 : Good t11 := good [t3,t8,t10] ⟨g3,g8,g10,trivial⟩ [] trivial (by kernel_rfl) (by kernel_rfl)
theorem g12 : Good t12 := good [t0] ⟨g0,trivial⟩ [] trivial (by kernel_rfl) (by kernel_rfl)
theorem g13 : Good t13 := good [] trivial [] trivial (by kernel_rfl) (by kernel_rfl)
theorem g14 : Good t14 := good [t13] ⟨g13,trivial⟩ [] trivial (by kernel_rfl) (by kernel_rfl)
theorem g15 : Good t15 := good [] trivial [] trivial (by kernel_rfl) (by kernel_rfl)
theorem g16 : Good t16 := good [t12,t14,t15] ⟨g12,g14,g15,trivial⟩ [] trivial (by kernel_rfl) (by kernel_rfl)
theorem g17 : Good t17 := good [] trivial [] trivial (by kernel_rfl) (by kernel_rfl)
theorem g18 : Good t18 := good [] trivial [] trivial (by kernel_rfl) (by kernel_rfl)
theorem g19 : Good t19 := good [t18] ⟨g18,trivial⟩ [] trivial (by kernel_rfl) (by kernel_rfl)
theorem g20 : Good t20 := good [] trivial [] trivial (by kernel_rfl) (by kernel_rfl)
theorem g21 : Good t21 := good [t20] ⟨g20,trivial⟩ [] trivial (by kernel_rfl) (by kernel_rfl)
theorem g22 : Good t22 := good [t0,t17,t19,t21] ⟨g0,g17,g19,g21,trivial⟩ [] trivial (by kernel_rfl) (by kernel_rfl)
theorem g23 : Good t23 := good [t22] ⟨g22,trivial⟩ [] trivial (by kernel_rfl) (by kernel_rfl)
theorem g24 : Good t24 := good [t23] ⟨g23,trivial⟩ [] trivial (by kernel_rfl) (by kernel_rfl)
theorem g25 : Good t25 := good [t23] ⟨g23,trivial⟩ [] trivial (by kernel_rfl) (by kernel_rfl)
theorem g26 : Good t26 := good [] trivial [] trivial (by kernel_rfl) (by kernel_rfl)
theorem g27 : Good t27 := good [] trivial [] trivial (by kernel_rfl) (by kernel_rfl)
theorem g28 : Good t28 := good [] trivial [] trivial (by kernel_rfl) (by kernel_rfl)
theorem g29 : Good t29 := good [] trivial [] trivial (by kernel_rfl) (by kernel_rfl)
theorem g30 : Good t30 := good [t26,t27,t28,t29] ⟨g26,g27,g28,g29,trivial⟩ [] trivial (by kernel_rfl) (by kernel_rfl)
theorem g31 : Good t31 := good [] trivial [] trivial (by kernel_rfl) (by kernel_rfl)
theorem g32 : Good t32 := good [t27,t31] ⟨g27,g31,trivial⟩ [] trivial (by kernel_rfl) (by kernel_rfl)
theorem g33 : Good t33 := good [t30,t32] ⟨g30,g32,trivial⟩ [] trivial (by kernel_rfl) (by kernel_rfl)
theorem g34 : Good t34 := good [t33] ⟨g33,trivial⟩ [] trivial (by kernel_rfl) (by kernel_rfl)
theorem g35 : Good t35 := good [] trivial [] trivial (by kernel_rfl) (by kernel_rfl)
theorem g36 : Good t36 := good [] trivial [] trivial (by kernel_rfl) (by kernel_rfl)
theorem g37 : Good t37 := good [t36] ⟨g36,trivial⟩ [] trivial (by kernel_rfl) (by kernel_rfl)
theorem g38 : Good t38 := good [] trivial [] trivial (by kernel_rfl) (by kernel_rfl)
theorem g39 : Good t39 := good [] trivial [] trivial (by kernel_rfl) (by kernel_rfl)
theorem g40 : Good t40 := good [] trivial [] trivial (by kernel_rfl) (by kernel_rfl)
theorem g41 : Good t41 := good [] trivial [] trivial (by kernel_rfl) (by kernel_rfl)
theorem g42 : Good t42 := good [t41] ⟨g41,trivial⟩ [] trivial (by kernel_rfl) (by kernel_rfl)
theorem g43 : Good t43 := good [t35,t37,t38,t39,t40,t42] ⟨g35,g37,g38,g39,g40,g42,trivial⟩ [] trivial (by kernel_rfl) (by kernel_rfl)
theorem g44 : Good t44 := good [] trivial [] trivial (by kernel_rfl) (by kernel_rfl)
theorem g45 : Good t45 := good [] trivial [] trivial (by kernel_rfl) (by kernel_rfl)
theorem g46 : Good t46 := good [t44,t45] ⟨g44,g45,trivial⟩ [] trivial (by kernel_rfl) (by kernel_rfl)
theorem g47 : Good t47 := good [] trivial [] trivial (by kernel_rfl) (by kernel_rfl)
theorem g48 : Good t48 := good [] trivial [] trivial (by kernel_rfl) (by kernel_rfl)
theorem g49 : Good t49 := good [] trivial [] trivial (by kernel_rfl) (by kernel_rfl)
theorem g50 : Good t50 := good [] trivial [] trivial (by kernel_rfl) (by kernel_rfl)
theorem g51 : Good t51 := good [] trivial [] trivial (by kernel_rfl) (by kernel_rfl)
theorem g52 : Good t52 := good [] trivial [] trivial (by kernel_rfl) (by kernel_rfl)
theorem g53 : Good t53 := good [t47,t48,t49,t50,t51,t52] ⟨g47,g48,g49,g50,g51,g52,trivial⟩ [] trivial (by kernel_rfl) (by kernel_rfl)
theorem g54 : Good t54 := good [t43,t46,t53] ⟨g43,g46,g53,trivial⟩ [] trivial (by kernel_rfl) (by kernel_rfl)
theorem g55 : Good t55 := good [t34,t54] ⟨g34,g54,trivial⟩ [] trivial (by kernel_rfl) (by kernel_rfl)
theorem g56 : Good t56 := good [t55] ⟨g55,trivial⟩ [] trivial (by kernel_rfl) (by kernel_rfl)
theorem g57 : Good t57 := good [] trivial [] trivial (by kernel_rfl) (by kernel_rfl)
theorem g58 : Good t58 := good [] trivial [] trivial (by kernel_rfl) (by kernel_rfl)
theorem g59 : Good t59 := good [] trivial [] trivial (by kernel_rfl) (by kernel_rfl)
theorem g60 : Good t60 := good [t59] ⟨g59,trivial⟩ [] trivial (by kernel_rfl) (by kernel_rfl)
theorem g61 : Good t61 := good [] trivial [] trivial (by kernel_rfl) (by kernel_rfl)
theorem g62 : Good t62 := good [] trivial [] trivial (by kernel_rfl) (by kernel_rfl)
theorem g63 : Good t63 := good [t62] ⟨g62,trivial⟩ [] trivial (by kernel_rfl) (by kernel_rfl)
theorem g64 : Good t64 := good [] trivial [] trivial (by kernel_rfl) (by kernel_rfl)
theorem g65 : Good t65 := good [] trivial [] trivial (by kernel_rfl) (by kernel_rfl)
theorem g66 : Good t66 := good [t65] ⟨g65,trivial⟩ [] trivial (by kernel_rfl) (by kernel_rfl)
theorem g67 : Good t67 := good [] trivial [] trivial (by kernel_rfl) (by kernel_rfl)
theorem g68 : Good t68 := good [t57,t58,t60,t61,t63,t64,t66,t67] ⟨g57,g58,g60,g61,g63,g64,g66,g67,trivial⟩ [] trivial (by kernel_rfl) (by kernel_rfl)
theorem g69 : Good t69 := good [t56,t68] ⟨g56,g68,trivial⟩ [] trivial (by kernel_rfl) (by kernel_rfl)
theorem g70 : Good t70 := good [t34] ⟨g34,trivial⟩ [] trivial (by kernel_rfl) (by kernel_rfl)
theorem g71 : Good t71 := good [] trivial [] trivial (by kernel_rfl) (by kernel_rfl)
theorem g72 : Good t72 := good [] trivial [] trivial (by kernel_rfl) (by kernel_rfl)
theorem g73 : Good t73 := good [] trivial [] trivial (by kernel_rfl) (by kernel_rfl)
theorem g74 : Good t74 := good [] trivial [] trivial (by kernel_rfl) (by kernel_rfl)
theorem g75 : Good t75 := good [] trivial [] trivial (by kernel_rfl) (by kernel_rfl)
theorem g76 : Good t76 := good [] trivial [] trivial (by kernel_rfl) (by kernel_rfl)
theorem g77 : Good t77 := good [] trivial [] trivial (by kernel_rfl) (by kernel_rfl)
theorem g78 : Good t78 := good [] trivial [] trivial (by kernel_rfl) (by kernel_rfl)
theorem g79 : Good t79 := good [] trivial [] trivial (by kernel_rfl) (by kernel_rfl)
theorem g80 : Good t80 := good [] trivial [] trivial (by kernel_rfl) (by kernel_rfl)
theorem g81 : Good t81 := good [t71,t72,t73,t74,t75,t76,t77,t78,t79,t80] ⟨g71,g72,g73,g74,g75,g76,g77,g78,g79,g80,trivial⟩ [] trivial (by kernel_rfl) (by kernel_rfl)
theorem g82 : Good t82 := good [t70,t81] ⟨g70,g81,trivial⟩ [] trivial (by kernel_rfl) (by kernel_rfl)
theorem g83 : Good t83 := good [] trivial [] trivial (by kernel_rfl) (by kernel_rfl)
theorem g84 : Good t84 := good [t83] ⟨g83,trivial⟩ [] trivial (by kernel_rfl) (by kernel_rfl)
theorem g85 : Good t85 := good [t84] ⟨g84,trivial⟩ [] trivial (by kernel_rfl) (by kernel_rfl)
theorem g86 : Good t86 := good [] trivial [] trivial (by kernel_rfl) (by kernel_rfl)
theorem g87 : Good t87 := good [t86] ⟨g86,trivial⟩ [] trivial (by kernel_rfl) (by kernel_rfl)
theorem g88 : Good t88 := good [t85,t87] ⟨g85,g87,trivial⟩ [] trivial (by kernel_rfl) (by kernel_rfl)
theorem g89 : Good t89 := good [t88] ⟨g88,trivial⟩ [] trivial (by kernel_rfl) (by kernel_rfl)
theorem g90 : Good t90 := good [t83] ⟨g83,trivial⟩ [] trivial (by kernel_rfl) (by kernel_rfl)
theorem g91 : Good t91 := good [t90] ⟨g90,trivial⟩ [] trivial (by kernel_rfl) (by kernel_rfl)
theorem g92 : Good t92 := good [t83] ⟨g83,trivial⟩ [] trivial (by kernel_rfl) (by kernel_rfl)
theorem g93 : Good t93 := good [t92] ⟨g92,trivial⟩ [] trivial (by kernel_rfl) (by kernel_rfl)
theorem g94 : Good t94 := good [t91,t93] ⟨g91,g93,trivial⟩ [] trivial (by kernel_rfl) (by kernel_rfl)
theorem g95 : Good t95 := good [t94] ⟨g94,trivial⟩ [] trivial (by kernel_rfl) (by kernel_rfl)
theorem g96 : Good t96 := good [t89,t95] ⟨g89,g95,trivial⟩ [] trivial (by kernel_rfl) (by kernel_rfl)
theorem g97 : Good t97 := good [t83] ⟨g83,trivial⟩ [] trivial (by kernel_rfl) (by kernel_rfl)
theorem g98 : Good t98 := good [t97] ⟨g97,trivial⟩ [] trivial (by kernel_rfl) (by kernel_rfl)
theorem g99 : Good t99 := good [t98] ⟨g98,trivial⟩ [] trivial (by kernel_rfl) (by kernel_rfl)
theorem g100 : Good t100 := good [t99] ⟨g99,trivial⟩ [] trivial (by kernel_rfl) (by kernel_rfl)
theorem g101 : Good t101 := good [t83] ⟨g83,trivial⟩ [] trivial (by kernel_rfl) (by kernel_rfl)
theorem g102 : Good t102 := good [t101] ⟨g101,trivial⟩ [] trivial (by kernel_rfl) (by kernel_rfl)
theorem g103 : Good t103 := good [t102] ⟨g102,trivial⟩ [] trivial (by kernel_rfl) (by kernel_rfl)
theorem g104 : Good t104 := good [t83] ⟨g83,trivial⟩ [] trivial (by kernel_rfl) (by kernel_rfl)
theorem g105 : Good t105 := good [t104] ⟨g104,trivial⟩ [] trivial (by kernel_rfl) (by kernel_rfl)
theorem g106 : Good t106 := good [t105] ⟨g105,trivial⟩ [] trivial (by kernel_rfl) (by kernel_rfl)
theorem g107 : Good t107 := good [t106] ⟨g106,trivial⟩ [] trivial (by kernel_rfl) (by kernel_rfl)
theorem g108 : Good t108 := good [t83] ⟨g83,trivial⟩ [] trivial (by kernel_rfl) (by kernel_rfl)
theorem g109 : Good t109 := good [t108] ⟨g108,trivial⟩ [] trivial (by kernel_rfl) (by kernel_rfl)
theorem g110 : Good t110 := good [t109] ⟨g109,trivial⟩ [] trivial (by kernel_rfl) (by kernel_rfl)
theorem g111 : Good t111 := good [t110] ⟨g110,trivial⟩ [] trivial (by kernel_rfl) (by kernel_rfl)
theorem g112 : Good t112 := good [t70,t96,t99,t100,t103,t107,t111] ⟨g70,g96,g99,g100,g103,g107,g111,trivial⟩ [] trivial (by kernel_rfl) (by kernel_rfl)
theorem g113 : Good t113 := good [t112] ⟨g112,trivial⟩ [] trivial (by kernel_rfl) (by kernel_rfl)
theorem g114 : Good t114 := good [] trivial [] trivial (by kernel_rfl) (by kernel_rfl)
theorem g115 : Good t115 := good [] trivial [] trivial (by kernel_rfl) (by kernel_rfl)
theorem g116 : Good t116 := good [] trivial [] trivial (by kernel_rfl) (by kernel_rfl)
theorem g117 : Good t117 := good [] trivial [] trivial (by kernel_rfl) (by kernel_rfl)
theorem g118 : Good t118 := good [] trivial [] trivial (by kernel_rfl) (by kernel_rfl)
theorem g119 : Good t119 := good [t118] ⟨g118,trivial⟩ [] trivial (by kernel_rfl) (by kernel_rfl)
theorem g120 : Good t120 := good [] trivial [] trivial (by kernel_rfl) (by kernel_rfl)
theorem g121 : Good t121 := good [t116,t120] ⟨g116,g120,trivial⟩ [] trivial (by kernel_rfl) (by kernel_rfl)
theorem g122 : Good t122 := good [] trivial [] trivial (by kernel_rfl) (by kernel_rfl)
theorem g123 : Good t123 := good [t116,t119,t121,t122] ⟨g116,g119,g121,g122,trivial⟩ [] trivial (by kernel_rfl) (by kernel_rfl)
theorem g124 : Good t124 := good [] trivial [] trivial (by kernel_rfl) (by kernel_rfl)
theorem g125 : Good t125 := good [t124] ⟨g124,trivial⟩ [] trivial (by kernel_rfl) (by kernel_rfl)
theorem g126 : Good t126 := good [] trivial [] trivial (by kernel_rfl) (by kernel_rfl)
theorem g127 : Good t127 := good [t77,t126] ⟨g77,g126,trivial⟩ [] trivial (by kernel_rfl) (by kernel_rfl)
theorem g128 : Good t128 := good [] trivial [] trivial (by kernel_rfl) (by kernel_rfl)
theorem g129 : Good t129 := good [t114,t125,t127,t128] ⟨g114,g125,g127,g128,trivial⟩ [] trivial (by kernel_rfl) (by kernel_rfl)
theorem g130 : Good t130 := good [] trivial [] trivial (by kernel_rfl) (by kernel_rfl)
theorem g131 : Good t131 := good [t130] ⟨g130,trivial⟩ [] trivial (by kernel_rfl) (by kernel_rfl)
theorem g132 : Good t132 := good [] trivial [] trivial (by kernel_rfl) (by kernel_rfl)
theorem g133 : Good t133 := good [t114,t132] ⟨g114,g132,trivial⟩ [] trivial (by kernel_rfl) (by kernel_rfl)
theorem g134 : Good t134 := good [] trivial [] trivial (by kernel_rfl) (by kernel_rfl)
theorem g135 : Good t135 := good [t77,t131,t133,t134] ⟨g77,g131,g133,g134,trivial⟩ [] trivial (by kernel_rfl) (by kernel_rfl)
theorem g136 : Good t136 := good [] trivial [] trivial (by kernel_rfl) (by kernel_rfl)
theorem g137 : Good t137 := good [] trivial [] trivial (by kernel_rfl) (by kernel_rfl)
theorem g138 : Good t138 := good [] trivial [] trivial (by kernel_rfl) (by kernel_rfl)
theorem g139 : Good t139 := good [t137,t138] ⟨g137,g138,trivial⟩ [] trivial (by kernel_rfl) (by kernel_rfl)
theorem g140 : Good t140 := good [] trivial [] trivial (by kernel_rfl) (by kernel_rfl)
theorem g141 : Good t141 := good [t77,t119,t136,t139,t140] ⟨g77,g119,g136,g139,g140,trivial⟩ [] trivial (by kernel_rfl) (by kernel_rfl)
theorem g142 : Good t142 := good [t114,t115,t116,t117,t123,t129,t135,t141] ⟨g114,g115,g116,g117,g123,g129,g135,g141,trivial⟩ [] trivial (by kernel_rfl) (by kernel_rfl)
theorem g143 : Good t143 := good [t113,t142] ⟨g113,g142,trivial⟩ [] trivial (by kernel_rfl) (by kernel_rfl)
theorem g144 : Good t144 := good [t83] ⟨g83,trivial⟩ [] trivial (by kernel_rfl) (by kernel_rfl)
theorem g145 : Good t145 := good [t144] ⟨g144,trivial⟩ [] trivial (by kernel_rfl) (by kernel_rfl)
theorem g146 : Good t146 := good [t97] ⟨g97,trivial⟩ [] trivial (by kernel_rfl) (by kernel_rfl)
theorem g147 : Good t147 := good [t146] ⟨g146,trivial⟩ [] trivial (by kernel_rfl) (by kernel_rfl)
theorem g148 : Good t148 := good [t101] ⟨g101,trivial⟩ [] trivial (by kernel_rfl) (by kernel_rfl)
theorem g149 : Good t149 := good [t148] ⟨g148,trivial⟩ [] trivial (by kernel_rfl) (by kernel_rfl)
theorem g150 : Good t150 := good [t145,t147,t149] ⟨g145,g147,g149,trivial⟩ [] trivial (by kernel_rfl) (by kernel_rfl)
theorem g151 : Good t151 := good [] trivial [] trivial (by kernel_rfl) (by kernel_rfl)
theorem g152 : Good t152 := good [t150,t151] ⟨g150,g151,trivial⟩ [] trivial (by kernel_rfl) (by kernel_rfl)
theorem g153 : Good t153 := good [t152] ⟨g152,trivial⟩ [] trivial (by kernel_rfl) (by kernel_rfl)
theorem g154 : Good t154 := good [] trivial [] trivial (by kernel_rfl) (by kernel_rfl)
theorem g155 : Good t155 := good [t154] ⟨g154,trivial⟩ [] trivial (by kernel_rfl) (by kernel_rfl)
theorem g156 : Good t156 := good [] trivial [] trivial (by kernel_rfl) (by kernel_rfl)
theorem g157 : Good t157 := good [] trivial [] trivial (by kernel_rfl) (by kernel_rfl)
theorem g158 : Good t158 := good [] trivial [] trivial (by kernel_rfl) (by kernel_rfl)
theorem g159 : Good t159 := good [t155,t156,t157,t158] ⟨g155,g156,g157,g158,trivial⟩ [] trivial (by kernel_rfl) (by kernel_rfl)
theorem g160 : Good t160 := good [t153,t159] ⟨g153,g159,trivial⟩ [] trivial (by kernel_rfl) (by kernel_rfl)
theorem g161 : Good t161 := good [] trivial [] trivial (by kernel_rfl) (by kernel_rfl)
theorem g162 : Good t162 := good [] trivial [] trivial (by kernel_rfl) (by kernel_rfl)
theorem g163 : Good t163 := good [] trivial [] trivial (by kernel_rfl) (by kernel_rfl)
theorem g164 : Good t164 := good [] trivial [] trivial (by kernel_rfl) (by kernel_rfl)
theorem g165 : Good t165 := good [] trivial [] trivial (by kernel_rfl) (by kernel_rfl)
theorem g166 : Good t166 := good [] trivial [] trivial (by kernel_rfl) (by kernel_rfl)
theorem g167 : Good t167 := good [t166] ⟨g166,trivial⟩ [] trivial (by kernel_rfl) (by kernel_rfl)
theorem g168 : Good t168 := good [] trivial [] trivial (by kernel_rfl) (by kernel_rfl)
theorem g169 : Good t169 := good [t168] ⟨g168,trivial⟩ [] trivial (by kernel_rfl) (by kernel_rfl)
theorem g170 : Good t170 := good [t167,t169] ⟨g167,g169,trivial⟩ [] trivial (by kernel_rfl) (by kernel_rfl)
theorem g171 : Good t171 := good [t161,t162,t163,t164,t165,t170] ⟨g161,g162,g163,g164,g165,g170,trivial⟩ [] trivial (by kernel_rfl) (by kernel_rfl)
theorem g172 : Good t172 := good [] trivial [] trivial (by kernel_rfl) (by kernel_rfl)
theorem g173 : Good t173 := good [t172] ⟨g172,trivial⟩ [] trivial (by kernel_rfl) (by kernel_rfl)
theorem g174 : Good t174 := good [] trivial [] trivial (by kernel_rfl) (by kernel_rfl)
theorem g175 : Good t175 := good [] trivial [] trivial (by kernel_rfl) (by kernel_rfl)
theorem g176 : Good t176 := good [t174,t175] ⟨g174,g175,trivial⟩ [] trivial (by kernel_rfl) (by kernel_rfl)
theorem g177 : Good t177 := good [] trivial [] trivial (by kernel_rfl) (by kernel_rfl)
theorem g178 : Good t178 := good [t177] ⟨g177,trivial⟩ [] trivial (by kernel_rfl) (by kernel_rfl)
theorem g179 : Good t179 := good [] trivial [] trivial (by kernel_rfl) (by kernel_rfl)
theorem g180 : Good t180 := good [t177,t179] ⟨g177,g179,trivial⟩ [] trivial (by kernel_rfl) (by kernel_rfl)
theorem g181 : Good t181 := good [] trivial [] trivial (by kernel_rfl) (by kernel_rfl)
theorem g182 : Good t182 := good [t181] ⟨g181,trivial⟩ [] trivial (by kernel_rfl) (by kernel_rfl)
theorem g183 : Good t183 := good [] trivial [] trivial (by kernel_rfl) (by kernel_rfl)
theorem g184 : Good t184 := good [t183] ⟨g183,trivial⟩ [] trivial (by kernel_rfl) (by kernel_rfl)
theorem g185 : Good t185 := good [] trivial [] trivial (by kernel_rfl) (by kernel_rfl)
theorem g186 : Good t186 := good [t185] ⟨g185,trivial⟩ [] trivial (by kernel_rfl) (by kernel_rfl)
theorem g187 : Good t187 := good [] trivial [] trivial (by kernel_rfl) (by kernel_rfl)
theorem g188 : Good t188 := good [t187] ⟨g187,trivial⟩ [] trivial (by kernel_rfl) (by kernel_rfl)
theorem g189 : Good t189 := good [] trivial [] trivial (by kernel_rfl) (by kernel_rfl)
theorem g190 : Good t190 := good [t189] ⟨g189,trivial⟩ [] trivial (by kernel_rfl) (by kernel_rfl)
end Go.Ev.Cl
namespace Go.Ev.Cl
theorem gAll : Good ⟨11,[],.v (.bool true)⟩ := good [t6,t11,t16,t24,t25,t69,t82,t143,t160,t171,t173,t176,t178,t180,t182,t184,t186,t188,t190] ⟨g6,g11,g16,g24,g25,g69,g82,g143,g160,g171,g173,g176,g178,g180,g182,g184,g186,g188,g190,trivial⟩ [] trivial (by kernel_rfl) (by kernel_rfl)
end Go.Ev.Cl
namespace Go.Ev
open Go.Proofs
noncomputable def eN : Exts := ⟨fun _ => none⟩
theorem extOKN0 : ExtOK { Cx eN with lay := fun _ => none } := ⟨fun _ _ h => (nomatch h),fun _ _ h => (nomatch h),fun _ _ h => (nomatch h)⟩
theorem extOKN : ExtOK (Cx eN) := by
 refine extOK_lay (C := { Cx eN with lay := fun _ => none }) (f := 66) (g := ccA 88) rfl ?_ extOKN0 rfl rfl rfl
 intro args H v H' h
 exact lay_cc Go.Proofs.Tryz.lays156 Go.Proofs.Tryz.Builder_Extra_156 (f := 66) rfl ⟨_,Tryz.func66,by kernel_rfl,by kernel_rfl⟩ h
noncomputable def eA0 : Exts := eN.more 11 (atArgs [] (.v (.bool true)))
theorem extOKA0 : ExtOK (Cx eA0) := by
 refine extOK_more (C := Cx eN) (f := 11) (g := atArgs [] (.v (.bool true))) rfl ?_ extOKN rfl
 intro args v h Z ρ H w vals hs hl
 obtain ⟨⟨e,x,he,ha⟩, -⟩ := Cl.gAll
 obtain ⟨rfl,rfl⟩ := atArgs_some h
 exact ext_of_ans (C := Cl.CC.more2 e x) Cl.nogoC Cl.mixedC he ha rfl Z ρ H w vals hs hl
noncomputable def eA : Exts := eA0.more 126 idxStr
theorem extOKA : ExtOK (Cx eA) := by
 refine extOK_more (C := Cx eA0) (f := 126) (g := idxStr) rfl ?_ extOKA0 rfl
 intro args v h Z ρ H w vals hs hl
 exact ext_idx (fn := Tryz.f126) Tryz.func126 (by kernel_rfl) (by kernel_rfl) (by kernel_rfl) (by kernel_rfl) h Z ρ H w vals hs hl
theorem quietA : Quiet eA := by
 intro f h1 h2 h3 h4
 show (if Nat.beq f 126 then _ else if Nat.beq f 11 then _ else none) = none
 rw [if_neg (fun h => h4 (Nat.eq_of_beq_eq_true h))]
 rw [if_neg (fun h => h1 (Nat.eq_of_beq_eq_true h))]
theorem eA11 : eA.x 11 = some (atArgs [] (.v (.bool true))) := rfl
theorem call11 (me : FuncId) (d : Option Tmp) (H : Heap) : callA (Cx eA) (lim (Cx eA)) me 11 d [] H = some (.v (.bool true),H) :=
 ext_call (show (Cx eA).ext 11 = some (atArgs [] (.v (.bool true))) from eA11) rfl H
end Go.Ev
namespace Go.Ev
open Go.Proofs
def All2 {α β : Type} (R : α → β → Prop) (l : List α) (m : List β) : Prop := l.length = m.length ∧ ∀ (i : Nat) a b,l[i]? = some a → m[i]? = some b → R a b
theorem All2.get {α β : Type} {R : α → β → Prop} {l : List α} {m : List β} (h : All2 R l m) {i : Nat} {a : α} (ha : l[i]? = some a) : ∃ b,m[i]? = some b ∧ R a b := by
 have hi := (List.getElem?_eq_some_iff.1 ha).1
 exact ⟨m[i]'(h.1 ▸ hi),List.getElem?_eq_getElem _,h.2 i a _ ha (List.getElem?_eq_getElem _)⟩
theorem all2_of {α β : Type} {R : α → β → Prop} : ∀ (xs : List β),(∀ y ∈ xs,∃ a,R a y) → ∃ l,All2 R l xs
 | [],_ => ⟨[],rfl,fun i a b h => by simp at h⟩
 | y :: r,h => by
  obtain ⟨a,ha⟩ := h y List.mem_cons_self
  obtain ⟨l,hl⟩ := all2_of r fun z hz => h z (List.mem_cons_of_mem _ hz)
  refine ⟨a :: l,by simp [hl.1],fun i x z hx hz => ?_⟩
  cases i with
  | zero => simp at hx hz;subst hx;subst hz;exact ha
  | succ i => exact hl.2 i x z (by simpa using hx) (by simpa using hz)
theorem All2.mem_left {α β : Type} {R : α → β → Prop} {l : List α} {m : List β} (h : All2 R l m) {a : α} (ha : a ∈ l) : ∃ b ∈ m,R a b := by
 obtain ⟨i,hi⟩ := List.getElem?_of_mem ha
 obtain ⟨b,hb,hr⟩ := h.get hi
 exact ⟨b,List.mem_of_getElem? hb,hr⟩
theorem plain_slice {P : Program} {N t e c : Nat} {cs : List AV} (hu : P.underlying t = some (.slice e)) (hc : P.cellsOf e = c) (h : Plain P (N + 1) t cs) : ∃ x xs,cs = [x] ∧ SlOf c xs x ∧ xs.length ≤ maxLen ∧ ∀ y ∈ xs,∃ d,y = elemOf d ∧ d.length = c ∧ Plain P N e d := by
 unfold Plain at h;rw [hu] at h;subst hc;exact h
theorem plain_string {P : Program} {N t : Nat} {cs : List AV} (hu : P.underlying t = some .string) (h : Plain P (N + 1) t cs) : ∃ s,cs = [.v (.string s)] ∧ s.size ≤ maxLen := by
 unfold Plain at h;rw [hu] at h;exact h
theorem maxLen_lt : maxLen < 2 ^ 63 := by decide
theorem line_of {N : Nat} {cs : List AV} (h : Plain Tryz.prog (N + 2) 22 cs) : ∃ ws x,cs = [x] ∧ SlOf 1 (strs ws) x ∧ FitsR ws := by
 obtain ⟨x,xs,rfl,hx,hlen,hxs⟩ := plain_slice (c := 1) (by kernel_rfl : Tryz.prog.underlying 22 = some (.slice 9)) (by kernel_rfl) h
 have key : ∀ y ∈ xs,∃ s : ByteArray,y = .v (.string s) ∧ s.size ≤ maxLen := by
  intro y hy
  obtain ⟨d,rfl, -,hd⟩ := hxs y hy
  obtain ⟨s,rfl,hs⟩ := plain_string (by kernel_rfl : Tryz.prog.underlying 9 = some .string) hd
  exact ⟨s,rfl,hs⟩
 obtain ⟨ws,hws⟩ := all2_of (R := fun (s : ByteArray) y => y = AV.v (.string s) ∧ s.size ≤ maxLen) xs key
 have he : xs = strs ws := by
  unfold strs
  apply List.ext_getElem?
  intro i
  rw [List.getElem?_map]
  cases hi : ws[i]? with
  | none =>
   rw [List.getElem?_eq_none_iff] at hi
   rw [Option.map_none,List.getElem?_eq_none_iff]
   rw [← hws.1];exact hi
  | some s =>
   obtain ⟨b,hb,rfl, -⟩ := hws.get hi
   rw [hb];rfl
 have := maxLen_lt
 subst he
 refine ⟨ws,x,rfl,hx,by rw [strs_len] at hlen;omega,fun s hs => ?_⟩
 obtain ⟨b, -, -,h2⟩ := hws.mem_left hs
 omega
theorem rows_arg {N : Nat} {x : AV} (h : Arg Tryz.prog (N + 2) 22 x) : ∃ l,SlOf 1 (strs l) x ∧ FitsR l := by
 unfold Arg at h
 have hu : Tryz.prog.underlying 22 = some (.slice 9) := by kernel_rfl
 rw [hu] at h
 obtain ⟨ws,y,hy,h1,h2⟩ := line_of h
 simp only [List.cons.injEq,and_true] at hy
 subst hy
 exact ⟨ws,h1,h2⟩
theorem freeze_to_v {H : Heap} {K : Nat} {x : AV} {y : Value} (h : freezeV H K x = some (.v y)) : x = .v y := by
 cases K with
 | zero => cases h
 | succ K =>
  unfold freezeV at h
  cases x with
  | v z => simpa using h
  | ro z k => simp at h
  | vs s l c => simp at h
  | agg l => simp only [Option.map_eq_some_iff] at h;obtain ⟨_,_,h⟩ := h;cases h
  | tup l => simp only [Option.map_eq_some_iff] at h;obtain ⟨_,_,h⟩ := h;cases h
  | ifc t z => simp only [Option.map_eq_some_iff] at h;obtain ⟨_,_,h⟩ := h;cases h
  | mp b => simp only at h;split at h <;> simp at h
  | yld b => simp only at h;split at h <;> simp at h
  | fn f a b => simp only at h;split at h <;> simp at h
  | ptr b v k =>
   simp only at h
   split at h
   ·simp at h
   ·split at h
    ·split at h
     ·split at h <;> simp at h
     ·simp at h
    ·simp at h
  | sl b v off len c =>
   simp only at h
   split at h
   ·simp at h
   ·split at h
    ·split at h
     ·split at h
      ·simp at h
      ·split at h
       ·split at h <;> simp at h
       ·simp at h
     ·simp at h
    ·simp at h
theorem Ans.lim {C : Cfg} {f : FuncId} {args : List AV} (h : Ans C f args (.v (.bool true))) : ∃ H',Go.Ev.lim C (.call f args { objs := [],lock := 0 }) = some (.ret (.v (.bool true)) H') := by
 obtain ⟨x,H,h1,h2⟩ := Ans.iff.1 h
 rw [freeze_to_v h2] at h1
 exact ⟨H,h1⟩
theorem mixed (e : Exts) : (Cx e).P.follows .mixedOrders = true := by show Tryz.prog.follows .mixedOrders = true;kernel_rfl
theorem nogo_all : (Tryz.prog.funcs.toList.all fun fn => !(fn.body.isSome && (fn.name == "runtime.NumGoroutine"))) = true := by kernel_rfl
theorem nogo (e : Exts) : NoGo (Cx e).P := by
 intro f fn hf hb
 have h := List.all_eq_true.1 nogo_all fn (by
  have : Tryz.prog.funcs[f]? = some fn := hf
  exact List.mem_of_getElem? (by simpa using this))
 rw [hb] at h
 simpa using h
end Go.Ev
namespace Go.Ev
open Go.Proofs
attribute [local irreducible] Wp WpS
abbrev HnkI := Int × Int × List ByteArray
def Int64 (n : Int) : Prop := -(2 ^ 63) ≤ n ∧ n < 2 ^ 63
def FitsH (h : HnkI) : Prop := Int64 h.1 ∧ Int64 h.2.1 ∧ FitsR h.2.2
end Go.Ev
namespace Go.Ev
open Go.Proofs
attribute [local irreducible] Wp WpS
end Go.Ev
namespace Go.Ev
open Go.Proofs
attribute [local irreducible] Wp WpS
end Go.Ev
namespace Go.Ev
open Go.Proofs
attribute [local irreducible] Wp WpS
def genN (f : List ByteArray) (ns : List Hnk) (j : Nat) : List ByteArray := (ns.take j).foldl chL f
theorem genN_succ (f : List ByteArray) {ns : List Hnk} {j : Nat} {h : Hnk} (hh : ns[j]? = some h) : genN f ns (j + 1) = chL (genN f ns j) h := by
 unfold genN
 rw [take_next hh,List.foldl_append];rfl
structure OkS (f : List ByteArray) (ns : List Hnk) : Prop where
 len : ns.length ≤ 11
 rows : rowsB f = true
 step : ∀ j h,ns[j]? = some h → okH (genN f ns j) h
theorem rowsB_len {l : List ByteArray} (h : rowsB l = true) : l.length ≤ 200 := (rows_of h).1
theorem rowsB_mem {l : List ByteArray} (h : rowsB l = true) : ∀ r ∈ l,rowB r = true := by
 unfold rowsB at h
 rw [Bool.and_eq_true,List.all_eq_true] at h
 exact h.2
theorem rowsB_mk {l : List ByteArray} (h1 : l.length ≤ 200) (h2 : ∀ r ∈ l,rowB r = true) : rowsB l = true := by
 unfold rowsB
 rw [Bool.and_eq_true,List.all_eq_true]
 exact ⟨decide_eq_true h1,h2⟩
theorem rowsB_chL {l : List ByteArray} {h : Hnk} (hl : rowsB l = true) (hh : okH l h) : rowsB (chL l h) = true := by
 obtain ⟨h1,h2,h3⟩ := hh
 refine rowsB_mk (by rw [chL_len l h h1];exact h3) fun r hr => ?_
 unfold chL at hr
 rcases List.mem_append.1 hr with hr | hr
 ·exact rowsB_mem hl r (List.mem_of_mem_take hr)
 ·rcases List.mem_append.1 hr with hr | hr
  ·exact rowsB_mem h2 r hr
  ·exact rowsB_mem hl r (List.mem_of_mem_drop hr)
theorem OkS.gen {f : List ByteArray} {ns : List Hnk} (h : OkS f ns) : ∀ j,j ≤ ns.length → rowsB (genN f ns j) = true
 | 0,_ => h.rows
 | j + 1,hj => by
  obtain ⟨x,hx⟩ := at_lt ns j (by omega)
  rw [genN_succ f hx]
  exact rowsB_chL (h.gen j (by omega)) (h.step j x hx)
theorem rowsB_fits {l : List ByteArray} (h : rowsB l = true) : FitsR l := by
 obtain ⟨h1,h2⟩ := rows_of h
 exact ⟨by omega,fun r hr => by have := h2 r hr;omega⟩
theorem gens_of {e : Exts} (he : Quiet e) {f : List ByteArray} {ns : List Hnk} (h : OkS f ns) (ys : List AV) (hys : All2 HunkA ns ys) (v0 : AV) (hv0 : SlOf 1 (strs f) v0) : ∀ n,n ≤ ns.length → ∃ g : Nat → AV,g 0 = v0 ∧ (∀ j,j ≤ n → SlOf 1 (strs (genN f ns j)) (g j)) ∧ ∀ (j : Nat) (y : AV),j < n → ys[j]? = some y → Ans (Cx e) 71 [g j,y] (g (j + 1))
 | 0,_ => by
  refine ⟨fun _ => v0,rfl,fun j hj => ?_,fun j y hj => absurd hj (by omega)⟩
  obtain rfl : j = 0 := by omega
  exact hv0
 | n + 1,hn => by
  obtain ⟨g,g0,g1,g2⟩ := gens_of he h ys hys v0 hv0 n (by omega)
  obtain ⟨x,hx⟩ := at_lt ns n (by omega)
  obtain ⟨y,hy,hxy⟩ := hys.get hx
  have hr := rowsB_len (h.gen n (by omega))
  obtain ⟨s1,s2,s3⟩ := h.step n x hx
  have hp := rowsB_len s2
  obtain ⟨v,hv,ha⟩ := ans71 he (genN f ns n) x (by omega) (by omega) s1 (g n) y (g1 n (Nat.le_refl _)) hxy
  refine ⟨fun j => if j = n + 1 then v else g j, ?_,fun j hj => ?_,fun j z hj hz => ?_⟩
  ·show (if 0 = n + 1 then v else g 0) = v0
   rw [if_neg (by omega),g0]
  ·show SlOf 1 _ (if j = n + 1 then v else g j)
   by_cases hjn : j = n + 1
   ·rw [if_pos hjn,hjn,genN_succ f hx];exact hv
   ·rw [if_neg hjn];exact g1 j (by omega)
  ·show Ans (Cx e) 71 [(if j = n + 1 then v else g j),z] (if j + 1 = n + 1 then v else g (j + 1))
   rw [if_neg (by omega)]
   by_cases hjn : j = n
   ·subst hjn
    rw [if_pos rfl]
    rw [hy] at hz;cases hz
    exact ha
   ·rw [if_neg (by omega)];exact g2 j z (by omega) hz
def gsTo (g : Nat → AV) (n : Nat) : List AV := (List.range n).map g
theorem gsTo_succ (g : Nat → AV) (n : Nat) : gsTo g n ++ [g n] = gsTo g (n + 1) := by
 unfold gsTo
 rw [List.range_succ,List.map_append];rfl
theorem gsTo_len (g : Nat → AV) (n : Nat) : (gsTo g n).length = n := by unfold gsTo;simp
theorem gsTo_get (g : Nat → AV) {n j : Nat} (h : j < n) : (gsTo g n)[j]? = some (g j) := by
 unfold gsTo
 rw [List.getElem?_map,List.getElem?_range h];rfl
theorem appGens (A B C : Option AObj) (R : List (Option AObj)) (g : Nat → AV) (j slot : Nat) (hb : bound (g (j + 1)) = 0) (hj : j < 1000) : appTo 22 1 24 ⟨A :: B :: C :: some (.cells j 0 22 1 true (gsTo g (j + 1))) :: R,0⟩ slot 1 [g (j + 1)] (.sl 3 j 0 (j + 1) none) = some (.sl 3 (j + 1) 0 (j + 1 + 1) none,⟨A :: B :: C :: some (.cells (j + 1) 0 22 1 true (gsTo g (j + 1 + 1))) :: R,0⟩) := by
 have hr : (⟨A :: B :: C :: some (.cells j 0 22 1 true (gsTo g (j + 1))) :: R,0⟩ : Heap).row 3 j = some (0,22,1,true,gsTo g (j + 1)) := by unfold Heap.row Heap.get;simp
 have hf : fitsA 24 (j + 1 + 1) = true := by unfold fitsA;exact decide_eq_true (by omega)
 rw [appTo_own hr (by rw [gsTo_len];omega) (Nat.zero_le _) hf (by omega) (by omega)]
 have hs := gsTo_succ g (j + 1)
 rw [hs,boundL_cons,boundL_nil,hb]
 rfl
theorem SlOf.frzK {sz : Nat} {xs : List AV} {x : AV} (h : SlOf sz xs x) (H : Heap) (k : Nat) : freezeV H (k + 1) x = some x := by
 rcases h with ⟨rfl, -⟩ | ⟨cap,rfl⟩ <;> rfl
theorem frzSt {H : Heap} (hk : H.lock = 0) {b v n : Nat} {cs : List AV} (hr : H.row b v = some (0,22,1,true,cs)) (hn : n = cs.length) {s1 s2 : Nat} {xs ys : List AV} {x y : AV} (hx : SlOf s1 xs x) (hy : SlOf s2 ys y) (z : Value) : freezeV H 1000000 (.tup [.agg [x,y,.sl b v 0 n none],.v z]) = some (.tup [.agg [x,y,.vs 1 cs none],.v z]) := by
 have h1 := frzRow hk hr hn 999993
 have h2 := hx.frzK H 999995
 have h3 := hy.frzK H 999994
 have h4 : freezeL H 999997 [x,y,.sl b v 0 n none] = some [x,y,.vs 1 cs none] := by
  simp only [freezeL,h1,h2,h3]
 have h5 : freezeV H 999998 (.agg [x,y,.sl b v 0 n none]) = some (.agg [x,y,.vs 1 cs none]) := by
  show (freezeL H 999997 _).map AV.agg = _
  rw [h4];rfl
 show (freezeL H 999999 _).map AV.tup = _
 simp only [freezeL,h5]
 rfl
theorem trim_four {A B C D : AObj} {E : Option AObj} {vs : List AV} (h1 : boundL vs ≤ 4) (ha : A.bound ≤ 4) (hb : B.bound ≤ 4) (hc : C.bound ≤ 4) (hd : D.bound ≤ 4) : (⟨[some A,some B,some C,some D,E],0⟩ : Heap).trim 4 vs [] = ⟨[some A,some B,some C,some D],0⟩ := by
 unfold Heap.trim
 have e1 := Nat.ble_eq_true_of_le h1
 have e2 : boundsOk 4 [some A,some B,some C,some D] = true := by
  unfold boundsOk
  simp only [boundsOk,Nat.ble_eq_true_of_le ha,Nat.ble_eq_true_of_le hb,Nat.ble_eq_true_of_le hc,Nat.ble_eq_true_of_le hd,Bool.and_true]
 rw [if_pos (by rw [e1];show (true && true && boundsOk 4 [some A,some B,some C,some D] && true) = true;rw [e2];rfl)]
 rfl
theorem ans45 {e : Exts} (he : Quiet e) (f : List ByteArray) (ns : List Hnk) (h : OkS f ns) (x y : AV) (ys : List AV) (hx : SlOf 1 (strs f) x) (hy : SlOf 3 ys y) (hys : All2 HunkA ns ys) : ∃ gs,gs.length = ns.length + 1 ∧ (∀ j,j ≤ ns.length → ∃ u,gs[j]? = some u ∧ SlOf 1 (strs (genN f ns j)) u) ∧ Ans (Cx e) 45 [.agg [x,y]] (.tup [.agg [x,y,.vs 1 gs none],.v (.int .i64 0)]) := by
 have hfl := rowsB_len h.rows
 obtain ⟨v0,hv0,ha0⟩ := ans52 he f (by omega) x hx
 obtain ⟨g,g0,g1,g2⟩ := gens_of he h ys hys v0 hv0 ns.length (Nat.le_refl _)
 subst g0
 have hly := hy.len
 have hlen := hys.1
 rw [← hlen] at hly
 have hn := h.len
 have c50 := fun me d H => call50 he f (rowsB_fits h.rows) x hx me d H
 rw [h.rows] at c50
 have c52 := fun d H => ha0.call (me := 45) (d := d) (ext_52 he) (pure_52_45 e d) (by simp only [boundL_cons,hx.bound,boundL_nil];rfl) H
 have hb : ¬ (ns.length : Int) ≥ 12 := by omega
 have q1 : List.flatMap AV.cells [g 0] = [g 0] := by simp [hv0.cells]
 have q2 : [g 0].all AV.flat = true := by simp [hv0.flat]
 have q3 : boundL [g 0] = 0 := by rw [boundL_cons,boundL_nil,hv0.bound];rfl
 have q4 : fitsA 24 1 = true := by decide
 refine ⟨gsTo g (ns.length + 1),gsTo_len g _,fun j hj => ⟨g j,gsTo_get g (by omega),g1 j hj⟩, ?_⟩
 unfold Ans
 rw [fn_step (fn_45 e) (show Tryz.f45.body = some _ from rfl)]
 simp -implicitDefEqProofs only [Tryz.f45,go_sem,↓reduceIte,Int.reduceEq,Int.reduceLT,Int.reduceLE,List.reduceReplicate,intA,setT_nil,setT_cons,hb,hly,c50,c52,q1,q2,q3,q4,hx.cells,hx.flat,hx.bound,hy.cells,hy.flat,hy.bound,hv0.cells,hv0.flat,hv0.bound,Bool.not_true,↓boolP_bool,↓iteB_true,↓iteB_false]
 refine Lp_ruleQ (P := fun μ a H => ∃ j,j + μ = ns.length ∧ a = ⟨57,[(0,.agg [x,y]),(1,.ptr 0 0 0),(2,.ptr 1 0 0),(3,intA 0),(4,.ptr 2 0 0),(21,.v (.bool false)),(5,g j),(35,y),(36,intA ns.length),(37,intA (j : Nat))],[]⟩ ∧ H = ⟨[some (.cells 0 0 38 1 false [x,y]),some (.cells 0 0 101 1 false [.v (.slice none 0 0),.v (.slice none 0 0),.v (.slice none 0 0)]),some (.cells 0 4 101 1 false [x,y,.sl 3 j 0 (j + 1) none]),some (.cells j 0 22 1 true (gsTo g (j + 1)))],0⟩) ?_ ns.length _ _ ⟨0,by omega,rfl,rfl⟩
 rintro Q KK hQ hKK μ _ _ ⟨j,hj,rfl,rfl⟩
 cases μ with
 | zero =>
  obtain rfl : j = ns.length := by omega
  have hlt : ¬ (ns.length : Int) < (ns.length : Int) := by omega
  simp -implicitDefEqProofs only [go_sem,↓reduceIte,Int.reduceEq,Int.reduceLT,Int.reduceLE,List.reduceReplicate,intA,setT_nil,setT_cons,hlt,↓boolP_bool,↓iteB_true,↓iteB_false]
  refine hKK _ _ _ ?_
  simp -implicitDefEqProofs only [go_sem,↓reduceIte,Int.reduceEq,Int.reduceLT,Int.reduceLE,List.reduceReplicate,intA,setT_nil,setT_cons,hx.cells,hx.flat,hx.bound,hy.cells,hy.flat,hy.bound,↓boolP_bool,↓iteB_true,↓iteB_false]
  exact frzSt rfl (by unfold Heap.row Heap.get;simp) (gsTo_len g _).symm hx hy _
 | succ μ =>
  obtain ⟨hk,hk1⟩ := at_lt ns j (by omega)
  obtain ⟨u,hu1,hu2⟩ := hys.get hk1
  have hlt : (j : Int) < (ns.length : Int) := by omega
  have hix := hy.idx hu1
  have hw := wrap_succ j (by have := h.len;omega)
  have hgj := g1 j (by omega)
  have hgk := g1 (j + 1) (by omega)
  have hap := fun A B C R slot => appGens A B C R g j slot hgk.bound (by omega)
  have hok := h.step j hk hk1
  have ha70 := ans70 he (genN f ns j) (rowsB_len (h.gen j (by omega))) hk hok (rowsB_fits hok.2.1) u (g j) hu2 hgj
  have ha71 := g2 j u (by omega) hu1
  have bu : bound u = 0 := by obtain ⟨p,rfl,hp⟩ := hu2;exact bound_hnk p hp.bound
  have c70 := fun d H => ha70.call (me := 45) (d := d) (ext_70 he) (pure_70 _ _ _) (by simp only [boundL_cons,hgj.bound,bu,boundL_nil];rfl) H
  have c71 := fun d H => ha71.call (me := 45) (d := d) (ext_71 he) (pure_71 _ _ _) (by simp only [boundL_cons,hgj.bound,bu,boundL_nil];rfl) H
  obtain ⟨p,rfl,hp⟩ := hu2
  have r1 : List.flatMap AV.cells [g (j + 1)] = [g (j + 1)] := by simp [hgk.cells]
  have r2 : [g (j + 1)].all AV.flat = true := by simp [hgk.flat]
  simp -implicitDefEqProofs only [go_sem,↓reduceIte,Int.reduceEq,Int.reduceLT,Int.reduceLE,List.reduceReplicate,intA,setT_nil,setT_cons,hlt,hix,c70,c71,hw,hap,r1,r2,hgj.cells,hgj.flat,hgj.bound,hgk.cells,hgk.flat,hgk.bound,hp.cells,hp.flat,hp.bound,hx.cells,hx.flat,hx.bound,hy.cells,hy.flat,hy.bound,Bool.not_true,↓boolP_bool,↓iteB_true,↓iteB_false]
  have b1 : bound (.agg [x,y]) = 0 := by
   show boundL [x,y] = 0
   rw [boundL_cons,boundL_cons,boundL_nil,hx.bound,hy.bound];rfl
  rw [trim_four]
  rotate_left
  ·simp only [boundL_cons,boundL_nil,bound,hx.bound,hgk.bound,hy.bound];decide
  ·exact Nat.zero_le _
  ·exact Nat.zero_le _
  ·exact (by decide : (4 : Nat) ≤ 4)
  ·exact Nat.zero_le _
  exact Again.mk' μ (by omega) (hQ _ _ _ ⟨j + 1,by omega,rfl,rfl⟩)
end Go.Ev
namespace Go.Ev
open Go.Proofs
attribute [local irreducible] Wp WpS
end Go.Ev
namespace Go.Ev
open Go.Proofs
attribute [local irreducible] Wp WpS
end Go.Ev
namespace Go.Ev
open Go.Proofs
attribute [local irreducible] Wp WpS
theorem slice36L {xs : List AV} {x : AV} (h : SlOf 3 xs x) (j : Nat) (hj : j ≤ xs.length) : ∃ y,(∀ H,sliceA Tryz.prog H 36 x (some (.v (.int .i64 (j : Nat)))) none none = some y) ∧ SlOf 3 (xs.drop j) y := by
 rcases h with ⟨rfl,rfl⟩ | ⟨cap,rfl⟩
 ·obtain rfl : j = 0 := by simpa using hj
  refine ⟨.v (.slice none 0 0),fun H => ?_,Or.inl ⟨rfl,rfl⟩⟩
  unfold sliceA
  simp only [und_36,size_42]
  rfl
 ·have b1 : boundA (some (.v (.int .i64 (j : Nat)))) 0 xs.length = some j := by
   unfold boundA
   simp only [Int.toNat_natCast]
   rw [if_pos (by omega)]
  have b2 : boundA none xs.length xs.length = some xs.length := rfl
  refine ⟨.vs 3 (xs.drop j) (capOf none xs.length j cap),fun H => ?_,Or.inr ⟨_,rfl⟩⟩
  unfold sliceA
  simp only [und_36,size_42,b1,b2,List.take_length]
  rfl
def hkV (h : Hnk) (c : AV) : AV := .agg [.v (.int .i64 h.1),.v (.int .i64 h.2.1),c]
def hkC (h : Hnk) (c : AV) : List AV := [.v (.int .i64 h.1),.v (.int .i64 h.2.1),c]
theorem clones {e : Exts} (he : Quiet e) : ∀ (ns : List Hnk) (ys : List AV),All2 HunkA ns ys → (∀ h ∈ ns,h.2.2.length < 100000) → ∃ c : Nat → AV,∀ (j : Nat) (h : Hnk) (y : AV),ns[j]? = some h → ys[j]? = some y → ∃ p,y = .agg [.v (.int .i64 h.1),.v (.int .i64 h.2.1),p] ∧ SlOf 1 (strs h.2.2) p ∧ SlOf 1 (strs h.2.2) (c j) ∧ Ans (Cx e) 52 [p] (c j) := by
 intro ns ys hys hl
 have hex : ∀ j : Nat,∃ v : AV,∀ (h : Hnk) (y : AV),ns[j]? = some h → ys[j]? = some y → ∃ p,y = .agg [.v (.int .i64 h.1),.v (.int .i64 h.2.1),p] ∧ SlOf 1 (strs h.2.2) p ∧ SlOf 1 (strs h.2.2) v ∧ Ans (Cx e) 52 [p] v := by
  intro j
  cases hh : ns[j]? with
  | none => exact ⟨.v .nilIface,fun h y h1 => nomatch h1⟩
  | some h =>
   obtain ⟨y,hy,p,rfl,hp⟩ := hys.get hh
   obtain ⟨v,hv,ha⟩ := ans52 he h.2.2 (hl h (List.mem_of_getElem? hh)) p hp
   refine ⟨v,fun h' y' h1 h2 => ?_⟩
   cases h1
   rw [hy] at h2;cases h2
   exact ⟨p,rfl,hp,hv,ha⟩
 exact ⟨fun j => (hex j).choose,fun j => (hex j).choose_spec⟩
theorem chunk3 : ∀ l : List (Hnk × AV),chunk 3 l.length (l.flatMap fun p => hkC p.1 p.2) = l.map fun p => hkV p.1 p.2
 | [] => rfl
 | p :: l => by
  rw [List.flatMap_cons,List.length_cons,List.map_cons]
  show (AV.agg (((hkC p.1 p.2) ++ _).take 3)) :: chunk 3 l.length (((hkC p.1 p.2) ++ _).drop 3) = _
  rw [List.take_left' (by rfl),List.drop_left' (by rfl),chunk3 l];rfl
theorem len3 : ∀ l : List (Hnk × AV),(l.flatMap fun p => hkC p.1 p.2).length = l.length * 3
 | [] => rfl
 | p :: l => by
  rw [List.flatMap_cons,List.length_append,len3 l,List.length_cons]
  show 3 + l.length * 3 = _
  omega
def rowQ (ps : List (Hnk × AV)) (j : Nat) : List AV := (ps.take j).flatMap fun p => hkC p.1 p.2
theorem rowQ_succ {ps : List (Hnk × AV)} {j : Nat} {p : Hnk × AV} (h : ps[j]? = some p) : rowQ ps j ++ hkC p.1 p.2 = rowQ ps (j + 1) := by
 unfold rowQ
 rw [take_next h,List.flatMap_append];simp
theorem rowQ_len (ps : List (Hnk × AV)) {j : Nat} (h : j ≤ ps.length) : (rowQ ps j).length = j * 3 := by
 unfold rowQ
 rw [len3,List.length_take,Nat.min_eq_left h]
end Go.Ev
namespace Go.Ev
open Go.Proofs
attribute [local irreducible] Wp WpS
theorem bound2 {s1 s2 : Nat} {xs ys : List AV} {x y : AV} (hx : SlOf s1 xs x) (hy : SlOf s2 ys y) : bound (.agg [x,y]) = 0 := by
 show boundL [x,y] = 0
 rw [boundL_cons,boundL_cons,boundL_nil,hx.bound,hy.bound];rfl
theorem bound3 {s1 s2 : Nat} {xs ys gs : List AV} {x y : AV} {c : Option Nat} (hx : SlOf s1 xs x) (hy : SlOf s2 ys y) : bound (.agg [x,y,.vs 1 gs c]) = 0 := by
 show boundL [x,y,.vs 1 gs c] = 0
 rw [boundL_cons,boundL_cons,boundL_cons,boundL_nil,hx.bound,hy.bound];rfl
end Go.Ev
namespace Go.Ev
open Go.Proofs
attribute [local irreducible] Wp WpS
theorem genN_drop (f : List ByteArray) (ns : List Hnk) (k j : Nat) : genN (genN f ns k) (ns.drop k) j = genN f ns (k + j) := by
 unfold genN
 rw [List.take_add,List.foldl_append]
theorem OkS.drop {f : List ByteArray} {ns : List Hnk} (h : OkS f ns) {k : Nat} (hk : k ≤ ns.length) : OkS (genN f ns k) (ns.drop k) := by
 refine ⟨by rw [List.length_drop];have := h.len;omega,h.gen k hk,fun j n hn => ?_⟩
 rw [List.getElem?_drop] at hn
 rw [genN_drop]
 exact h.step _ _ hn
end Go.Ev
namespace Go.Ev
open Go.Proofs
attribute [local irreducible] Wp WpS
theorem comN_take : ∀ l m : List ByteArray,l.take (comN l m) = m.take (comN l m)
 | [],m => by
  have h := (comN_le [] m).1
  have h0 : comN [] m = 0 := by simpa using h
  rw [h0];rfl
 | a :: l,[] => by
  have h := (comN_le (a :: l) []).2
  have h0 : comN (a :: l) [] = 0 := by simpa using h
  rw [h0];rfl
 | a :: l,b :: m => by
  unfold comN
  by_cases h : a = b
  ·rw [if_pos h,h,List.take_succ_cons,List.take_succ_cons,comN_take l m]
  ·rw [if_neg h];rfl
theorem comN_drop (a b : List ByteArray) : a.drop (a.length - comN a.reverse b.reverse) = b.drop (b.length - comN a.reverse b.reverse) := by
 obtain ⟨h1,h2⟩ := comN_le a.reverse b.reverse
 rw [List.length_reverse] at h1 h2
 have h := comN_take a.reverse b.reverse
 rw [List.take_reverse,List.take_reverse] at h
 exact List.reverse_inj.1 h
end Go.Ev
namespace Go.Ev
open Go.Proofs
attribute [local irreducible] Wp WpS
theorem app36S (P0 P1 P2 A B C D : Option AObj) (R : List (Option AObj)) (ps : List (Hnk × AV)) (i slot : Nat) (h : Hnk) (c : AV) (hp : ps[i + 1]? = some (h,c)) (hb : bound c = 0) (hi : i < 1000) : appTo 42 3 40 ⟨P0 :: P1 :: P2 :: A :: B :: C :: D :: none :: none :: none :: none :: none :: none :: none :: none :: none :: none :: none :: some (.cells i 0 42 3 true (rowQ ps (i + 1))) :: R,0⟩ slot 1 [.v (.int .i64 h.1),.v (.int .i64 h.2.1),c] (.sl 18 i 0 (i + 1) none) = some (.sl 18 (i + 1) 0 (i + 1 + 1) none,⟨P0 :: P1 :: P2 :: A :: B :: C :: D :: none :: none :: none :: none :: none :: none :: none :: none :: none :: none :: none :: some (.cells (i + 1) 0 42 3 true (rowQ ps (i + 1 + 1))) :: R,0⟩) := by
 have hj := (List.getElem?_eq_some_iff.1 hp).1
 have hr : (⟨P0 :: P1 :: P2 :: A :: B :: C :: D :: none :: none :: none :: none :: none :: none :: none :: none :: none :: none :: none :: some (.cells i 0 42 3 true (rowQ ps (i + 1))) :: R,0⟩ : Heap).row 18 i = some (0,42,3,true,rowQ ps (i + 1)) := by unfold Heap.row Heap.get;simp
 have hf : fitsA 40 (i + 1 + 1) = true := by unfold fitsA;exact decide_eq_true (by omega)
 have hq : rowQ ps (i + 1) ++ [.v (.int .i64 h.1),.v (.int .i64 h.2.1),c] = rowQ ps (i + 1 + 1) := rowQ_succ hp
 rw [appTo_own hr (by rw [rowQ_len ps (by omega)]) (Nat.zero_le _) hf (by omega) (by omega),hq]
 rw [boundL_cons,boundL_cons,boundL_cons,boundL_nil,hb];rfl
theorem trim_noS {P0 P1 P2 A B C : AObj} {R : List (Option AObj)} {vs : List AV} {ms : List Nat} (hc : 6 < C.bound) : (⟨some P0 :: some P1 :: some P2 :: some A :: some B :: some C :: R,0⟩ : Heap).trim 6 vs ms = ⟨some P0 :: some P1 :: some P2 :: some A :: some B :: some C :: R,0⟩ := by
 unfold Heap.trim
 rw [if_neg]
 have h1 : Nat.ble C.bound 6 = false := by
  cases hb : Nat.ble C.bound 6 with
  | false => rfl
  | true => have := Nat.le_of_ble_eq_true hb;omega
 have h2 : boundsOk 6 ((some P0 :: some P1 :: some P2 :: some A :: some B :: some C :: R).take 6) = false := by
  show (Nat.ble P0.bound 6 && (Nat.ble P1.bound 6 && (Nat.ble P2.bound 6 && (Nat.ble A.bound 6 && (Nat.ble B.bound 6 && (Nat.ble C.bound 6 && boundsOk 6 (R.take 0))))))) = false
  rw [h1];simp
 rw [h2];simp
theorem trim_21 {P0 P1 P2 A B C D E : AObj} {R : List (Option AObj)} {vs : List AV} (h1 : boundL vs ≤ 21) (p0 : P0.bound = 0) (p1 : P1.bound = 0) (p2 : P2.bound = 0) (ha : A.bound ≤ 21) (hb : B.bound ≤ 21) (hc : C.bound ≤ 21) (hd : D.bound ≤ 21) (he : E.bound ≤ 21) : (⟨some P0 :: some P1 :: some P2 :: some A :: some B :: some C :: some D :: none :: none :: none :: none :: none :: none :: none :: none :: none :: none :: none :: some E :: none :: none :: R,0⟩ : Heap).trim 21 vs [] = ⟨[some P0,some P1,some P2,some A,some B,some C,some D,none,none,none,none,none,none,none,none,none,none,none,some E,none,none],0⟩ := by
 unfold Heap.trim
 have e1 := Nat.ble_eq_true_of_le h1
 have e2 : boundsOk 21 ((some P0 :: some P1 :: some P2 :: some A :: some B :: some C :: some D :: none :: none :: none :: none :: none :: none :: none :: none :: none :: none :: none :: some E :: none :: none :: R).take 21) = true := by
  show (Nat.ble P0.bound 21 && (Nat.ble P1.bound 21 && (Nat.ble P2.bound 21 && (Nat.ble A.bound 21 && (Nat.ble B.bound 21 && (Nat.ble C.bound 21 && (Nat.ble D.bound 21 && (Nat.ble E.bound 21 && boundsOk 21 (R.take 0))))))))) = true
  rw [p0,p1,p2,Nat.ble_eq_true_of_le ha,Nat.ble_eq_true_of_le hb,Nat.ble_eq_true_of_le hc,Nat.ble_eq_true_of_le hd,Nat.ble_eq_true_of_le he];rfl
 rw [if_pos (by rw [e1,e2];rfl)]
 rfl
theorem fn46S {e : Exts} (he : Quiet e) (ns : List Hnk) (hn : ns.length ≤ 11) (hp : ∀ h ∈ ns,h.2.2.length < 100000) (x y : AV) {xs0 : List AV} {s0 : Nat} (hx : SlOf s0 xs0 x) (ys gs : List AV) (hy : SlOf 3 ys y) (hys : All2 HunkA ns ys) (u : AV) (l : List ByteArray) (hu1 : gs[0]? = some u) (hu2 : SlOf 1 (strs l) u) : ∃ ps : List (Hnk × AV),ps.length = ns.length ∧ (∀ (j : Nat) (h : Hnk),ns[j]? = some h → ∃ c,ps[j]? = some (h,c) ∧ SlOf 1 (strs h.2.2) c) ∧ ∀ P0 P1 P2 : AObj,P0.bound = 0 → P1.bound = 0 → P2.bound = 0 → Fn' (Cx e) 46 [.agg [x,y,.vs 1 gs none],.v (.int .i64 (0 : Nat))] ⟨[some P0,some P1,some P2],0⟩ (fun v X => (ns.length = 0 ∧ v = .agg [u,.v (.slice none 0 0)] ∧ ∃ A B C,X = ⟨[some P0,some P1,some P2,A,B,C],0⟩) ∨ (∃ i A B C D,ns.length = i + 1 ∧ v = .agg [u,.sl 18 i 0 (i + 1) none] ∧ X = ⟨[some P0,some P1,some P2,A,B,C,D,none,none,none,none,none,none,none,none,none,none,none,some (.cells i 0 42 3 true (rowQ ps (i + 1))),none,none],0⟩)) := by
 obtain ⟨c,hc⟩ := clones he ns ys hys hp
 have hlen := hys.1
 obtain ⟨k,hk0⟩ : ∃ k : Nat,k = 0 := ⟨0,rfl⟩
 rw [← hk0] at hu1
 have hk : k ≤ ns.length := by omega
 obtain ⟨y2,hy2,hy3⟩ := slice36L hy k (by omega)
 have hly := hy3.len
 rw [List.length_drop,← hlen] at hly
 have hix := (show SlOf 1 gs (.vs 1 gs none) from Or.inr ⟨none,rfl⟩).idx hu1
 obtain ⟨n,hnk⟩ : ∃ n,ns.length - k = n := ⟨_,rfl⟩
 rw [hnk] at hly
 obtain ⟨ps,hps⟩ : ∃ ps : List (Hnk × AV),ps = (ns.drop k).zip ((List.range n).map fun j => c (k + j)) := ⟨_,rfl⟩
 have hpl : ps.length = n := by rw [hps,List.length_zip,List.length_drop,List.length_map,List.length_range];omega
 have hpg : ∀ (j : Nat) (h : Hnk),ns[k + j]? = some h → ps[j]? = some (h,c (k + j)) := by
  intro j h hh
  have hj := (List.getElem?_eq_some_iff.1 hh).1
  rw [hps,List.getElem?_zip_eq_some]
  refine ⟨by rw [List.getElem?_drop];exact hh, ?_⟩
  rw [List.getElem?_map,List.getElem?_range (by omega)];rfl
 refine ⟨ps,by omega,fun j h hh => ?_,fun P0 P1 P2 hP0 hP1 hP2 => ?_⟩
 ·have hj := (List.getElem?_eq_some_iff.1 hh).1
  obtain ⟨z,hz, -⟩ := hys.get hh
  obtain ⟨p, -, -,h3, -⟩ := hc j h z hh hz
  have hpj := hpg j h (by rw [hk0,Nat.zero_add];exact hh)
  rw [hk0,Nat.zero_add] at hpj
  exact ⟨c j,hpj,h3⟩
 rw [show (((0 : Nat) : Nat) : Int) = ((k : Nat) : Int) by rw [hk0]]
 rw [fn_step (fn_46 e) (show Tryz.f46.body = some _ from rfl)]
 simp -implicitDefEqProofs only [Tryz.f46,go_sem,↓reduceIte,Int.reduceEq,Int.reduceLT,Int.reduceLE,List.reduceReplicate,intA,setT_nil,setT_cons,hly,hy2,hix,hx.cells,hx.flat,hx.bound,hy.cells,hy.flat,hy.bound,hy3.cells,hy3.flat,hy3.bound,hu2.cells,hu2.flat,hu2.bound,↓boolP_bool,↓iteB_true,↓iteB_false]
 refine Lp_ruleQ (P := fun μ a H => ∃ j,j + μ = n ∧ ((j = 0 ∧ a = ⟨39,[(0,.agg [x,y,.vs 1 gs none]),(1,intA (k : Nat)),(2,.ptr 3 0 0),(4,.ptr 4 0 0),(5,.ptr 5 0 0),(18,y2),(19,intA (n : Nat)),(20,intA 0)],[]⟩ ∧ H = ⟨[some P0,some P1,some P2,some (.cells 0 0 101 1 false [x,y,.vs 1 gs none]),some (.cells 0 0 38 1 false [.v (.slice none 0 0),.v (.slice none 0 0)]),some (.cells 0 0 38 1 false [u,.v (.slice none 0 0)])],0⟩) ∨ (∃ i G,j = i + 1 ∧ a = ⟨39,[(0,.agg [x,y,.vs 1 gs none]),(1,intA (k : Nat)),(2,.ptr 3 0 0),(4,.ptr 4 0 0),(5,.ptr 5 0 0),(18,y2),(19,intA (n : Nat)),(20,intA (j : Nat))],[]⟩ ∧ H = ⟨[some P0,some P1,some P2,some (.cells 0 0 101 1 false [x,y,.vs 1 gs none]),some (.cells 0 0 38 1 false [.v (.slice none 0 0),.v (.slice none 0 0)]),some (.cells 0 19 38 1 false [u,.sl 18 i 0 (i + 1) none]),some (.cells 0 0 42 1 false G),none,none,none,none,none,none,none,none,none,none,none,some (.cells i 0 42 3 true (rowQ ps (i + 1))),none,none],0⟩))) ?_ n _ _ ⟨0,by omega,Or.inl ⟨rfl,rfl,rfl⟩⟩
 rintro Q KK hQ hKK μ _ _ ⟨j,hj,(⟨rfl,rfl,rfl⟩ | ⟨i,G,rfl,rfl,rfl⟩)⟩
 ·cases μ with
  | zero =>
   have hz : n = 0 := by omega
   have hlt : ¬ (0 : Int) < (n : Int) := by omega
   simp -implicitDefEqProofs only [go_sem,↓reduceIte,Int.reduceEq,Int.reduceLT,Int.reduceLE,List.reduceReplicate,intA,setT_nil,setT_cons,hlt,hx.cells,hx.flat,hx.bound,hy.cells,hy.flat,hy.bound,hu2.cells,hu2.flat,hu2.bound,↓boolP_bool,↓iteB_true,↓iteB_false]
   refine hKK _ _ _ ?_
   simp -implicitDefEqProofs only [go_sem,↓reduceIte,Int.reduceEq,Int.reduceLT,Int.reduceLE,List.reduceReplicate,intA,setT_nil,setT_cons,hx.cells,hx.flat,hx.bound,hy.cells,hy.flat,hy.bound,hu2.cells,hu2.flat,hu2.bound,↓boolP_bool,↓iteB_true,↓iteB_false]
   exact Or.inl ⟨by omega,rfl,_,_,_,rfl⟩
  | succ μ =>
   obtain ⟨h,hh⟩ := at_lt ns k (by omega)
   obtain ⟨z,hz, -⟩ := hys.get hh
   obtain ⟨p,rfl,hp1,hv,ha52⟩ := hc k h z hh hz
   have hpj := hpg 0 h hh
   have hlt : (0 : Int) < (n : Int) := by omega
   have hix2 : ∀ kk,slIdx 3 y2 (.v (.int kk 0)) = some (.ro (.agg [.v (.int .i64 h.1),.v (.int .i64 h.2.1),p]) 0) := fun kk => hy3.idx (j := 0) (show (ys.drop k)[0]? = some _ by rw [List.getElem?_drop];exact hz) kk
   have c52 := fun d => ha52.callI (me := 46) (d := d) (ext_52 he) (pure_52_46 e d) (by rw [boundL_cons,boundL_nil,hp1.bound];rfl)
   have e1 : List.flatMap AV.cells [AV.agg [.v (.int .i64 h.1),.v (.int .i64 h.2.1),c k]] = [.v (.int .i64 h.1),.v (.int .i64 h.2.1),c k] := rfl
   have e2 : [AV.v (.int .i64 h.1),.v (.int .i64 h.2.1),c k].all AV.flat = true := by rw [List.all_cons,List.all_cons,List.all_cons,List.all_nil,hv.flat];rfl
   have e3 : boundL [AV.v (.int .i64 h.1),.v (.int .i64 h.2.1),c k] = 0 := by rw [boundL_cons,boundL_cons,boundL_cons,boundL_nil,hv.bound];rfl
   have e4 : fitsA 40 1 = true := by decide
   have e5 : IntKind.i64.wrap (0 + 1) = 1 := by decide
   have hne : ¬ n = 0 := by omega
   simp -implicitDefEqProofs only [go_sem,↓reduceIte,Int.reduceEq,Int.reduceLT,Int.reduceLE,List.reduceReplicate,intA,setT_nil,setT_cons,hlt,hix2,hp1.cells,hp1.flat,hp1.bound,hv.cells,hv.flat,hv.bound,hx.cells,hx.flat,hx.bound,hy.cells,hy.flat,hy.bound,hu2.cells,hu2.flat,hu2.bound,↓boolP_bool,↓iteB_true,↓iteB_false]
   refine wp_drawX [([],[],false),([],[],false),([],[],false),([1],[],false),([],[],false),([1,3],[],false),([],[],false),([1,3,5],[],false),([1,3,5],[],false),([],[],false),([1],[],false),([],[10],false),([],[],false),([],[10,11],false)] (by kernel_rfl) (by kernel_rfl) ?_
   simp -implicitDefEqProofs only [go_sem,↓reduceIte,Int.reduceEq,Int.reduceLT,Int.reduceLE,List.reduceReplicate,intA,setT_nil,setT_cons,List.isEmpty_nil,hix2,c52,e1,e2,e3,e4,e5,hp1.cells,hp1.flat,hp1.bound,hv.cells,hv.flat,hv.bound,hx.cells,hx.flat,hx.bound,hy.cells,hy.flat,hy.bound,hu2.cells,hu2.flat,hu2.bound,↓boolP_bool,↓iteB_true,↓iteB_false]
   rw [trim_noS]
   rotate_left
   ·exact (by decide : (6 : Nat) < 19)
   have hr0 : rowQ ps 1 = [.v (.int .i64 h.1),.v (.int .i64 h.2.1),c k] := (rowQ_succ hpj).symm
   exact Again.mk' μ (by omega) (hQ _ _ _ ⟨1,by omega,Or.inr ⟨0,_,rfl,rfl,by rw [hr0];rfl⟩⟩)
 ·cases μ with
  | zero =>
   have hi1 : i + 1 = n := by omega
   have hlt : ¬ (((i + 1 : Nat) : Nat) : Int) < (n : Int) := by omega
   simp -implicitDefEqProofs only [go_sem,↓reduceIte,Int.reduceEq,Int.reduceLT,Int.reduceLE,List.reduceReplicate,intA,setT_nil,setT_cons,hlt,hx.cells,hx.flat,hx.bound,hy.cells,hy.flat,hy.bound,hu2.cells,hu2.flat,hu2.bound,↓boolP_bool,↓iteB_true,↓iteB_false]
   refine hKK _ _ _ ?_
   simp -implicitDefEqProofs only [go_sem,↓reduceIte,Int.reduceEq,Int.reduceLT,Int.reduceLE,List.reduceReplicate,intA,setT_nil,setT_cons,hx.cells,hx.flat,hx.bound,hy.cells,hy.flat,hy.bound,hu2.cells,hu2.flat,hu2.bound,↓boolP_bool,↓iteB_true,↓iteB_false]
   exact Or.inr ⟨i,_,_,_,_,by omega,rfl,rfl⟩
  | succ μ =>
   obtain ⟨h,hh⟩ := at_lt ns (k + (i + 1)) (by omega)
   obtain ⟨z,hz, -⟩ := hys.get hh
   obtain ⟨p,rfl,hp1,hv,ha52⟩ := hc (k + (i + 1)) h z hh hz
   have hpj := hpg (i + 1) h hh
   have hlt : (((i + 1 : Nat) : Nat) : Int) < (n : Int) := by omega
   have hix2 := hy3.idx (show (ys.drop k)[i + 1]? = some _ by rw [List.getElem?_drop];exact hz)
   have c52 := fun d => ha52.callI (me := 46) (d := d) (ext_52 he) (pure_52_46 e d) (by rw [boundL_cons,boundL_nil,hp1.bound];rfl)
   have e1 : List.flatMap AV.cells [AV.agg [.v (.int .i64 h.1),.v (.int .i64 h.2.1),c (k + (i + 1))]] = [.v (.int .i64 h.1),.v (.int .i64 h.2.1),c (k + (i + 1))] := rfl
   have e2 : [AV.v (.int .i64 h.1),.v (.int .i64 h.2.1),c (k + (i + 1))].all AV.flat = true := by rw [List.all_cons,List.all_cons,List.all_cons,List.all_nil,hv.flat];rfl
   have r1 := fun P0 P1 P2 A B C D R slot => app36S P0 P1 P2 A B C D R ps i slot h (c (k + (i + 1))) hpj hv.bound (by omega)
   have e5 := wrap_succ (i + 1) (by omega)
   simp -implicitDefEqProofs only [go_sem,↓reduceIte,Int.reduceEq,Int.reduceLT,Int.reduceLE,List.reduceReplicate,intA,setT_nil,setT_cons,hlt,hix2,hp1.cells,hp1.flat,hp1.bound,hv.cells,hv.flat,hv.bound,hx.cells,hx.flat,hx.bound,hy.cells,hy.flat,hy.bound,hu2.cells,hu2.flat,hu2.bound,↓boolP_bool,↓iteB_true,↓iteB_false]
   refine wp_drawX [([],[],false),([],[],false),([],[],false),([1],[],false),([],[],false),([1,3],[],false),([],[],false),([1,3,5],[],false),([1,3,5],[],false),([],[],false),([1],[],false),([],[10],false),([],[],false),([],[10,11],false)] (by kernel_rfl) (by kernel_rfl) ?_
   simp -implicitDefEqProofs only [go_sem,↓reduceIte,Int.reduceEq,Int.reduceLT,Int.reduceLE,List.reduceReplicate,intA,setT_nil,setT_cons,List.isEmpty_nil,hix2,c52,e1,e2,r1,e5,hp1.cells,hp1.flat,hp1.bound,hv.cells,hv.flat,hv.bound,hx.cells,hx.flat,hx.bound,hy.cells,hy.flat,hy.bound,hu2.cells,hu2.flat,hu2.bound,↓boolP_bool,↓iteB_true,↓iteB_false]
   rw [trim_21]
   rotate_left
   ·simp only [boundL_cons,boundL_nil,bound,hx.bound,hy.bound,hy3.bound];decide
   ·exact hP0
   ·exact hP1
   ·exact hP2
   ·exact Nat.zero_le _
   ·exact Nat.zero_le _
   ·exact (by decide : (19 : Nat) ≤ 21)
   ·exact Nat.zero_le _
   ·exact Nat.zero_le _
   exact Again.mk' μ (by omega) (hQ _ _ _ ⟨i + 1 + 1,by omega,Or.inr ⟨i + 1,_,rfl,rfl,rfl⟩⟩)
theorem call_keptP {C : Cfg} {f : FuncId} {args : List AV} {H : Heap} {Φ : AV → Heap → Prop} {me : FuncId} {d : Option Tmp} (hx : C.ext f = none) (hk : callKind C me f d args = 0) (h : Fn' C f args H Φ) (hh : C.exh f = none := by rfl) : ∃ v X, Φ v X ∧ callA C (lim C) me f d args H = some (v,X.trim H.size [v] []) := by
 unfold Fn' at h
 rw [bindO_iff] at h
 obtain ⟨o,h1,h2⟩ := h
 cases o with
 | go => exact h2.elim
 | ret x X =>
  refine ⟨x,X,h2, ?_⟩
  unfold callA standA standH
  rw [hx];simp only;rw [hh];simp only
  unfold callB
  rw [hk]
  simp only [h1]
end Go.Ev
namespace Go.Ev
open Go.Proofs
attribute [local irreducible] Wp WpS
theorem ans48 {e : Exts} {s1 s2 : Nat} {xs ys gs : List AV} {x y u : AV} {n : Nat} {l : List ByteArray} (hx : SlOf s1 xs x) (hy : SlOf s2 ys y) (hg : gs.length = n + 1) (hn : n < 1000) (hu : gs[n]? = some u) (hu2 : SlOf 1 (strs l) u) : Ans (Cx e) 48 [.agg [x,y,.vs 1 gs none]] u := by
 have hlg : slLen (.vs 1 gs none) = some (.v (.int .i64 ((n + 1 : Nat) : Int))) := by rw [← hg];rfl
 have hix := (show SlOf 1 gs (.vs 1 gs none) from Or.inr ⟨none,rfl⟩).idx hu
 have w1 : IntKind.i64.wrap (((n + 1 : Nat) : Int) - 1) = ((n : Nat) : Int) := by rw [wrap_in _ (by omega) (by omega)];omega
 unfold Ans
 rw [fn_step (fn_48 e) (show Tryz.f48.body = some _ from rfl)]
 simp -implicitDefEqProofs only [Tryz.f48,go_sem,↓reduceIte,Int.reduceEq,Int.reduceLT,Int.reduceLE,List.reduceReplicate,intA,setT_nil,setT_cons,hlg,hix,w1,hx.cells,hx.flat,hx.bound,hy.cells,hy.flat,hy.bound,hu2.cells,hu2.flat,hu2.bound,↓boolP_bool,↓iteB_true,↓iteB_false]
 exact hu2.frzK _ _
theorem frzSave {H : Heap} (hk : H.lock = 0) {b i n : Nat} {qs : List (Hnk × AV)} (hr : H.row b i = some (0,42,3,true,qs.flatMap fun p => hkC p.1 p.2)) (hl : qs.length = n) {sz : Nat} {xs : List AV} {u : AV} (hu : SlOf sz xs u) (z : Value) : freezeV H 1000000 (.tup [.agg [u,.sl b i 0 n none],.v z]) = some (.tup [.agg [u,.vs 3 (qs.map fun p => hkV p.1 p.2) none],.v z]) := by
 have hql := len3 qs
 have h1 : freezeV H (999994 + 1) (.sl b i 0 n none) = some (.vs 3 (qs.map fun p => hkV p.1 p.2) none) := by
  unfold freezeV
  simp only [hr]
  rw [if_neg (by omega),if_pos ⟨by rw [hql];omega,by omega⟩,if_pos trivial,List.drop_zero,List.take_of_length_le (by rw [hql];omega),← hl,chunk3]
 have h2 := hu.frzK H 999995
 have h4 : freezeL H 999997 [u,.sl b i 0 n none] = some [u,.vs 3 (qs.map fun p => hkV p.1 p.2) none] := by
  simp only [freezeL,h1,h2]
 have h5 : freezeV H 999998 (.agg [u,.sl b i 0 n none]) = some (.agg [u,.vs 3 (qs.map fun p => hkV p.1 p.2) none]) := by
  show (freezeL H 999997 _).map AV.agg = _
  rw [h4];rfl
 show (freezeL H 999999 _).map AV.tup = _
 simp only [freezeL,h5]
 rfl
theorem hunks_snoc {ns : List Hnk} {ps : List (Hnk × AV)} {hk : Hnk} {pv : AV} (hl : ps.length = ns.length) (hp : ∀ (j : Nat) (h : Hnk),ns[j]? = some h → ∃ c,ps[j]? = some (h,c) ∧ SlOf 1 (strs h.2.2) c) (hpv : SlOf 1 (strs hk.2.2) pv) : All2 HunkA (ns ++ [hk]) ((ps ++ [(hk,pv)]).map fun p => hkV p.1 p.2) := by
 refine ⟨by rw [List.length_map,List.length_append,List.length_append,hl];rfl,fun j h v hh hv => ?_⟩
 by_cases hj : j < ns.length
 ·rw [List.getElem?_append_left hj] at hh
  obtain ⟨c,h1,h2⟩ := hp j h hh
  rw [List.getElem?_map,List.getElem?_append_left (by omega),h1] at hv
  cases hv
  exact ⟨c,rfl,h2⟩
 ·have h3 := (List.getElem?_eq_some_iff.1 hh).1
  rw [List.length_append] at h3
  have h4 : j = ns.length := by simp at h3;omega
  rw [List.getElem?_append_right (by omega),h4,Nat.sub_self] at hh
  cases hh
  rw [List.getElem?_map,List.getElem?_append_right (by omega),h4,hl,Nat.sub_self] at hv
  cases hv
  exact ⟨pv,rfl,hpv⟩
theorem ans16 {e : Exts} (he : Quiet e) (f : List ByteArray) (ns : List Hnk) (h : OkS f ns) (hn : ns.length < 11) (x y : AV) (ys : List AV) (hx : SlOf 1 (strs f) x) (hy : SlOf 3 ys y) (hys : All2 HunkA ns ys) (m : List ByteArray) (hm : rowsB m = true) (z : AV) (hz : SlOf 1 (strs m) z) : ∃ u y' ys',SlOf 1 (strs f) u ∧ SlOf 3 ys' y' ∧ All2 HunkA (ns ++ [hunkL (genN f ns ns.length) m]) ys' ∧ Ans (Cx e) 16 [.agg [x,y],z] (.tup [.agg [u,y'],.v (.int .i64 0)]) := by
 obtain ⟨gs,g1,g2,ha⟩ := ans45 he f ns h x y ys hx hy hys
 obtain ⟨u,hu1,hu2⟩ := g2 0 (Nat.zero_le _)
 obtain ⟨w,hw1,hw2⟩ := g2 ns.length (Nat.le_refl _)
 have hgl := rowsB_len (h.gen ns.length (Nat.le_refl _))
 have hml := rowsB_len hm
 obtain ⟨hv,hv1,ha47⟩ := ans47 he (genN f ns ns.length) m (by omega) (by omega) w z hw2 hz
 obtain ⟨hk,hk1⟩ : ∃ hk,hk = hunkL (genN f ns ns.length) m := ⟨_,rfl⟩
 rw [← hk1] at hv1 ⊢
 obtain ⟨pv,rfl,hpv⟩ := hv1
 have c45 := fun me d H => ha.call (me := me) (d := d) (ext_45 he) (pure_45 _ _ _) (by rw [boundL_cons,boundL_nil,bound2 hx hy];rfl) H
 have c39 := fun me d H => call39 he m (rowsB_fits hm) z hz me d H
 rw [hm] at c39
 simp only [if_true] at c39
 have c48 := fun me d => (ans48 (e := e) hx hy g1 (by omega) hw1 hw2).callI (me := me) (d := d) (ext_48 he) (pure_48 _ _ _) (by rw [boundL_cons,boundL_nil,bound3 hx hy];rfl)
 have c47 := fun me d => ha47.callI (me := me) (d := d) (ext_47 he) (pure_47 _ _ _) (by rw [boundL_cons,boundL_cons,boundL_nil,hw2.bound,hz.bound];rfl)
 have hlg : slLen (.vs 1 gs none) = some (.v (.int .i64 ((ns.length + 1 : Nat) : Int))) := by rw [← g1];rfl
 have h12 : ¬ ((ns.length + 1 : Nat) : Int) = 12 := by omega
 obtain ⟨ps,hp1,hp2,h46⟩ := fn46S he ns h.len (fun n hn => by
  obtain ⟨j,hj⟩ := List.mem_iff_getElem?.1 hn
  have := rowsB_len (h.step j n hj).2.1
  omega) x y hx ys gs hy hys u _ hu1 hu2
 obtain ⟨v,X,hX,c46⟩ := call_keptP (me := 16) (d := some 31) (ext_46 he) rfl (h46 (.cells 0 0 38 1 false [x,y]) (.cells 0 0 38 1 false [.v (.slice none 0 0),.v (.slice none 0 0)]) (.cells 0 0 101 1 false [x,y,.vs 1 gs none]) rfl rfl rfl)
 rcases hX with ⟨h0,rfl,A,B,C,rfl⟩ | ⟨i,A,B,C,D,hi,rfl,rfl⟩
 ·have et : Heap.trim ⟨[some (.cells 0 0 38 1 false [x,y]),some (.cells 0 0 38 1 false [.v (.slice none 0 0),.v (.slice none 0 0)]),some (.cells 0 0 101 1 false [x,y,.vs 1 gs none]),A,B,C],0⟩ 3 [.agg [u,.v (.slice none 0 0)]] [] = ⟨[some (.cells 0 0 38 1 false [x,y]),some (.cells 0 0 38 1 false [.v (.slice none 0 0),.v (.slice none 0 0)]),some (.cells 0 0 101 1 false [x,y,.vs 1 gs none])],0⟩ := trim_at _ _ _ _ _ (by rw [boundL_cons,boundL_nil,bound_agg,boundL_cons,boundL_cons,boundL_nil,hu2.bound];decide) rfl rfl (Nat.zero_le _)
  have c46 : _ := c46.trans (congrArg (fun X => some (AV.agg [u,.v (.slice none 0 0)],X)) et)
  rw [show ((0 : Nat) : Int) = 0 from rfl] at c46
  refine ⟨u,.vs 3 [.agg [.v (.int .i64 hk.1),.v (.int .i64 hk.2.1),pv]] none,[.agg [.v (.int .i64 hk.1),.v (.int .i64 hk.2.1),pv]],hu2,Or.inr ⟨none,rfl⟩, ?_, ?_⟩
  ·have hps0 : ps = [] := List.length_eq_zero_iff.1 (by omega)
   have hns0 : ns = [] := List.length_eq_zero_iff.1 h0
   subst hps0 hns0
   exact hunks_snoc (ps := []) rfl (fun j h hh => nomatch hh) hpv
  unfold Ans
  rw [fn_step (fn_16 e) (show Tryz.f16.body = some _ from rfl)]
  simp -implicitDefEqProofs only [Tryz.f16,go_sem,↓reduceIte,Int.reduceEq,Int.reduceLT,Int.reduceLE,List.reduceReplicate,intA,setT_nil,setT_cons,c45,c39,hlg,h12,c46,hx.cells,hx.flat,hx.bound,hy.cells,hy.flat,hy.bound,hz.cells,hz.flat,hz.bound,hu2.cells,hu2.flat,hu2.bound,↓boolP_bool,↓iteB_true,↓iteB_false]
  have e1 : List.flatMap AV.cells [AV.agg [.v (.int .i64 hk.1),.v (.int .i64 hk.2.1),pv]] = [.v (.int .i64 hk.1),.v (.int .i64 hk.2.1),pv] := rfl
  have e2 : [AV.v (.int .i64 hk.1),.v (.int .i64 hk.2.1),pv].all AV.flat = true := by rw [List.all_cons,List.all_cons,List.all_cons,List.all_nil,hpv.flat];rfl
  have e3 : boundL [AV.v (.int .i64 hk.1),.v (.int .i64 hk.2.1),pv] = 0 := by rw [boundL_cons,boundL_cons,boundL_cons,boundL_nil,hpv.bound];rfl
  have e4 : fitsA 40 1 = true := by decide
  refine wp_drawX [([],[],false),([],[],false),([1],[],false),([1],[],false),([],[],false),([1],[],false),([1],[],false),([],[6],false),([],[],false),([],[6,7],false)] (by kernel_rfl) (by kernel_rfl) ?_
  simp -implicitDefEqProofs only [go_sem,↓reduceIte,Int.reduceEq,Int.reduceLT,Int.reduceLE,List.reduceReplicate,intA,setT_nil,setT_cons,c48,c47,List.isEmpty_nil,e1,e2,e3,e4,bound_sl,hpv.cells,hpv.flat,hpv.bound,hx.cells,hx.flat,hx.bound,hy.cells,hy.flat,hy.bound,hz.cells,hz.flat,hz.bound,hu2.cells,hu2.flat,hu2.bound,↓boolP_bool,↓iteB_true,↓iteB_false]
  exact frzSave (qs := [(hk,pv)]) rfl rfl rfl hu2 _
 ·have et : Heap.trim ⟨[some (.cells 0 0 38 1 false [x,y]),some (.cells 0 0 38 1 false [.v (.slice none 0 0),.v (.slice none 0 0)]),some (.cells 0 0 101 1 false [x,y,.vs 1 gs none]),A,B,C,D,none,none,none,none,none,none,none,none,none,none,none,some (.cells i 0 42 3 true (rowQ ps (i + 1))),none,none],0⟩ 3 [.agg [u,.sl 18 i 0 (i + 1) none]] [] = _ := trim_up (by rw [boundL_cons,boundL_nil,bound_agg,boundL_cons,boundL_cons,boundL_nil,hu2.bound];show 3 < 19;decide)
  have c46 : _ := c46.trans (congrArg (fun X => some (AV.agg [u,.sl 18 i 0 (i + 1) none],X)) et)
  rw [show ((0 : Nat) : Int) = 0 from rfl] at c46
  refine ⟨u,.vs 3 ((ps.map fun p => hkV p.1 p.2) ++ [.agg [.v (.int .i64 hk.1),.v (.int .i64 hk.2.1),pv]]) none,(ps.map fun p => hkV p.1 p.2) ++ [.agg [.v (.int .i64 hk.1),.v (.int .i64 hk.2.1),pv]],hu2,Or.inr ⟨none,rfl⟩, ?_, ?_⟩
  ·have h3 := hunks_snoc hp1 hp2 hpv
   rw [List.map_append] at h3
   exact h3
  unfold Ans
  rw [fn_step (fn_16 e) (show Tryz.f16.body = some _ from rfl)]
  simp -implicitDefEqProofs only [Tryz.f16,go_sem,↓reduceIte,Int.reduceEq,Int.reduceLT,Int.reduceLE,List.reduceReplicate,intA,setT_nil,setT_cons,c45,c39,hlg,h12,c46,hx.cells,hx.flat,hx.bound,hy.cells,hy.flat,hy.bound,hz.cells,hz.flat,hz.bound,hu2.cells,hu2.flat,hu2.bound,↓boolP_bool,↓iteB_true,↓iteB_false]
  have e1 : List.flatMap AV.cells [AV.agg [.v (.int .i64 hk.1),.v (.int .i64 hk.2.1),pv]] = [.v (.int .i64 hk.1),.v (.int .i64 hk.2.1),pv] := rfl
  have e2 : [AV.v (.int .i64 hk.1),.v (.int .i64 hk.2.1),pv].all AV.flat = true := by rw [List.all_cons,List.all_cons,List.all_cons,List.all_nil,hpv.flat];rfl
  have e3 : boundL [AV.v (.int .i64 hk.1),.v (.int .i64 hk.2.1),pv] = 0 := by rw [boundL_cons,boundL_cons,boundL_cons,boundL_nil,hpv.bound];rfl
  have e4 : fitsA 40 1 = true := by decide
  have r1 := fun P0 P1 P2 A B C D R slot => app36S P0 P1 P2 A B C D R (ps ++ [(hk,pv)]) i slot hk pv (by rw [List.getElem?_append_right (by omega),show i + 1 - ps.length = 0 by omega];rfl) hpv.bound (by omega)
  have hq : rowQ ps (i + 1) = rowQ (ps ++ [(hk,pv)]) (i + 1) := by unfold rowQ;rw [List.take_append_of_le_length (by omega)]
  refine wp_drawX [([],[],false),([],[],false),([1],[],false),([1],[],false),([],[],false),([1],[],false),([1],[],false),([],[6],false),([],[],false),([],[6,7],false)] (by kernel_rfl) (by kernel_rfl) ?_
  rw [hq]
  simp -implicitDefEqProofs only [go_sem,↓reduceIte,Int.reduceEq,Int.reduceLT,Int.reduceLE,List.reduceReplicate,intA,setT_nil,setT_cons,c48,c47,List.isEmpty_nil,e1,e2,e3,e4,r1,bound_sl,hpv.cells,hpv.flat,hpv.bound,hx.cells,hx.flat,hx.bound,hy.cells,hy.flat,hy.bound,hz.cells,hz.flat,hz.bound,hu2.cells,hu2.flat,hu2.bound,↓boolP_bool,↓iteB_true,↓iteB_false]
  have h4 := fun H hk' hr => frzSave (H := H) hk' (b := 18) (i := i + 1) (n := i + 1 + 1) (qs := ps ++ [(hk,pv)]) hr (by rw [List.length_append];simp;omega) hu2 (.int .i64 0)
  rw [List.map_append] at h4
  refine h4 _ rfl ?_
  unfold Heap.row Heap.get
  simp
  unfold rowQ
  rw [List.take_of_length_le (by rw [List.length_append];simp;omega),List.flatMap_append]
  simp
end Go.Ev
namespace Go.Ev
open Go.Proofs
attribute [local irreducible] Wp WpS
theorem mergeL_ok {o a b : List ByteArray} (h : rowsB o = true ∧ rowsB a = true ∧ rowsB b = true) : mergeL o a b = if a = o ∨ a = b then (b,0) else if b = o then (a,0) else mrgL o (hunkL o a) (hunkL o b) := if_pos h
theorem mergeL_same2 {o a : List ByteArray} (ho : rowsB o = true) (ha : rowsB a = true) : mergeL o a a = (a,0) := by
 rw [mergeL_ok ⟨ho,ha,ha⟩,if_pos (Or.inr rfl)]
theorem mrgA_err (o : List ByteArray) (h k : Hnk) : (mrgA o h k).2 = 0 ∨ (mrgA o h k).2 = 113 ∨ (mrgA o h k).2 = 110 := by
 unfold mrgA
 split
 ·exact Or.inr (Or.inl rfl)
 ·split
  ·exact Or.inr (Or.inr rfl)
  ·exact Or.inl rfl
theorem mergeL_err (o a b : List ByteArray) : (mergeL o a b).2 = 0 ∨ (mergeL o a b).2 = 113 ∨ (mergeL o a b).2 = 110 := by
 unfold mergeL
 split
 ·split
  ·exact Or.inl rfl
  ·split
   ·exact Or.inl rfl
   ·unfold mrgL
    split <;> exact mrgA_err ..
 ·exact Or.inr (Or.inr rfl)
theorem mrgA_len (o : List ByteArray) (h k : Hnk) : (mrgA o h k).1.length ≤ 200 := by
 unfold mrgA
 split
 ·exact Nat.zero_le _
 ·split
  ·exact Nat.zero_le _
  ·exact Nat.le_of_not_lt ‹_›
theorem ans18_len (o a b : List ByteArray) (_lo : o.length ≤ 200) (la : a.length ≤ 200) (lb : b.length ≤ 200) : (mergeL o a b).1.length ≤ 200 := by
 unfold mergeL
 split
 ·split
  ·exact lb
  ·split
   ·exact la
   ·unfold mrgL
    split <;> exact mrgA_len ..
 ·exact Nat.zero_le _
end Go.Ev
namespace Go.Ev
open Go.Proofs
attribute [local irreducible] Wp WpS
end Go.Ev
namespace Go.Ev
open Go.Proofs
attribute [local irreducible] Wp WpS
def intH (h : Hnk) : HnkI := (h.1,h.2.1,h.2.2)
theorem OkS.fits {f : List ByteArray} {ns : List Hnk} (h : OkS f ns) : ∀ k ∈ ns.map intH,FitsH k := by
 intro k hk
 obtain ⟨n,hn,rfl⟩ := List.mem_map.1 hk
 obtain ⟨j,hj⟩ := List.mem_iff_getElem?.1 hn
 have h1 := h.step j n hj
 have h2 := rowsB_len (h.gen j (by have := (List.getElem?_eq_some_iff.1 hj).1;omega))
 have h3 := h1.1
 refine ⟨?_, ?_,rowsB_fits h1.2.1⟩
 ·show Int64 ((n.1 : Nat) : Int);unfold Int64;omega
 ·show Int64 ((n.2.1 : Nat) : Int);unfold Int64;omega
end Go.Ev
namespace Go.Ev
open Go.Proofs
theorem comN_pre : ∀ (p x y : List ByteArray),comN (p ++ x) (p ++ y) = p.length + comN x y
 | [],x,y => by simp
 | a :: p,x,y => by
  rw [List.cons_append,List.cons_append,comN,if_pos rfl,comN_pre p x y,List.length_cons];omega
theorem comN_nil1 (y : List ByteArray) : comN [] y = 0 := by cases y <;> rfl
theorem comN_nil2 (y : List ByteArray) : comN y [] = 0 := by cases y <;> rfl
theorem comN_drop0 : ∀ l m : List ByteArray,comN (l.drop (comN l m)) (m.drop (comN l m)) = 0
 | [],m => by rw [comN_nil1,List.drop_zero,comN_nil1]
 | a :: l,[] => by simp [comN_nil2]
 | a :: l,b :: m => by
  by_cases h : a = b
  ·have h1 : comN (a :: l) (b :: m) = comN l m + 1 := by rw [comN,if_pos h]
   rw [h1,List.drop_succ_cons,List.drop_succ_cons]
   exact comN_drop0 l m
  ·have h1 : comN (a :: l) (b :: m) = 0 := by rw [comN,if_neg h]
   rw [h1,List.drop_zero,List.drop_zero,h1]
theorem comN_zero {x y : List ByteArray} : comN x y = 0 ↔ ∀ a b,x.head? = some a → y.head? = some b → a ≠ b := by
 cases x with
 | nil => rw [comN_nil1];simp
 | cons a l =>
  cases y with
  | nil => rw [comN_nil2];simp
  | cons b m =>
   unfold comN
   by_cases h : a = b
   ·rw [if_pos h];simp [h]
   ·rw [if_neg h];simp [h]
theorem hunk_char (p D P s : List ByteArray) (h1 : comN (D ++ s) (P ++ s) = 0) (h2 : comN D.reverse P.reverse = 0) : hunkL (p ++ (D ++ s)) (p ++ (P ++ s)) = (p.length,D.length,P) := by
 have e1 : comN (p ++ (D ++ s)) (p ++ (P ++ s)) = p.length := by rw [comN_pre,h1];rfl
 have e2 : comN (D ++ s).reverse (P ++ s).reverse = s.length := by rw [List.reverse_append,List.reverse_append,comN_pre,h2,List.length_reverse];rfl
 unfold hunkL
 rw [e1,List.drop_left,List.drop_left,e2]
 simp only [List.length_append,Nat.add_sub_cancel,List.take_left]
theorem hunk_split (A B : List ByteArray) : ∃ p D s,A = p ++ (D ++ s) ∧ B = p ++ ((hunkL A B).2.2 ++ s) ∧ p.length = (hunkL A B).1 ∧ D.length = (hunkL A B).2.1 ∧ comN (D ++ s) ((hunkL A B).2.2 ++ s) = 0 ∧ comN D.reverse (hunkL A B).2.2.reverse = 0 := by
 obtain ⟨c,hc⟩ : ∃ c,comN A B = c := ⟨_,rfl⟩
 have h0 := comN_drop0 A B
 obtain ⟨k1,k2⟩ := comN_le A B
 have ht := comN_take A B
 have hd := comN_drop (A.drop c) (B.drop c)
 have h0r := comN_drop0 (A.drop c).reverse (B.drop c).reverse
 rw [hc] at h0 k1 k2 ht
 obtain ⟨e1,e2⟩ := comN_le (A.drop c).reverse (B.drop c).reverse
 rw [List.length_reverse] at e1 e2
 obtain ⟨E,hE⟩ : ∃ E,comN (A.drop c).reverse (B.drop c).reverse = E := ⟨_,rfl⟩
 rw [hE] at hd h0r e1 e2
 have hH : hunkL A B = (c,(A.drop c).length - E,(B.drop c).take ((B.drop c).length - E)) := by
  unfold hunkL;rw [hc,hE]
 rw [hH]
 refine ⟨A.take c,(A.drop c).take ((A.drop c).length - E),(A.drop c).drop ((A.drop c).length - E), ?_, ?_, ?_, ?_, ?_, ?_⟩
 ·rw [List.take_append_drop,List.take_append_drop]
 ·show B = A.take c ++ ((B.drop c).take ((B.drop c).length - E) ++ (A.drop c).drop ((A.drop c).length - E))
  rw [hd,List.take_append_drop,ht,List.take_append_drop]
 ·show (A.take c).length = c
  rw [List.length_take,Nat.min_eq_left k1]
 ·show ((A.drop c).take ((A.drop c).length - E)).length = _
  rw [List.length_take,Nat.min_eq_left (Nat.sub_le _ _)]
 ·show comN _ ((B.drop c).take ((B.drop c).length - E) ++ (A.drop c).drop ((A.drop c).length - E)) = 0
  rw [List.take_append_drop,hd,List.take_append_drop]
  exact h0
 ·show comN ((A.drop c).take ((A.drop c).length - E)).reverse ((B.drop c).take ((B.drop c).length - E)).reverse = 0
  rw [List.drop_reverse,List.drop_reverse] at h0r
  exact h0r
theorem head_app {r x : List ByteArray} (h : r ≠ []) (y : List ByteArray) (d : List ByteArray) : (d ++ (r ++ x)).head? = (d ++ (r ++ y)).head? := by
 cases d with
 | cons a d => rfl
 | nil =>
  cases r with
  | nil => exact absurd rfl h
  | cons a r => rfl
theorem mrgA_hunks {o a b : List ByteArray} (hlt : (hunkL o a).1 + (hunkL o a).2.1 < (hunkL o b).1) : hunkL a (chL (chL o (hunkL o b)) (hunkL o a)) = ((hunkL o b).1 - (hunkL o a).2.1 + (hunkL o a).2.2.length,(hunkL o b).2) ∧ hunkL b (chL (chL o (hunkL o b)) (hunkL o a)) = hunkL o a ∧ (chL (chL o (hunkL o b)) (hunkL o a)).length = o.length - (hunkL o a).2.1 + (hunkL o a).2.2.length - (hunkL o b).2.1 + (hunkL o b).2.2.length := by
 obtain ⟨p,D,s,a1,a2,a3,a4,a5,a6⟩ := hunk_split o a
 obtain ⟨q,E,t,b1,b2,b3,b4,b5,b6⟩ := hunk_split o b
 generalize hunkL o a = h1 at *
 generalize hunkL o b = h2 at *
 obtain ⟨ha,hd,P⟩ := h1
 obtain ⟨ka,kd,Q⟩ := h2
 simp only at a2 a3 a4 a5 a6 b2 b3 b4 b5 b6 hlt ⊢
 subst a3 a4 b3 b4
 -- q = p ++ (D ++ r),s = r ++ (E ++ t)
 have hq : q = (p ++ D) ++ (q.drop (p ++ D).length) := by
  have h3 : (p ++ D) ++ s = q ++ (E ++ t) := by rw [List.append_assoc,← a1,b1]
  have h4 := congrArg (List.take (p ++ D).length) h3
  rw [List.take_left,List.take_append_of_le_length (by rw [List.length_append];omega)] at h4
  exact (List.take_append_drop (p ++ D).length q).symm.trans (congrArg (· ++ _) h4.symm)
 obtain ⟨r,hr⟩ : ∃ r,q.drop (p ++ D).length = r := ⟨_,rfl⟩
 rw [hr] at hq
 have hrl : r.length = q.length - (p.length + D.length) := by rw [← hr,List.length_drop,List.length_append]
 have hr0 : r ≠ [] := fun h => by rw [h] at hrl;simp at hrl;omega
 subst hq
 have hs : s = r ++ (E ++ t) := by
  have h3 : (p ++ D) ++ s = (p ++ D) ++ (r ++ (E ++ t)) := by rw [List.append_assoc,← a1,b1];simp only [List.append_assoc]
  exact List.append_cancel_left h3
 subst hs
 clear hr hrl
 have hB : chL o (((p ++ D) ++ r).length,E.length,Q) = ((p ++ D) ++ r) ++ (Q ++ t) := by
  unfold chL
  simp only
  rw [b1,List.take_left,← List.append_assoc _ E t,List.drop_left' (by simp;omega)]
 have hL : chL (((p ++ D) ++ r) ++ (Q ++ t)) (p.length,D.length,P) = p ++ (P ++ (r ++ (Q ++ t))) := by
  unfold chL
  simp only
  have e : ((p ++ D) ++ r) ++ (Q ++ t) = (p ++ D) ++ (r ++ (Q ++ t)) := by simp only [List.append_assoc]
  rw [e,List.drop_left' (by simp),List.append_assoc p D,List.take_left]
 rw [hB,hL]
 refine ⟨?_, ?_, ?_⟩
 ·have e1 : a = (p ++ (P ++ r)) ++ (E ++ t) := by rw [a2];simp only [List.append_assoc]
  have e2 : p ++ (P ++ (r ++ (Q ++ t))) = (p ++ (P ++ r)) ++ (Q ++ t) := by simp only [List.append_assoc]
  rw [e1,e2,hunk_char _ _ _ _ b5 b6]
  have : (p ++ (P ++ r)).length = ((p ++ D) ++ r).length - D.length + P.length := by simp only [List.length_append];omega
  rw [this]
 ·have e1 : b = p ++ (D ++ (r ++ (Q ++ t))) := by rw [b2];simp only [List.append_assoc]
  rw [e1,hunk_char _ _ _ _ _ a6]
  rw [comN_zero] at a5 ⊢
  intro x y hx hy
  rw [head_app hr0 (E ++ t)] at hx hy
  exact a5 x y hx hy
 ·rw [a1];simp only [List.length_append];omega
theorem hunk_self (A : List ByteArray) : hunkL A A = (A.length,0,[]) := by
 have h := hunk_char A [] [] [] rfl rfl
 simpa using h
end Go.Ev
namespace Go.Ev
open Go.Proofs
attribute [local irreducible] Wp WpS
theorem okS_nil {f : List ByteArray} (h : rowsB f = true) : OkS f [] := ⟨Nat.zero_le _,h,fun _ _ hn => nomatch hn⟩
theorem frzAt (l : List (Option AObj)) (b : List ByteArray) (h0 : 0 < b.length) : freezeV ⟨l ++ [some (rowO b)],l.length⟩ 1000000 (.sl l.length 0 0 b.length none) = some (.vs 1 (strs b) none) := by
 have hr : (⟨l ++ [some (rowO b)],l.length⟩ : Heap).row l.length 0 = some (0,9,1,true,strs b) := by
  unfold Heap.row Heap.get rowO;simp
 show freezeV _ (999999 + 1) _ = _
 unfold freezeV
 simp only [hr]
 rw [if_neg (Nat.lt_irrefl _),if_pos ⟨by rw [strs_len];omega,by omega⟩,if_pos trivial,List.drop_zero,Nat.mul_one,List.take_of_length_le (by rw [strs_len];exact Nat.le_refl _),← strs_len b,chunk1]
theorem frzHk {h : Hnk} {v : AV} (hv : HunkA h v) (H : Heap) (z : Value) : freezeV H 1000000 (.tup [v,.v z]) = some (.tup [v,.v z]) := by
 obtain ⟨p,rfl,hp⟩ := hv
 have h1 := hp.frzK H 999993
 have h4 : freezeL H 999997 [.v (.int .i64 h.1),.v (.int .i64 h.2.1),p] = some [.v (.int .i64 h.1),.v (.int .i64 h.2.1),p] := by
  have h2 : freezeV H 999996 (.v (.int .i64 h.1)) = some (.v (.int .i64 h.1)) := rfl
  have h3 : freezeV H 999995 (.v (.int .i64 h.2.1)) = some (.v (.int .i64 h.2.1)) := rfl
  simp only [freezeL,h1,h2,h3]
 have h5 : freezeV H 999998 (.agg [.v (.int .i64 h.1),.v (.int .i64 h.2.1),p]) = some (.agg [.v (.int .i64 h.1),.v (.int .i64 h.2.1),p]) := by
  show (freezeL H 999997 _).map AV.agg = _
  rw [h4];rfl
 show (freezeL H 999999 _).map AV.tup = _
 simp only [freezeL,h5]
 rfl
theorem one_hunk {h : Hnk} {ys : List AV} (hys : All2 HunkA [h] ys) : ∃ p,ys = [.agg [.v (.int .i64 h.1),.v (.int .i64 h.2.1),p]] ∧ SlOf 1 (strs h.2.2) p := by
 obtain ⟨h1,h2⟩ := hys
 match ys,h1 with
 | [y],_ =>
  obtain ⟨p,rfl,hp⟩ := h2 0 h y rfl rfl
  exact ⟨p,rfl,hp⟩
theorem ans20 {e : Exts} (he : Quiet e) (a b : List ByteArray) (ha : rowsB a = true) (hb : rowsB b = true) (x y : AV) (hx : SlOf 1 (strs a) x) (hy : SlOf 1 (strs b) y) : ∃ hv,HunkA (hunkL a b) hv ∧ Ans (Cx e) 20 [x,y] (.tup [hv,.v (.bool true)]) := by
 obtain ⟨x',hx'⟩ : ∃ x',x' = if a = [] then AV.vs 1 [] (some 0) else .vs 1 (strs a) none := ⟨_,rfl⟩
 have hx2 : SlOf 1 (strs a) x' := by
  rw [hx']
  split
  ·rename_i h;rw [h];exact Or.inr ⟨_,rfl⟩
  ·exact Or.inr ⟨_,rfl⟩
 obtain ⟨u,y',ys',hu,hy',hys',h16⟩ := ans16 he a [] (okS_nil ha) (by decide) x' (.v (.slice none 0 0)) [] hx2 (Or.inl ⟨rfl,rfl⟩) ⟨rfl,fun _ _ _ h => nomatch h⟩ b hb y hy
 obtain ⟨p,rfl,hp⟩ := one_hunk (h := hunkL a b) hys'
 generalize hunkL a b = hk at *
 have c16 := fun me d H => h16.call (me := me) (d := d) (ext_16 he) (pure_16 _ _ _) (by rw [boundL_cons,boundL_cons,boundL_nil,bound2 hx2 (show SlOf 3 [] (.v (.slice none 0 0)) from Or.inl ⟨rfl,rfl⟩),hy.bound];rfl) H
 have hly : slLen y' = some (.v (.int .i64 1)) := hy'.len
 have hix : ∀ kk,slIdx 3 y' (.v (.int kk 0)) = some (.ro (.agg [.v (.int .i64 hk.1),.v (.int .i64 hk.2.1),p]) 0) := fun kk => hy'.idx (j := 0) rfl kk
 refine ⟨_,⟨p,rfl,hp⟩, ?_⟩
 unfold Ans
 rw [fn_step (fn_20 e) (show Tryz.f20.body = some _ from rfl)]
 by_cases h0 : a = []
 ·rw [if_pos h0] at hx'
  subst hx' h0
  have hx3 : ∀ H,cellsFrom H 1 x = some (0,[]) := by
   intro H
   rcases hx with ⟨rfl, -⟩ | ⟨cap,rfl⟩ <;> rfl
  simp -implicitDefEqProofs only [Tryz.f20,go_sem,↓reduceIte,Int.reduceEq,Int.reduceLT,Int.reduceLE,List.reduceReplicate,intA,setT_nil,setT_cons,hx3,appE0,List.all_nil,c16,hly,hix,hp.cells,hp.flat,hp.bound,hu.cells,hu.flat,hu.bound,hy.cells,hy.flat,hy.bound,hy'.cells,hy'.flat,hy'.bound,↓boolP_bool,↓iteB_true,↓iteB_false]
  exact frzHk ⟨p,rfl,hp⟩ _ _
 ·rw [if_neg h0] at hx'
  subst hx'
  obtain ⟨cap,rfl⟩ : ∃ cap,x = .vs 1 (strs a) cap := by
   rcases hx with ⟨-,h⟩ | h
   ·exact absurd (by cases a with | nil => rfl | cons z l => exact nomatch h) h0
   ·exact h
  have hl0 : 0 < a.length := List.length_pos_iff.2 h0
  have hal := rowsB_len ha
  have hf : fitsA 16 a.length = true := by unfold fitsA;exact decide_eq_true (by omega)
  have a1 := fun H slot => appE1 H slot a hl0 hf
  have a2 := fun o => frzAt [o] a hl0
  simp only [List.cons_append,List.nil_append,List.length_cons,List.length_nil,Nat.zero_add] at a2
  simp -implicitDefEqProofs only [Tryz.f20,go_sem,↓reduceIte,Int.reduceEq,Int.reduceLT,Int.reduceLE,List.reduceReplicate,intA,setT_nil,setT_cons,strs_cells,strs_flat,strs_len,a1,a2,c16,hly,hix,hp.cells,hp.flat,hp.bound,hu.cells,hu.flat,hu.bound,hy.cells,hy.flat,hy.bound,hy'.cells,hy'.flat,hy'.bound,↓boolP_bool,↓iteB_true,↓iteB_false]
  exact frzHk ⟨p,rfl,hp⟩ _ _
end Go.Ev
namespace Go.Ev
open Go.Proofs
attribute [local irreducible] Wp WpS
theorem hunk_len (A B : List ByteArray) : B.length + (hunkL A B).2.1 = A.length + (hunkL A B).2.2.length ∧ (hunkL A B).2.1 ≤ A.length ∧ (hunkL A B).2.2.length ≤ B.length := by
 obtain ⟨p,D,s,h1,h2,h3,h4, -⟩ := hunk_split A B
 have e1 := congrArg List.length h1
 have e2 := congrArg List.length h2
 simp only [List.length_append] at e1 e2
 omega
theorem rows_chL {l : List ByteArray} {h : Hnk} (hl : ∀ r ∈ l,rowB r = true) (hp : ∀ r ∈ h.2.2,rowB r = true) : ∀ r ∈ chL l h,rowB r = true := by
 intro r hr
 unfold chL at hr
 rcases List.mem_append.1 hr with hr | hr
 ·exact hl r (List.mem_of_mem_take hr)
 ·rcases List.mem_append.1 hr with hr | hr
  ·exact hp r hr
  ·exact hl r (List.mem_of_mem_drop hr)
theorem rows_put {o a : List ByteArray} (ha : rowsB a = true) : ∀ r ∈ (hunkL o a).2.2,rowB r = true := by
 intro r hr
 refine rowsB_mem ha r ?_
 unfold hunkL at hr
 exact List.mem_of_mem_drop (List.mem_of_mem_take hr)
structure MergedOk (o a b l : List ByteArray) : Prop where
 rows : rowsB l = true
 left : (hunkL a l).2 = (hunkL o b).2
 right : (hunkL b l).2 = (hunkL o a).2
 len : l.length + (hunkL o a).2.1 + (hunkL o b).2.1 = o.length + (hunkL o a).2.2.length + (hunkL o b).2.2.length
theorem mrgA_ok {o a b : List ByteArray} (ho : rowsB o = true) (ha : rowsB a = true) (hb : rowsB b = true) (h0 : (mrgA o (hunkL o a) (hunkL o b)).2 = 0) : MergedOk o a b (mrgA o (hunkL o a) (hunkL o b)).1 := by
 unfold mrgA at h0 ⊢
 by_cases h1 : (hunkL o b).1 ≤ (hunkL o a).1 + (hunkL o a).2.1
 ·rw [if_pos h1] at h0;exact nomatch h0
 rw [if_neg h1] at h0 ⊢
 by_cases h2 : 200 < (chL (chL o (hunkL o b)) (hunkL o a)).length
 ·rw [if_pos h2] at h0;exact nomatch h0
 rw [if_neg h2]
 obtain ⟨k1,k2,k3⟩ := mrgA_hunks (o := o) (a := a) (b := b) (by omega)
 have l1 := hunk_len o a
 have l2 := hunk_len o b
 refine ⟨rowsB_mk (by show (chL (chL o (hunkL o b)) (hunkL o a)).length ≤ 200;omega) (rows_chL (rows_chL (rowsB_mem ho) (rows_put hb)) (rows_put ha)),by rw [k1],by rw [k2], ?_⟩
 show (chL (chL o (hunkL o b)) (hunkL o a)).length + _ + _ = _
 have hb2 : (hunkL o b).1 + (hunkL o b).2.1 ≤ o.length := (hunkL_ok o b (rowsB_len hb)).1
 rw [k3]
 omega
theorem MergedOk.swap {o a b l : List ByteArray} (h : MergedOk o a b l) : MergedOk o b a l := ⟨h.rows,h.right,h.left,by have := h.len;omega⟩
theorem merged_ok {o a b : List ByteArray} (ho : rowsB o = true) (ha : rowsB a = true) (hb : rowsB b = true) (hab : a ≠ b) (h0 : (mergeL o a b).2 = 0) : MergedOk o a b (mergeL o a b).1 := by
 rw [mergeL_ok ⟨ho,ha,hb⟩] at h0 ⊢
 by_cases h1 : a = o
 ·rw [if_pos (Or.inl h1)]
  subst h1
  have l2 := hunk_len a b
  refine ⟨hb,rfl,by rw [hunk_self,hunk_self], ?_⟩
  rw [hunk_self a]
  show b.length + 0 + _ = a.length + 0 + _
  omega
 rw [if_neg (fun h => h.elim h1 hab)] at h0 ⊢
 by_cases h2 : b = o
 ·rw [if_pos h2]
  subst h2
  have l2 := hunk_len b a
  refine ⟨ha,by rw [hunk_self,hunk_self],rfl, ?_⟩
  rw [hunk_self b]
  show a.length + _ + 0 = b.length + _ + 0
  omega
 rw [if_neg h2] at h0 ⊢
 unfold mrgL at h0 ⊢
 by_cases h3 : (hunkL o b).1 < (hunkL o a).1
 ·rw [if_pos h3] at h0 ⊢
  exact (mrgA_ok ho hb ha h0).swap
 ·rw [if_neg h3] at h0 ⊢
  exact mrgA_ok ho ha hb h0
theorem ans8 (o : List ByteArray) (ho : FitsR o) (x : AV) (hx : SlOf 1 (strs o) x) (a : List ByteArray) (ha : FitsR a) (y : AV) (hy : SlOf 1 (strs a) y) (b : List ByteArray) (hb : FitsR b) (z : AV) (hz : SlOf 1 (strs b) z) : Ans (Cx eA) 8 [x,y,z] (.v (.bool true)) := by
 have he := quietA
 have c12o := fun me d H => call12 he o ho x hx me d H
 have c12a := fun me d H => call12 he a ha y hy me d H
 have c12b := fun me d H => call12 he b hb z hz me d H
 unfold Ans
 rw [fn_step (fn_8 eA) (show Tryz.f8.body = some _ from rfl)]
 cases hro : rowsB o with
 | false =>
  rw [hro] at c12o
  simp -implicitDefEqProofs only [Tryz.f8,go_sem,↓reduceIte,Int.reduceEq,Int.reduceLT,Int.reduceLE,List.reduceReplicate,intA,setT_nil,setT_cons,call11,c12o,hx.cells,hx.flat,hx.bound,hy.cells,hy.flat,hy.bound,hz.cells,hz.flat,hz.bound,Bool.not_false,Bool.not_true,↓boolP_bool,↓iteB_true,↓iteB_false]
 | true =>
 rw [hro] at c12o
 cases hra : rowsB a with
 | false =>
  rw [hra] at c12a
  simp -implicitDefEqProofs only [Tryz.f8,go_sem,↓reduceIte,Int.reduceEq,Int.reduceLT,Int.reduceLE,List.reduceReplicate,intA,setT_nil,setT_cons,call11,c12o,c12a,hx.cells,hx.flat,hx.bound,hy.cells,hy.flat,hy.bound,hz.cells,hz.flat,hz.bound,Bool.not_false,Bool.not_true,↓boolP_bool,↓iteB_true,↓iteB_false]
 | true =>
 rw [hra] at c12a
 cases hrb : rowsB b with
 | false =>
  rw [hrb] at c12b
  simp -implicitDefEqProofs only [Tryz.f8,go_sem,↓reduceIte,Int.reduceEq,Int.reduceLT,Int.reduceLE,List.reduceReplicate,intA,setT_nil,setT_cons,call11,c12o,c12a,c12b,hx.cells,hx.flat,hx.bound,hy.cells,hy.flat,hy.bound,hz.cells,hz.flat,hz.bound,Bool.not_false,Bool.not_true,↓boolP_bool,↓iteB_true,↓iteB_false]
 | true =>
 rw [hrb] at c12b
 obtain ⟨v,hv,ha18⟩ := ans18 he o a b ho ha hb x y z hx hy hz
 have c18 := fun me d H => ha18.call (me := me) (d := d) (ext_18 he) (pure_18 _ _ _) (by rw [boundL_cons,boundL_cons,boundL_cons,boundL_nil,hx.bound,hy.bound,hz.bound];rfl) H
 have c15ab := fun me d H => call15 he a b ha.1 y z hy hz me d H
 have hll := ans18_len o a b (rowsB_len hro) (rowsB_len hra) (rowsB_len hrb)
 rcases mergeL_err o a b with h0 | h0 | h0
 ·rw [h0] at c18
  by_cases hab : a = b
  ·rw [decide_eq_true hab] at c15ab
   have hrl : rowsB (mergeL o a b).1 = true := by rw [← hab,mergeL_same2 hro hra];exact hra
   have c12l := fun me d H => call12 he _ (rowsB_fits hrl) v hv me d H
   rw [hrl] at c12l
   have i0 : ((0 : Nat) : Int) = 0 := rfl
   rw [i0] at c18
   simp -implicitDefEqProofs only [Tryz.f8,go_sem,↓reduceIte,Int.reduceEq,Int.reduceLT,Int.reduceLE,List.reduceReplicate,intA,setT_nil,setT_cons,call11,c12o,c12a,c12b,c18,c15ab,c12l,hx.cells,hx.flat,hx.bound,hy.cells,hy.flat,hy.bound,hz.cells,hz.flat,hz.bound,hv.cells,hv.flat,hv.bound,Bool.not_false,Bool.not_true,decide_true,decide_false,↓boolP_bool,↓iteB_true,↓iteB_false]
  ·rw [decide_eq_false hab] at c15ab
   obtain ⟨m1,m2,m3,m4⟩ := merged_ok hro hra hrb hab h0
   generalize (mergeL o a b).1 = l at *
   have c12l := fun me d H => call12 he _ (rowsB_fits m1) v hv me d H
   rw [m1] at c12l
   obtain ⟨_,⟨p1,rfl,hp1⟩,h1⟩ := ans20 he o a hro hra x y hx hy
   obtain ⟨_,⟨p2,rfl,hp2⟩,h2⟩ := ans20 he o b hro hrb x z hx hz
   obtain ⟨_,⟨p3,rfl,hp3⟩,h3⟩ := ans20 he a l hra m1 y v hy hv
   obtain ⟨_,⟨p4,rfl,hp4⟩,h4⟩ := ans20 he b l hrb m1 z v hz hv
   rw [m2] at hp3 h3
   rw [m3] at hp4 h4
   generalize (hunkL a l).1 = n3 at *
   generalize (hunkL b l).1 = n4 at *
   have q1 := hunk_len o a
   have q2 := hunk_len o b
   obtain ⟨⟨n1,d1,P1⟩,hh1⟩ : ∃ h,hunkL o a = h := ⟨_,rfl⟩
   obtain ⟨⟨n2,d2,P2⟩,hh2⟩ : ∃ h,hunkL o b = h := ⟨_,rfl⟩
   rw [hh1] at hp1 hp4 h1 h4 q1 m4
   rw [hh2] at hp2 hp3 h2 h3 q2 m4
   simp only at hp1 hp2 hp3 hp4 h1 h2 h3 h4 q1 q2 m4
   have c1 := fun me d H => h1.call (me := me) (d := d) (ext_20 he) (pure_20 _ _ _) (by rw [boundL_cons,boundL_cons,boundL_nil,hx.bound,hy.bound];rfl) H
   have c2 := fun me d H => h2.call (me := me) (d := d) (ext_20 he) (pure_20 _ _ _) (by rw [boundL_cons,boundL_cons,boundL_nil,hx.bound,hz.bound];rfl) H
   have c3 := fun me d H => h3.call (me := me) (d := d) (ext_20 he) (pure_20 _ _ _) (by rw [boundL_cons,boundL_cons,boundL_nil,hy.bound,hv.bound];rfl) H
   have c4 := fun me d H => h4.call (me := me) (d := d) (ext_20 he) (pure_20 _ _ _) (by rw [boundL_cons,boundL_cons,boundL_nil,hz.bound,hv.bound];rfl) H
   have lo := rowsB_len hro
   have la := rowsB_len hra
   have lb := rowsB_len hrb
   have s1 := fun me d H => call15 he P2 P2 (by omega) p3 p2 hp3 hp2 me d H
   have s2 := fun me d H => call15 he P1 P1 (by omega) p4 p1 hp4 hp1 me d H
   rw [decide_eq_true (rfl : P2 = P2)] at s1
   rw [decide_eq_true (rfl : P1 = P1)] at s2
   have hlo := hx.len
   have hlv := hv.len
   have hl1 := hp1.len
   have hl2 := hp2.len
   rw [strs_len] at hlo hlv hl1 hl2
   have w1 : IntKind.i64.wrap ((o.length : Int) - (d1 : Int)) = (o.length : Int) - (d1 : Int) := wrap_in _ (by omega) (by omega)
   have w2 : IntKind.i64.wrap ((o.length : Int) - (d1 : Int) + (P1.length : Int)) = (o.length : Int) - (d1 : Int) + (P1.length : Int) := wrap_in _ (by omega) (by omega)
   have w3 : IntKind.i64.wrap ((o.length : Int) - (d1 : Int) + (P1.length : Int) - (d2 : Int)) = (o.length : Int) - (d1 : Int) + (P1.length : Int) - (d2 : Int) := wrap_in _ (by omega) (by omega)
   have w4 : IntKind.i64.wrap ((o.length : Int) - (d1 : Int) + (P1.length : Int) - (d2 : Int) + (P2.length : Int)) = (l.length : Int) := by rw [wrap_in _ (by omega) (by omega)];omega
   have i0 : ((0 : Nat) : Int) = 0 := rfl
   rw [i0] at c18
   simp -implicitDefEqProofs only [Tryz.f8,go_sem,↓reduceIte,Int.reduceEq,Int.reduceLT,Int.reduceLE,List.reduceReplicate,intA,setT_nil,setT_cons,call11,c12o,c12a,c12b,c18,c15ab,c12l,c1,c2,c3,c4,s1,s2,hlo,hlv,hl1,hl2,w1,w2,w3,w4,hp1.cells,hp1.flat,hp1.bound,hp2.cells,hp2.flat,hp2.bound,hp3.cells,hp3.flat,hp3.bound,hp4.cells,hp4.flat,hp4.bound,hx.cells,hx.flat,hx.bound,hy.cells,hy.flat,hy.bound,hz.cells,hz.flat,hz.bound,hv.cells,hv.flat,hv.bound,Bool.not_false,Bool.not_true,decide_true,decide_false,↓boolP_bool,↓iteB_true,↓iteB_false]
 ·rw [h0] at c18
  have i0 : ((113 : Nat) : Int) = 113 := rfl
  rw [i0] at c18
  simp -implicitDefEqProofs only [Tryz.f8,go_sem,↓reduceIte,Int.reduceEq,Int.reduceLT,Int.reduceLE,List.reduceReplicate,intA,setT_nil,setT_cons,call11,c12o,c12a,c12b,c18,hx.cells,hx.flat,hx.bound,hy.cells,hy.flat,hy.bound,hz.cells,hz.flat,hz.bound,hv.cells,hv.flat,hv.bound,Bool.not_false,Bool.not_true,decide_true,decide_false,↓boolP_bool,↓iteB_true,↓iteB_false]
 ·rw [h0] at c18
  have i0 : ((110 : Nat) : Int) = 110 := rfl
  rw [i0] at c18
  simp -implicitDefEqProofs only [Tryz.f8,go_sem,↓reduceIte,Int.reduceEq,Int.reduceLT,Int.reduceLE,List.reduceReplicate,intA,setT_nil,setT_cons,call11,c12o,c12a,c12b,c18,hx.cells,hx.flat,hx.bound,hy.cells,hy.flat,hy.bound,hz.cells,hz.flat,hz.bound,hv.cells,hv.flat,hv.bound,Bool.not_false,Bool.not_true,decide_true,decide_false,↓boolP_bool,↓iteB_true,↓iteB_false]
end Go.Ev
