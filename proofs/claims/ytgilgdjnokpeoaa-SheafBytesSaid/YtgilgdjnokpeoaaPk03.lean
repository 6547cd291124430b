/- What the proof of this claim stands on, part 4: an evaluator of the model, proved right, and what it answers for functions of the program. -/
import Derived.Test.YtgilgdjnokpeoaaPk02
import Derived.ChangeReads
import Derived.ChangeOld
import Derived.ChangeArms
import Derived.RowKit3
import Derived.WalkKit
import Derived.ProofKit
import Derived.OpenShut
set_option maxHeartbeats 8000000
set_option maxRecDepth 1000000
set_option linter.unusedSimpArgs false
namespace Go.Ev
def tiled (P : Program) : Nat → List Field → Nat → Bool
 | k,[],e => k == e
 | k,f :: r,e => f.offset == k && tiled P (k + P.cellsOf f.type) r e
def plainT (P : Program) : Nat → TypeId → Bool
 | 0,_ => false
 | n + 1,t =>
  match P.underlying t with
  | some .bool => true
  | some (.int _) => true
  | some .string => true
  | some (.slice e) => decide (0 < P.cellsOf e) && plainT P n e
  | some (.struct fs) => tiled P 0 fs.toList (P.cellsOf t) && fs.toList.all fun f => plainT P n f.type
  | _ => false
def elemOf (cs : List AV) : AV := match cs with | [c] => c | cs => .agg cs
def Plain (P : Program) : Nat → TypeId → List AV → Prop
 | 0,_,_ => False
 | n + 1,t,cs =>
  match P.underlying t with
  | some .bool => ∃ b,cs = [.v (.bool b)]
  | some (.int k) => ∃ m,cs = [.v (.int k m)] ∧ (Lit.int k m).wf = true
  | some .string => ∃ s,cs = [.v (.string s)] ∧ s.size ≤ maxLen
  | some (.slice e) => ∃ x xs,cs = [x] ∧ SlOf (P.cellsOf e) xs x ∧ xs.length ≤ maxLen ∧ ∀ y ∈ xs,∃ c,y = elemOf c ∧ c.length = P.cellsOf e ∧ Plain P n e c
  | some (.struct fs) => cs.length = P.cellsOf t ∧ ∀ f ∈ fs.toList,Plain P n f.type ((cs.drop f.offset).take (P.cellsOf f.type))
  | _ => False
theorem elem_cells {cs : List AV} (h : ∀ c ∈ cs,c.flat = true) : (elemOf cs).cells = cs := by
 unfold elemOf
 split
 ·rename_i c
  have := h c (by simp)
  cases c <;> simp_all [AV.cells,AV.flat]
 ·rfl
theorem exists_list {α : Type} {Q : Nat → α → Prop} : ∀ (n : Nat),(∀ i,i < n → ∃ y,Q i y) → ∃ l : List α,l.length = n ∧ ∀ i y,l[i]? = some y → Q i y
 | 0,_ => ⟨[],rfl,fun i y h => by simp at h⟩
 | n + 1,h => by
  obtain ⟨l,hl,hq⟩ := exists_list n fun i hi => h i (by omega)
  obtain ⟨y,hy⟩ := h n (by omega)
  refine ⟨l ++ [y],by simp [hl],fun i z hz => ?_⟩
  by_cases hi : i < l.length
  ·rw [List.getElem?_append_left hi] at hz;exact hq i z hz
  ·have hlt := (List.getElem?_eq_some_iff.1 hz).1
   simp at hlt
   have : i = l.length := by omega
   subst this
   simp at hz;subst hz;rw [hl];exact hy
theorem tile_rep {Z : Fzn} {ρ : Pls} {P : Program} {Q : Field → List AV → Prop} : ∀ (fs : List Field) (k e : Nat) (cs : List Value),tiled P k fs e = true → cs.length = e →
  (∀ f ∈ fs,∃ a,RepL Z ρ a ((cs.drop f.offset).take (P.cellsOf f.type)) ∧ Q f a ∧ ∀ c ∈ a,c.flat = true) →
  k ≤ e → ∃ A,RepL Z ρ A (cs.drop k) ∧ (∀ c ∈ A,c.flat = true) ∧ ∀ f ∈ fs,k ≤ f.offset ∧ f.offset + P.cellsOf f.type ≤ e ∧ Q f ((A.drop (f.offset - k)).take (P.cellsOf f.type))
 | [],k,e,cs,ht,hl,_,_ => by
  have : k = e := by simpa [tiled] using ht
  subst this
  refine ⟨[], ?_,by simp,by simp⟩
  rw [List.drop_of_length_le (by omega)];exact RepL.nil
 | f :: r,k,e,cs,ht,hl,hf,hk => by
  simp only [tiled,Bool.and_eq_true,beq_iff_eq] at ht
  obtain ⟨ho,ht⟩ := ht
  have hle : ∀ (fs : List Field) (k : Nat),tiled P k fs e = true → k ≤ e := by
   intro fs
   induction fs with
   | nil => intro k h;have : k = e := by simpa [tiled] using h
            omega
   | cons g s ih => intro k h;simp only [tiled,Bool.and_eq_true] at h;have := ih _ h.2;omega
  have hle' := hle _ _ ht
  obtain ⟨A,hA,hAf,hAq⟩ := tile_rep r (k + P.cellsOf f.type) e cs ht hl (fun g hg => hf g (List.mem_cons_of_mem _ hg)) hle'
  obtain ⟨a,ha,hq,haf⟩ := hf f List.mem_cons_self
  have hal : a.length = P.cellsOf f.type := by rw [ha.1];simp;omega
  refine ⟨a ++ A, ?_, ?_, ?_⟩
  ·have : cs.drop k = (cs.drop f.offset).take (P.cellsOf f.type) ++ cs.drop (k + P.cellsOf f.type) := by
    rw [ho,← List.drop_drop];exact (List.take_append_drop _ _).symm
   rw [this];exact ha.append hA
  ·intro c hc
   rcases List.mem_append.1 hc with h | h
   ·exact haf c h
   ·exact hAf c h
  ·intro g hg
   rcases List.mem_cons.1 hg with rfl | hg
   ·refine ⟨by omega,by omega, ?_⟩
    rw [ho,Nat.sub_self,List.drop_zero,List.take_append_of_le_length (by omega),List.take_of_length_le (by omega)]
    exact hq
   ·obtain ⟨h1,h2,h3⟩ := hAq g hg
    refine ⟨by omega,h2, ?_⟩
    have : (a ++ A).drop (g.offset - k) = A.drop (g.offset - (k + P.cellsOf f.type)) := by
     rw [List.drop_append,List.drop_of_length_le (by omega),List.nil_append,hal];congr 1;omega
    rw [this];exact h3
section
variable {HH : Type} {enc : TypeId × Value → HH} {P : Program} {w : World}
theorem cells_at {a : Addr} {n : Nat} {cs : List Value} (h : w.cells? 0 a n = some cs) (hn : 0 < n) : a.spot = none ∧ ∃ arr e fr,w.heap[a.block]? = some (.cells arr e fr) ∧ cs.length = n ∧ ∀ j,j < n → arr[a.off + j]? = cs[j]? := by
 obtain ⟨_,hl,hc⟩ := World.cells?_some h
 have h0 := hc 0 hn
 obtain ⟨c0,hc0⟩ : ∃ c0,cs[0]? = some c0 := ⟨cs[0]'(by omega),List.getElem?_eq_getElem _⟩
 have hsp : a.spot = none := by
  have := World.cell?_spot (h0.trans hc0)
  simpa [Addr.add] using this
 have hcell := h0.trans hc0
 have hb : ∀ j,(a.add j).block = a.block := by intro j;unfold Addr.add;split <;> rfl
 have hs : ∀ j,(a.add j).spot = none := by
  intro j;unfold Addr.add;split
  ·exact hsp
  ·rfl
 have ho : ∀ j,(a.add j).off = a.off + j := by
  intro j;unfold Addr.add;split
  ·rename_i hj;subst hj;rfl
  ·rfl
 refine ⟨hsp, ?_⟩
 unfold World.cell? at hcell
 rw [hb] at hcell
 split at hcell
 ·rename_i arr e fr hh
  refine ⟨arr,e,fr,hh,hl,fun j hj => ?_⟩
  have := hc j hj
  unfold World.cell? at this
  rw [hb,hh] at this
  simp only [hs,ho,Option.isSome_none,Bool.false_eq_true,if_false] at this
  exact this
 ·cases hcell
theorem plain_rep : ∀ (N t fuel : Nat) (cs : List Value) (x : DataW HH × List MemPlace),plainT P N t = true → DataW.trod enc P w 0 (fun _ => true) true fuel t cs = some x →
  ∃ A,RepL (allZ w) noPls A cs ∧ Plain P N t A ∧ ∀ c ∈ A,c.flat = true
 | 0,_,_,_,_,hp,_ => by simp [plainT] at hp
 | N + 1,t,fuel,cs,x,hp,h => by
  unfold plainT at hp
  cases hu : P.underlying t with
  | none => rw [hu] at hp;simp at hp
  | some u =>
   rw [hu] at hp
   cases u <;> simp only [Bool.false_eq_true] at hp
   case bool =>
    obtain ⟨b,rfl, -⟩ := DataW.trod_bool hu h
    exact ⟨[.v (.bool b)],RepL.cons (.v rfl) RepL.nil,by unfold Plain;rw [hu];exact ⟨b,rfl⟩,by simp [AV.flat]⟩
   case int k =>
    obtain ⟨n,rfl, -,hw⟩ := DataW.trod_int hu h
    exact ⟨[.v (.int k n)],RepL.cons (.v rfl) RepL.nil,by unfold Plain;rw [hu];exact ⟨n,rfl,hw⟩,by simp [AV.flat]⟩
   case string =>
    obtain ⟨n,rfl, -,hw⟩ := DataW.trod_string hu h
    exact ⟨[.v (.string n)],RepL.cons (.v rfl) RepL.nil,by unfold Plain;rw [hu];exact ⟨n,rfl,hw⟩,by simp [AV.flat]⟩
   case struct fs =>
    rw [Bool.and_eq_true,List.all_eq_true] at hp
    obtain ⟨xs,n, -, -,hl,hlen,hf⟩ := DataW.trod_struct hu h
    have hall : ∀ f ∈ fs.toList,∃ a,RepL (allZ w) noPls a ((cs.drop f.offset).take (P.cellsOf f.type)) ∧ Plain P N f.type a ∧ ∀ c ∈ a,c.flat = true := by
     intro f hfm
     obtain ⟨i,hi⟩ := List.getElem?_of_mem hfm
     have hi' : fs[i]? = some f := by simpa using hi
     have hxi := hf i f hi'
     have hlt : i < xs.length := by
      rw [hlen]
      have := (List.getElem?_eq_some_iff.1 hi).1
      simpa using this
     rw [List.getElem?_eq_getElem hlt] at hxi
     exact plain_rep N f.type n _ _ (hp.2 f hfm) hxi
    obtain ⟨A,hA,hAf,hAq⟩ := tile_rep fs.toList 0 (P.cellsOf t) cs hp.1 hl hall (Nat.zero_le _)
    rw [List.drop_zero] at hA
    refine ⟨A,hA, ?_,hAf⟩
    unfold Plain;rw [hu]
    refine ⟨by rw [hA.1];exact hl,fun f hf => ?_⟩
    have := (hAq f hf).2.2
    rwa [Nat.sub_zero] at this
   case slice e =>
    simp only [Bool.and_eq_true,decide_eq_true_eq] at hp
    rcases DataW.trod_slice hu h with ⟨rfl, -⟩ | ⟨a,len,cap,elems,rest,n, -,rfl, -, -,hlc,hcm,hel,hget, -, -⟩
    ·refine ⟨[.v (.slice none 0 0)],RepL.cons (.v rfl) RepL.nil, ?_,by simp [AV.flat]⟩
     unfold Plain;rw [hu]
     exact ⟨_,[],rfl,Or.inl ⟨rfl,rfl⟩,Nat.zero_le _,by simp⟩
    ·have hone : ∀ i,i < len → ∃ y : AV,∃ A ci,w.cells? 0 (a.add (i * P.cellsOf e)) (P.cellsOf e) = some ci ∧ RepL (allZ w) noPls A ci ∧ Plain P N e A ∧ (∀ c ∈ A,c.flat = true) ∧ y = elemOf A := by
      intro i hi
      have := hget i hi
      rw [List.getElem?_eq_getElem (by omega),Option.bind_eq_some_iff] at this
      obtain ⟨ci,hc1,hc2⟩ := this
      obtain ⟨A,h1,h2,h3⟩ := plain_rep N e n ci _ hp.2 hc2
      exact ⟨_,A,ci,hc1,h1,h2,h3,rfl⟩
     obtain ⟨xs,hxl,hxq⟩ := exists_list len hone
     have hsz : ∀ y ∈ xs,y.cells.length = P.cellsOf e := by
      intro y hy
      obtain ⟨i,hi⟩ := List.getElem?_of_mem hy
      obtain ⟨A,ci,h1,h2,h3,h4,rfl⟩ := hxq i y hi
      rw [elem_cells h4,h2.1]
      exact (World.cells?_some h1).2.1
     have hplain : Plain P (N + 1) t [.vs (P.cellsOf e) xs (some cap)] := by
      unfold Plain;rw [hu]
      refine ⟨_,xs,rfl,Or.inr ⟨_,rfl⟩,by omega,fun y hy => ?_⟩
      obtain ⟨i,hi⟩ := List.getElem?_of_mem hy
      obtain ⟨A,ci,h1,h2,h3,h4,rfl⟩ := hxq i y hi
      exact ⟨A,rfl,by rw [h2.1];exact (World.cells?_some h1).2.1,h3⟩
     by_cases h0 : len = 0
     ·subst h0
      have : xs = [] := List.length_eq_zero_iff.1 hxl
      subst this
      exact ⟨_,RepL.cons (.vs0 (by simp)) RepL.nil,hplain,by simp [AV.flat]⟩
     ·-- the block
      have hpos := hp.1
      obtain ⟨y0,hy0⟩ : ∃ y,xs[0]? = some y := ⟨xs[0]'(by omega),List.getElem?_eq_getElem _⟩
      obtain ⟨A0,c0,hc0, -⟩ := hxq 0 y0 hy0
      obtain ⟨hsp0,arr,et,fr,hh, -, -⟩ := cells_at hc0 hpos
      have hb : ∀ j,(a.add j).block = a.block := by intro j;unfold Addr.add;split <;> rfl
      have ho : ∀ j,(a.add j).off = a.off + j := by
       intro j;unfold Addr.add;split
       ·rename_i hj;subst hj;rfl
       ·rfl
      rw [hb] at hh
      have hsp : a.spot = none := by simpa [Addr.add] using hsp0
      have hall : ∀ i j,i < len → j < P.cellsOf e → ∃ A ci,xs[i]? = some (elemOf A) ∧ (∀ c ∈ A,c.flat = true) ∧ RepL (allZ w) noPls A ci ∧ ci.length = P.cellsOf e ∧ arr[a.off + i * P.cellsOf e + j]? = ci[j]? := by
       intro i j hi hj
       obtain ⟨y,hy⟩ : ∃ y,xs[i]? = some y := ⟨xs[i]'(by omega),List.getElem?_eq_getElem _⟩
       obtain ⟨A,ci,h1,h2,h3,h4,rfl⟩ := hxq i y hy
       obtain ⟨-,arr',et',fr',hh',hl',hg⟩ := cells_at h1 hpos
       rw [hb,hh] at hh'
       obtain ⟨rfl,rfl,rfl⟩ : arr = arr' ∧ et = et' ∧ fr = fr' := by simpa using hh'
       have := hg j hj
       rw [ho] at this
       exact ⟨A,ci,hy,h4,h2,hl',this⟩
      have hfl : (xs.flatMap AV.cells).length = len * P.cellsOf e := by rw [flat_len hsz,hxl]
      have hfit : a.off + len * P.cellsOf e ≤ arr.size := by
       obtain ⟨A,ci, -, -, -,hl',hg⟩ := hall (len - 1) (P.cellsOf e - 1) (by omega) (by omega)
       rw [List.getElem?_eq_getElem (by omega)] at hg
       have := (Array.getElem?_eq_some_iff.1 hg).1
       have e1 : (len - 1) * P.cellsOf e + P.cellsOf e = len * P.cellsOf e := by
        have : len = (len - 1) + 1 := by omega
        conv => rhs;rw [this,Nat.succ_mul]
       omega
      refine ⟨[.vs (P.cellsOf e) xs (some cap)],RepL.cons ?_ RepL.nil,hplain,by simp [AV.flat]⟩
      have hval : (Value.slice (some a) len cap) = .slice (some ⟨a.block,(arr.toList.take a.off).length,none⟩) xs.length cap := by
       have : (arr.toList.take a.off).length = a.off := by simp;omega
       rw [this,hxl];cases a;simp_all
      rw [hval]
      refine .vs (vs := (arr.toList.drop a.off).take (len * P.cellsOf e)) (post := (arr.toList.drop a.off).drop (len * P.cellsOf e)) (pre := arr.toList.take a.off) (e := et) (fz := fr) (arr := arr) hh ?_ hsz ?_ ?_ (by simp) (by omega)
      ·rw [List.append_assoc,List.take_append_drop,List.take_append_drop]
      ·rw [hfl];simp;omega
      ·intro i c v hc hv
       have hi := (List.getElem?_eq_some_iff.1 hc).1
       rw [hfl] at hi
       have hq : i / P.cellsOf e < len := Nat.div_lt_of_lt_mul (by rw [Nat.mul_comm];exact hi)
       have hr : i % P.cellsOf e < P.cellsOf e := Nat.mod_lt _ hpos
       have hdm : i / P.cellsOf e * P.cellsOf e + i % P.cellsOf e = i := by rw [Nat.mul_comm];exact Nat.div_add_mod _ _
       obtain ⟨A,ci,hx,hA,hR,hl',hg⟩ := hall _ _ hq hr
       have hfa := (flat_at hsz hx).1
       rw [elem_cells hA] at hfa
       have hcA : A[i % P.cellsOf e]? = some c := by
        rw [← hfa,List.getElem?_take,if_pos hr,List.getElem?_drop,hdm];exact hc
       have hvA : ci[i % P.cellsOf e]? = some v := by
        rw [← hg]
        rw [List.getElem?_take,if_pos hi,List.getElem?_drop] at hv
        rw [show a.off + i / P.cellsOf e * P.cellsOf e + i % P.cellsOf e = a.off + i by omega]
        simpa using hv
       exact hR.2 _ _ _ hcA hvA
theorem plain_spare {base : Nat} {sp : Nat → Bool} : ∀ (N t fuel : Nat) (cs : List Value) (x : DataW HH × List MemPlace),plainT P N t = true → DataW.trod enc P w base (fun _ => true) true fuel t cs = some x →
  (∀ p ∈ x.2,sp p.block = true) → DataW.trod enc P w base sp true fuel t cs = some x
 | 0,_,_,_,_,hp,_,_ => by simp [plainT] at hp
 | N + 1,t,fuel,cs,x,hp,h,hs => by
  unfold plainT at hp
  cases fuel with
  | zero => simp [DataW.trod] at h
  | succ n =>
   cases hu : P.underlying t with
   | none => rw [hu] at hp;simp at hp
   | some u =>
    rw [hu] at hp
    cases u <;> simp only [Bool.false_eq_true] at hp
    case bool => obtain ⟨b,rfl,rfl⟩ := DataW.trod_bool hu h;rw [DataW.trod_step];unfold DataW.trodStep;rw [hu]
    case int k => obtain ⟨m,rfl,rfl,hw⟩ := DataW.trod_int hu h;rw [DataW.trod_step];unfold DataW.trodStep;rw [hu];simp [hw]
    case string => obtain ⟨m,rfl,rfl,hw⟩ := DataW.trod_string hu h;rw [DataW.trod_step];unfold DataW.trodStep;rw [hu];simp [hw]
    case struct fs =>
     rw [Bool.and_eq_true,List.all_eq_true] at hp
     rw [DataW.trod_step] at h ⊢
     unfold DataW.trodStep at h ⊢
     rw [hu] at h ⊢
     simp only at h ⊢
     split at h
     ·rename_i hl
      rw [if_pos hl]
      simp only [Option.map_eq_some_iff] at h ⊢
      obtain ⟨xs,hxs,rfl⟩ := h
      refine ⟨xs,mapM_carry hxs fun f y hf hy hfy => plain_spare N f.type n _ y (hp.2 f hf) hfy fun p hpm => hs p ?_,rfl⟩
      exact List.mem_flatMap.2 ⟨y,hy,hpm⟩
     ·cases h
    case slice e =>
     simp only [Bool.and_eq_true,decide_eq_true_eq] at hp
     have h0 := h
     rw [DataW.trod_step] at h ⊢
     unfold DataW.trodStep at h ⊢
     rw [hu] at h ⊢
     rcases DataW.trod_slice hu h0 with ⟨rfl,rfl⟩ | ⟨a,len,cap,elems,rest,n',hn',rfl,rfl, -,hlc,hcm,hel,hget,hrest, -⟩
     ·rfl
     ·simp only at h ⊢
      split at h
      ·rename_i hc
       rw [if_pos hc]
       simp only [if_true,Option.bind_eq_some_iff,Option.map_eq_some_iff] at h ⊢
       obtain ⟨es,hes,rs,hrs,heq⟩ := h
       have hin : ∀ y,y ∈ es ++ rs → ∀ p ∈ y.2,sp p.block = true := by
        intro y hy p hpm
        refine hs p ?_
        have := congrArg Prod.snd heq
        simp only at this
        rw [← this]
        exact List.mem_append_right _ (List.mem_flatMap.2 ⟨y,hy,hpm⟩)
       refine ⟨es,mapM_carry hes fun i y _ hy hfy => ?_,rs, ?_,heq⟩
       ·obtain ⟨ci,h1,h2⟩ := Option.bind_eq_some_iff.1 hfy
        rw [h1]
        exact plain_spare N e n ci y hp.2 h2 (hin y (List.mem_append_left _ hy))
       ·have hrl : rs.length = cap - len := by
         have := mapM_some_length hrs
         simpa using this
        by_cases hz : cap - len = 0
        ·have : rs = [] := List.length_eq_zero_iff.1 (by omega)
         subst this
         split
         ·rw [hz] at hrs ⊢;exact hrs
         ·rfl
        ·have hsp : sp a.block = true := by
          have hel' : es.length = len := by
           have := mapM_some_length hes
           simpa using this
          have := congrArg Prod.snd heq
          simp only at this
          have hm : MemPlace.cell a.block (a.off + 0) ∈ MemPlace.row a ((elems.length + rest.length) * P.cellsOf e) ++ (elems ++ rest).flatMap (·.2) := by
           rw [← this]
           refine List.mem_append_left _ (MemPlace.mem_row.2 ⟨0, ?_,rfl⟩)
           exact Nat.mul_pos (by omega) hp.1
          exact hs _ hm
         rw [if_pos hsp]
         refine mapM_carry hrs fun i y _ hy hfy => ?_
         obtain ⟨ci,h1,h2⟩ := Option.bind_eq_some_iff.1 hfy
         rw [h1]
         exact plain_spare N e n ci y hp.2 h2 (hin y (List.mem_append_right _ hy))
      ·cases h
end
end Go.Ev
namespace Go.Ev
open Go.ChangeShapes Go.WideShapes Go.ChangeAt Go.RowKit
def Arg (P : Program) (N : Nat) (t : TypeId) (x : AV) : Prop :=
 match P.underlying t with
 | some (.struct _) => ∃ A,x = .agg A ∧ Plain P N t A
 | _ => Plain P N t [x]
inductive ArgsOf (P : Program) (N : Nat) : List TypeId → List AV → Prop
 | nil : ArgsOf P N [] []
 | cons {t : TypeId} {ts : List TypeId} {x : AV} {xs : List AV} (h : Arg P N t x) (hs : ArgsOf P N ts xs) : ArgsOf P N (t :: ts) (x :: xs)
section
variable {HH : Type} {enc : TypeId × Value → HH} {P : Program} {w : World}
theorem arg_rep {N base : Nat} {t : TypeId} {v : Value} {d : DataW HH} {ps : List MemPlace} (hp : plainT P N t = true) (hok : Value.okWide P w .any base t v) (h : DataW.Trod enc P w 0 (fun _ => true) true t v d ps) :
  ∃ x,Rep (allZ w) noPls x v ∧ Arg P N t x := by
 obtain ⟨fuel,h⟩ := h
 obtain ⟨A,hA,hpl,hfl⟩ := plain_rep N t fuel _ _ hp h
 cases N with
 | zero => simp [plainT] at hp
 | succ N =>
  have one : ∀ (hv : v.cells.toList = [v]),(∃ c,A = [c]) → (∀ fs,P.underlying t ≠ some (.struct fs)) → ∃ x,Rep (allZ w) noPls x v ∧ Arg P (N + 1) t x := by
   rintro hv ⟨c,rfl⟩ hns
   rw [hv] at hA
   obtain ⟨v',ws,e,hr, -⟩ := hA.uncons
   cases e
   refine ⟨c,hr, ?_⟩
   unfold Arg
   split
   ·rename_i fs hu;exact absurd hu (hns fs)
   ·exact hpl
  unfold plainT at hp
  unfold Value.okWide at hok
  have hpl' := hpl
  unfold Plain at hpl'
  cases hu : P.underlying t with
  | none => rw [hu] at hp;simp at hp
  | some u =>
   rw [hu] at hp hok hpl'
   cases u <;> simp only [Bool.false_eq_true] at hp hok hpl'
   case bool =>
    obtain ⟨b,rfl⟩ := hpl'
    refine one ?_ ⟨_,rfl⟩ (by simp [hu])
    unfold Cell.okWide Cell.ok at hok;rw [hu] at hok
    cases v <;> first | rfl | simp at hok
   case int k =>
    obtain ⟨m,rfl, -⟩ := hpl'
    refine one ?_ ⟨_,rfl⟩ (by simp [hu])
    unfold Cell.okWide Cell.ok at hok;rw [hu] at hok
    cases v <;> first | rfl | simp at hok
   case string =>
    obtain ⟨m,rfl, -⟩ := hpl'
    refine one ?_ ⟨_,rfl⟩ (by simp [hu])
    unfold Cell.okWide Cell.ok at hok;rw [hu] at hok
    cases v <;> first | rfl | simp at hok
   case slice e =>
    obtain ⟨x,xs,rfl, -⟩ := hpl'
    refine one ?_ ⟨_,rfl⟩ (by simp [hu])
    unfold Cell.okWide Cell.ok at hok;rw [hu] at hok
    cases v <;> first | rfl | simp at hok
   case struct fs =>
    obtain ⟨cs,rfl, -, -⟩ := hok
    refine ⟨.agg A, ?_, ?_⟩
    ·have := hA.agg
     simpa [Value.cells] using this
    ·unfold Arg;rw [hu];exact ⟨A,rfl,hpl⟩
theorem args_rep {N base : Nat} : ∀ {ts : List TypeId} {vs : List Value} {ds : List (DataW HH)} {ps : List MemPlace},ts.all (plainT P N) = true → (∀ (j : Nat) t v,ts[j]? = some t → vs[j]? = some v → Value.okWide P w .any base t v) →
  DataW.TrodAll enc P w 0 (fun _ => true) true ts vs ds ps → ∃ xs,RepL (allZ w) noPls xs vs ∧ ArgsOf P N ts xs
 | [],vs,ds,ps,_,_,h => by
  cases vs <;> cases ds <;> simp [DataW.TrodAll] at h
  exact ⟨[],RepL.nil,.nil⟩
 | t :: ts,vs,ds,ps,hp,hok,h => by
  obtain ⟨v,vs',d,ds',p,q,rfl,rfl,rfl,h1,h2⟩ := trodAll_cons h
  simp only [List.all_cons,Bool.and_eq_true] at hp
  obtain ⟨x,hx,hax⟩ := arg_rep hp.1 (hok 0 t v rfl rfl) h1
  obtain ⟨xs,hxs,haxs⟩ := args_rep hp.2 (fun j t' v' ht hv => hok (j + 1) t' v' (by simpa using ht) (by simpa using hv)) h2
  exact ⟨x :: xs,RepL.cons hx hxs,.cons hax haxs⟩
theorem trod_after {w' : World} (hh : ∀ k,k < w.heap.size → w'.heap[k]? = w.heap[k]?) {N : Nat} {sp : Nat → Bool} : ∀ {ts : List TypeId} {vs : List Value} {ds : List (DataW HH)} {ps : List MemPlace},ts.all (plainT P N) = true →
  DataW.TrodAll enc P w 0 (fun _ => true) true ts vs ds ps → (∀ p ∈ ps,sp p.block = true) → DataW.TrodAll enc P w' 0 sp true ts vs ds ps
 | [],vs,ds,ps,_,h,_ => by
  cases vs <;> cases ds <;> simp [DataW.TrodAll] at h ⊢
  exact h
 | t :: ts,vs,ds,ps,hp,h,hs => by
  obtain ⟨v,vs',d,ds',p,q,rfl,rfl,rfl,⟨fuel,h1⟩,h2⟩ := trodAll_cons h
  simp only [List.all_cons,Bool.and_eq_true] at hp
  refine ⟨p,q,⟨fuel, ?_⟩,trod_after hh hp.2 h2 fun p hp => hs p (List.mem_append_right _ hp),rfl⟩
  have hlt := DataW.trod_lt _ _ _ _ h1
  refine plain_spare N t fuel _ _ hp.1 (DataW.trod_carry _ _ _ _ h1 fun p hp => ?_) fun p hp => hs p (List.mem_append_left _ hp)
  have := hlt p hp
  cases p with
  | cell b off =>
   have hb : b < w.heap.size := this
   simp only [World.sameAt,World.cell?,hh b hb]
  | map b =>
   have hb : b < w.heap.size := this
   simp only [World.sameAt,hh b hb]
theorem trodAll_len {b : Nat} {sp : Nat → Bool} {hd : Bool} : ∀ {ts : List TypeId} {vs : List Value} {ds : List (DataW HH)} {ps : List MemPlace},DataW.TrodAll enc P w b sp hd ts vs ds ps → ds.length = ts.length
 | [],vs,ds,ps,h => by cases vs <;> cases ds <;> simp [DataW.TrodAll] at h ⊢
 | t :: ts,vs,ds,ps,h => by
  obtain ⟨v,vs',d,ds',p,q,rfl,rfl,rfl,h1,h2⟩ := trodAll_cons h
  simp [trodAll_len h2]
theorem kept_of {w' : World} (hos : w'.os = w.os) (hout : w'.output = w.output) (hh : ∀ k,k < w.heap.size → w'.heap[k]? = w.heap[k]?) : w.keptBut w' (fun _ => False) := by
 refine ⟨hos,hout,fun i hi => ?_⟩
 rw [hh i hi]
 cases h : w.heap[i]? with
 | none => simp
 | some o => cases o <;> simp
theorem post_of_old {f : Func} {s : ChangeSpec} {apart fresh handsOn again : Bool} {W W' : World} {args : Array Value} {v : Value} {ds gs : List (DataW HH)} {before pa pv : List MemPlace}
  (hW : DataW.Whole enc P f.params.toList s.vars apart W args.toList ds gs before)
  (hres : ∀ (b : Nat) (sp : Nat → Bool) (hd : Bool),DataW.TrodAll enc P W' b sp hd f.resultTypes.toList (v.resultList f.resultTypes.size) (s.fn HH (ds ++ gs)).results [])
  (hargs : ∀ sp : Nat → Bool,(∀ p ∈ before,sp p.block = true) → DataW.TrodAll enc P W' 0 sp true f.params.toList args.toList (s.fn HH (ds ++ gs)).args pa)
  (hvars : ∀ sp : Nat → Bool,(∀ p ∈ before,sp p.block = true) → DataW.TrodVars enc P W' sp s.vars (s.fn HH (ds ++ gs)).vars pv)
  (hps : before = pa ++ pv) (hk : W.keptBut W' (· ∈ before)) (hfz : ∀ a : Addr,a.block < W.heap.size → W'.frozen? a = W.frozen? a)
  (hok : ∀ (j : Nat) (t : TypeId) (r : Value),f.resultTypes[j]? = some t → (v.resultList f.resultTypes.size)[j]? = some r → Value.okWide P W' .any 0 t r) :
  s.post enc P f apart fresh handsOn again W args v W' := by
 have hold : ∀ p ∈ before,(fun b => decide (b < W.heap.size)) p.block = true := fun p hp => by simpa using hW.lt p hp
 have hlt := hW.lt
 refine ⟨ds,gs,before,[],pa,pv,hW,hres _ _ _,hargs _ hold,hvars _ hold,World.keptBut_mono (fun p hp => ⟨hp, ?_⟩) hk,fun _ => ?_⟩
 ·rw [hps,List.mem_append] at hp
  exact Or.inr hp
 ·obtain ⟨_,_,_,_,_,hz,hn⟩ := hW
  refine ⟨hok,_,_,([] ++ pa) ++ pv,⟨[] ++ pa,pv,trodAll_append (hargs _ (fun _ _ => rfl)) (hres _ _ _),hvars _ (fun _ _ => rfl),rfl, ?_, ?_⟩, ?_⟩
  ·intro b off hp
   have hp' : MemPlace.cell b off ∈ before := by rw [hps];simpa using hp
   rw [hfz ⟨b,off,none⟩ (hlt _ hp')]
   exact hz b off hp'
  ·intro ha
   have := hn ha
   rw [hps] at this
   simpa using this
  ·intro p hp _
   rw [hps]
   simpa using hp
theorem law_contract {C : Cfg} (hP : C.P = P) (hgo : NoGo P) (hm : P.follows .mixedOrders = true) (hext : ExtOK C) {f : FuncId} {fn : Func} {s : ChangeSpec} {N : Nat} {apart fresh handsOn again : Bool} {tb : TypeId}
  (hpl : fn.params.toList.all (plainT P N) = true) (hvars : s.vars = []) (hspec : ∀ ds : List (DataW HH),ds.length = fn.params.size → s.fn HH ds = { results := [.lit (.bool true)],args := ds })
  (hrt : fn.resultTypes = #[tb]) (htb : P.underlying tb = some .bool)
  (hlaw : ∀ xs,ArgsOf P N fn.params.toList xs → ∃ H',lim C (.call f xs { objs := [],lock := 0 }) = some (.ret (.v (.bool true)) H'))
  {W : World} {base : Nat} {args : Array Value} {ds gs : List (DataW HH)} {before : List MemPlace}
  (hval : ∀ (j : Nat) t v,fn.params[j]? = some t → args[j]? = some v → Value.okWide P W .any base t v)
  (hW : DataW.Whole enc P fn.params.toList s.vars apart W args.toList ds gs before) (hg : laidOk (allZ W) := by intro p hp;cases hp) :
  Calls P f args W fun e W' => ∃ v,e = .returned v ∧ s.post enc P fn apart fresh handsOn again W args v W' := by
 subst hP
 have hW' := hW
 obtain ⟨p,q,hA,hV,rfl,hfz,hnd⟩ := hW
 have hV' := hV
 rw [hvars] at hV'
 obtain ⟨rfl,rfl⟩ := trodVars_none hV'
 obtain ⟨xs,hxs,hax⟩ := args_rep hpl (fun j t v ht hv => hval j t v (by simpa using ht) (by simpa using hv)) hA
 obtain ⟨H',hl⟩ := hlaw xs hax
 have hc := top_calls hg hgo hm hext hl hxs
 have hlen : ds.length = fn.params.size := by have := trodAll_len hA;simpa using this
 have hsf : s.fn HH (ds ++ []) = { results := [.lit (.bool true)],args := ds } := by rw [List.append_nil];exact hspec ds hlen
 refine Calls.mono' hc ?_
 rintro e W' ⟨rfl,hh,hsz,hos,hout, -,hfr⟩
 refine ⟨_,rfl,post_of_old (pa := p) (pv := []) hW' ?_ ?_ ?_ rfl (World.keptBut_mono (fun _ h => h.elim) (kept_of hos hout hh)) hfr ?_⟩
 ·intro b sp hd
  rw [hsf,hrt]
  exact trodAll_mk1 (shut_bool htb true)
 ·intro sp hsp
  rw [hsf]
  exact trod_after hh hpl hA fun x hx => hsp x (List.mem_append_left _ hx)
 ·intro sp hsp
  rw [hsf,hvars]
  rfl
 ·exact ok_one hrt rfl (okWide_bool_mk htb true)
end
end Go.Ev
namespace Go.Ev
open Go.Proofs
def All2 {α β : Type} (R : α → β → Prop) (l : List α) (m : List β) : Prop := l.length = m.length ∧ ∀ (i : Nat) a b,l[i]? = some a → m[i]? = some b → R a b
theorem All2.get {α β : Type} {R : α → β → Prop} {l : List α} {m : List β} (h : All2 R l m) {i : Nat} {a : α} (ha : l[i]? = some a) : ∃ b,m[i]? = some b ∧ R a b := by
 have hi := (List.getElem?_eq_some_iff.1 ha).1
 exact ⟨m[i]'(h.1 ▸ hi),List.getElem?_eq_getElem _,h.2 i a _ ha (List.getElem?_eq_getElem _)⟩
theorem all2_of {α β : Type} {R : α → β → Prop} : ∀ (xs : List β),(∀ y ∈ xs,∃ a,R a y) → ∃ l,All2 R l xs
 | [],_ => ⟨[],rfl,fun i a b h => by simp at h⟩
 | y :: r,h => by
  obtain ⟨a,ha⟩ := h y List.mem_cons_self
  obtain ⟨l,hl⟩ := all2_of r fun z hz => h z (List.mem_cons_of_mem _ hz)
  refine ⟨a :: l,by simp [hl.1],fun i x z hx hz => ?_⟩
  cases i with
  | zero => simp at hx hz;subst hx;subst hz;exact ha
  | succ i => exact hl.2 i x z (by simpa using hx) (by simpa using hz)
theorem All2.mem_left {α β : Type} {R : α → β → Prop} {l : List α} {m : List β} (h : All2 R l m) {a : α} (ha : a ∈ l) : ∃ b ∈ m,R a b := by
 obtain ⟨i,hi⟩ := List.getElem?_of_mem ha
 obtain ⟨b,hb,hr⟩ := h.get hi
 exact ⟨b,List.mem_of_getElem? hb,hr⟩
theorem plain_slice {P : Program} {N t e c : Nat} {cs : List AV} (hu : P.underlying t = some (.slice e)) (hc : P.cellsOf e = c) (h : Plain P (N + 1) t cs) : ∃ x xs,cs = [x] ∧ SlOf c xs x ∧ xs.length ≤ maxLen ∧ ∀ y ∈ xs,∃ d,y = elemOf d ∧ d.length = c ∧ Plain P N e d := by
 unfold Plain at h;rw [hu] at h;subst hc;exact h
theorem plain_string {P : Program} {N t : Nat} {cs : List AV} (hu : P.underlying t = some .string) (h : Plain P (N + 1) t cs) : ∃ s,cs = [.v (.string s)] ∧ s.size ≤ maxLen := by
 unfold Plain at h;rw [hu] at h;exact h
theorem maxLen_lt : maxLen < 2 ^ 63 := by decide
theorem line_of {N : Nat} {cs : List AV} (h : Plain Try.prog (N + 2) 22 cs) : ∃ ws x,cs = [x] ∧ SlOf 1 (strs ws) x ∧ FitsR ws := by
 obtain ⟨x,xs,rfl,hx,hlen,hxs⟩ := plain_slice (c := 1) (by kernel_rfl : Try.prog.underlying 22 = some (.slice 9)) (by kernel_rfl) h
 have key : ∀ y ∈ xs,∃ s : ByteArray,y = .v (.string s) ∧ s.size ≤ maxLen := by
  intro y hy
  obtain ⟨d,rfl, -,hd⟩ := hxs y hy
  obtain ⟨s,rfl,hs⟩ := plain_string (by kernel_rfl : Try.prog.underlying 9 = some .string) hd
  exact ⟨s,rfl,hs⟩
 obtain ⟨ws,hws⟩ := all2_of (R := fun (s : ByteArray) y => y = AV.v (.string s) ∧ s.size ≤ maxLen) xs key
 have he : xs = strs ws := by
  unfold strs
  apply List.ext_getElem?
  intro i
  rw [List.getElem?_map]
  cases hi : ws[i]? with
  | none =>
   rw [List.getElem?_eq_none_iff] at hi
   rw [Option.map_none,List.getElem?_eq_none_iff]
   rw [← hws.1];exact hi
  | some s =>
   obtain ⟨b,hb,rfl, -⟩ := hws.get hi
   rw [hb];rfl
 have := maxLen_lt
 subst he
 refine ⟨ws,x,rfl,hx,by rw [strs_len] at hlen;omega,fun s hs => ?_⟩
 obtain ⟨b, -, -,h2⟩ := hws.mem_left hs
 omega
theorem rows_arg {N : Nat} {x : AV} (h : Arg Try.prog (N + 2) 22 x) : ∃ l,SlOf 1 (strs l) x ∧ FitsR l := by
 unfold Arg at h
 have hu : Try.prog.underlying 22 = some (.slice 9) := by kernel_rfl
 rw [hu] at h
 obtain ⟨ws,y,hy,h1,h2⟩ := line_of h
 simp only [List.cons.injEq,and_true] at hy
 subst hy
 exact ⟨ws,h1,h2⟩
theorem freeze_to_v {H : Heap} {K : Nat} {x : AV} {y : Value} (h : freezeV H K x = some (.v y)) : x = .v y := by
 cases K with
 | zero => cases h
 | succ K =>
  unfold freezeV at h
  cases x with
  | v z => simpa using h
  | ro z k => simp at h
  | vs s l c => simp at h
  | agg l => simp only [Option.map_eq_some_iff] at h;obtain ⟨_,_,h⟩ := h;cases h
  | tup l => simp only [Option.map_eq_some_iff] at h;obtain ⟨_,_,h⟩ := h;cases h
  | ifc t z => simp only [Option.map_eq_some_iff] at h;obtain ⟨_,_,h⟩ := h;cases h
  | mp b => simp only at h;split at h <;> simp at h
  | yld b => simp only at h;split at h <;> simp at h
  | fn f a b => simp only at h;split at h <;> simp at h
  | ptr b v k =>
   simp only at h
   split at h
   ·simp at h
   ·split at h
    ·split at h
     ·split at h <;> simp at h
     ·simp at h
    ·simp at h
  | sl b v off len c =>
   simp only at h
   split at h
   ·simp at h
   ·split at h
    ·split at h
     ·split at h
      ·simp at h
      ·split at h
       ·split at h <;> simp at h
       ·simp at h
     ·simp at h
    ·simp at h
theorem Ans.lim {C : Cfg} {f : FuncId} {args : List AV} (h : Ans C f args (.v (.bool true))) : ∃ H',Go.Ev.lim C (.call f args { objs := [],lock := 0 }) = some (.ret (.v (.bool true)) H') := by
 obtain ⟨x,H,h1,h2⟩ := Ans.iff.1 h
 rw [freeze_to_v h2] at h1
 exact ⟨H,h1⟩
theorem mixed (e : Exts) : (Cx e).P.follows .mixedOrders = true := by show Try.prog.follows .mixedOrders = true;kernel_rfl
theorem nogo_all : (Try.prog.funcs.toList.all fun fn => !(fn.body.isSome && (fn.name == "runtime.NumGoroutine"))) = true := by kernel_rfl
theorem nogo (e : Exts) : NoGo (Cx e).P := by
 intro f fn hf hb
 have h := List.all_eq_true.1 nogo_all fn (by
  have : Try.prog.funcs[f]? = some fn := hf
  exact List.mem_of_getElem? (by simpa using this))
 rw [hb] at h
 simpa using h
end Go.Ev
namespace Go.Ev
open Go.Proofs
attribute [local irreducible] Wp WpS
def bigR (l : List ByteArray) : Bool := decide (250 < l.length) || l.any fun r => decide (200 < r.size)
theorem ans55 {e : Exts} (l : List ByteArray) (hf : FitsR l) (x : AV) (hx : SlOf 1 (strs l) x) : Ans (Cx e) 6 [x] (.v (.bool (bigR l))) := by
 unfold Ans
 rw [fn_step (fn_6 e) (show Try.f6.body = some _ from rfl)]
 have hlx := hx.len
 rw [strs_len] at hlx
 by_cases hbig : 250 < l.length
 ·have hb : (l.length : Int) > 250 := by omega
  have hr : bigR l = true := by unfold bigR;rw [decide_eq_true hbig];rfl
  simp -implicitDefEqProofs only [Try.f6,go_sem,↓reduceIte,Int.reduceEq,Int.reduceLT,Int.reduceLE,List.reduceReplicate,intA,setT_nil,setT_cons,hx.cells,hx.flat,hx.bound,hlx,hb,hr,↓boolP_bool,↓iteB_true,↓iteB_false]
 have hb : ¬ (l.length : Int) > 250 := by omega
 have hr : bigR l = l.any fun r => decide (200 < r.size) := by unfold bigR;rw [decide_eq_false hbig];rfl
 simp -implicitDefEqProofs only [Try.f6,go_sem,↓reduceIte,Int.reduceEq,Int.reduceLT,Int.reduceLE,List.reduceReplicate,intA,setT_nil,setT_cons,hx.cells,hx.flat,hx.bound,hlx,hb,↓boolP_bool,↓iteB_true,↓iteB_false]
 refine Lp_ruleQ (P := fun μ a H => ∃ j,j + μ = l.length ∧ bigR l = ((l.drop j).any fun r => decide (200 < r.size)) ∧ a = ⟨19,[(0,x),(2,.v (.bool false)),(6,.v (.bool false)),(3,intA (j : Nat))],[]⟩ ∧ H = ⟨[],0⟩) ?_ l.length _ _ ⟨0,by omega,hr,rfl,rfl⟩
 rintro Q KK hQ hKK μ _ _ ⟨j,hj,hall,rfl,rfl⟩
 cases μ with
 | zero =>
  obtain rfl : j = l.length := by omega
  rw [List.drop_length] at hall
  have hlt : ¬ (l.length : Int) < (l.length : Int) := by omega
  simp -implicitDefEqProofs only [go_sem,↓reduceIte,Int.reduceEq,Int.reduceLT,Int.reduceLE,List.reduceReplicate,intA,setT_nil,setT_cons,hx.cells,hx.flat,hx.bound,hlx,hlt,↓boolP_bool,↓iteB_true,↓iteB_false]
  refine hKK _ _ _ ?_
  rw [hall]
  simp -implicitDefEqProofs only [go_sem,↓reduceIte,Int.reduceEq,Int.reduceLT,Int.reduceLE,List.reduceReplicate,intA,setT_nil,setT_cons,List.any_nil,hx.cells,hx.flat,hx.bound,↓boolP_bool,↓iteB_true,↓iteB_false]
 | succ μ =>
  obtain ⟨r,hr1⟩ := at_lt l j (by omega)
  have hlt : (j : Int) < (l.length : Int) := by omega
  have hix := hx.idx (strs_get hr1)
  have hw := wrap_succ j (by have := hf.1;omega)
  rw [drop_eq_cons hr1,List.any_cons] at hall
  by_cases h2 : 200 < r.size
  ·have h3 : (r.size : Int) > 200 := by omega
   rw [decide_eq_true h2,Bool.true_or] at hall
   simp -implicitDefEqProofs only [go_sem,↓reduceIte,Int.reduceEq,Int.reduceLT,Int.reduceLE,List.reduceReplicate,intA,setT_nil,setT_cons,hx.cells,hx.flat,hx.bound,hlx,hlt,hix,h3,↓boolP_bool,↓iteB_true,↓iteB_false]
   refine hKK _ _ _ ?_
   rw [hall]
   simp -implicitDefEqProofs only [go_sem,↓reduceIte,Int.reduceEq,Int.reduceLT,Int.reduceLE,List.reduceReplicate,intA,setT_nil,setT_cons,↓boolP_bool,↓iteB_true,↓iteB_false]
  ·have h3 : ¬ (r.size : Int) > 200 := by omega
   rw [decide_eq_false h2,Bool.false_or] at hall
   simp -implicitDefEqProofs only [go_sem,↓reduceIte,Int.reduceEq,Int.reduceLT,Int.reduceLE,List.reduceReplicate,intA,setT_nil,setT_cons,hx.cells,hx.flat,hx.bound,hlx,hlt,hix,h3,hw,↓boolP_bool,↓iteB_true,↓iteB_false]
   exact Again.mk' μ (by omega) (hQ _ _ _ ⟨j + 1,by omega,hall,rfl,rfl⟩)
theorem call55 {e : Exts} (he : Quiet e) (l : List ByteArray) (hf : FitsR l) (x : AV) (hx : SlOf 1 (strs l) x) (me : FuncId) (d : Option Tmp) (H : Heap) : callA (Cx e) (lim (Cx e)) me 6 d [x] H = some (.v (.bool (bigR l)),H) :=
 (ans55 l hf x hx).call (ext_6 he) (pure_6 _ _ _) (by simp only [boundL_cons,hx.bound,boundL_nil];rfl) H
end Go.Ev
namespace Go.Ev
open Go.Proofs
attribute [local irreducible] Wp WpS
theorem ansP49 {e : Exts} (r : ByteArray) (hr : r.size < 2 ^ 63) (i : Nat) (hi : i < 1000) : Ans (Cx e) 49 [.v (.string r),.v (.int .i64 i)] (.v (.int .i64 (sumR r i : Nat))) := by
 unfold Ans
 rw [fn_step (fn_49 e) (show Try.f49.body = some _ from rfl)]
 have h1 : IntKind.i64.wrap (17 * (i : Int)) = ((17 * i : Nat) : Int) := by rw [wrap_in _ (by omega) (by omega)];omega
 have h2 : IntKind.i64.wrap (((17 * i : Nat) : Int) + 5) = ((17 * i + 5 : Nat) : Int) := by rw [wrap_in _ (by omega) (by omega)];omega
 have b1 := fun t x y => bin_rem ((17 * i + 5 : Nat) : Int) 676 (by decide) t x y
 rw [tmod676] at b1
 simp -implicitDefEqProofs only [Try.f49,go_sem,↓reduceIte,Int.reduceEq,Int.reduceLT,Int.reduceLE,List.reduceReplicate,intA,setT_nil,setT_cons,h1,h2,b1,↓boolP_bool,↓iteB_true,↓iteB_false]
 refine Lp_ruleQ (P := fun μ a H => ∃ j n,j + μ = r.size ∧ n < 676 ∧ sumR r i = chkN n (r.data.toList.drop j) ∧ a = ⟨26,[(0,.v (.string r)),(1,intA (i : Nat)),(4,.v (.int .i64 0)),(5,intA (n : Nat)),(6,intA (j : Nat))],[]⟩ ∧ H = ⟨[],0⟩) ?_ r.size _ _ ⟨0,_,by omega,Nat.mod_lt _ (by omega),rfl,rfl,rfl⟩
 rintro Q KK hQ hKK μ _ _ ⟨j,n,hj,hn,hs,rfl,rfl⟩
 cases μ with
 | zero =>
  obtain rfl : j = r.size := by omega
  have hlt : ¬ (r.size : Int) < (r.size : Int) := by omega
  rw [List.drop_of_length_le (by simp)] at hs
  have hs : sumR r i = n := hs
  simp -implicitDefEqProofs only [go_sem,↓reduceIte,Int.reduceEq,Int.reduceLT,Int.reduceLE,List.reduceReplicate,intA,setT_nil,setT_cons,hlt,↓boolP_bool,↓iteB_true,↓iteB_false]
  refine hKK _ _ _ ?_
  simp -implicitDefEqProofs only [go_sem,↓reduceIte,Int.reduceEq,Int.reduceLT,Int.reduceLE,List.reduceReplicate,intA,setT_nil,setT_cons,hs,↓boolP_bool,↓iteB_true,↓iteB_false]
 | succ μ =>
  obtain ⟨b,hb⟩ := at_lt r.data.toList j (by simp;omega)
  have hlt : (j : Int) < (r.size : Int) := by omega
  have hsa := strAt_get hb
  have hw := wrap_succ j (by omega)
  have hk0 : (0 : Int) ≤ (j : Int) := by omega
  have hbl := b.toNat_lt
  have hcv := conv_u8 b.toNat (by omega) (by omega)
  have m1 : IntKind.i64.wrap (31 * (n : Int)) = ((31 * n : Nat) : Int) := by rw [wrap_in _ (by omega) (by omega)];omega
  have m2 : IntKind.i64.wrap (((31 * n : Nat) : Int) + (b.toNat : Int)) = ((31 * n + b.toNat : Nat) : Int) := by rw [wrap_in _ (by omega) (by omega)];omega
  have m3 := fun t x y => bin_rem ((31 * n + b.toNat : Nat) : Int) 676 (by decide) t x y
  rw [tmod676] at m3
  rw [drop_eq_cons hb] at hs
  simp -implicitDefEqProofs only [go_sem,↓reduceIte,Int.reduceEq,Int.reduceLT,Int.reduceLE,List.reduceReplicate,intA,setT_nil,setT_cons,hlt,hk0,Int.toNat_natCast,hsa,hcv,hw,m1,m2,m3,↓boolP_bool,↓iteB_true,↓iteB_false]
  exact Again.mk' μ (by omega) (hQ _ _ _ ⟨j + 1,_,by omega,Nat.mod_lt _ (by omega),hs,rfl,rfl⟩)
def alph26 : ByteArray := ⟨#[97,98,99,100,101,102,103,104,105,106,107,108,109,110,111,112,113,114,115,116,117,118,119,120,121,122]⟩
theorem alph_at : ∀ q : Fin 26,alph26.extract q.val (q.val + 1) = ⟨#[(97 + q.val).toUInt8]⟩ := by decide
theorem alph_sl (q : Nat) (hq : q < 26) : sliceI Try.prog 9 (.v (.string alph26)) (some (.v (.int .i64 (q : Nat)))) (some (.v (.int .i64 (q + 1 : Nat)))) none = some (.v (.string ⟨#[(97 + q).toUInt8]⟩)) := by
 have b1 : boundA (some (.v (.int .i64 ((q + 1 : Nat) : Int)))) alph26.size alph26.size = some (q + 1) := by
  unfold boundA
  simp only [Int.toNat_natCast]
  rw [if_pos (by have : alph26.size = 26 := rfl
                 omega)]
 have b2 : boundA (some (.v (.int .i64 (q : Nat)))) 0 (q + 1) = some q := by
  unfold boundA
  simp only [Int.toNat_natCast]
  rw [if_pos (by omega)]
 have h := alph_at ⟨q,hq⟩
 simp only at h
 unfold sliceI
 simp only []
 unfold sliceA
 simp only [und9,b1,b2,h]
 rfl
theorem ansP32 {e : Exts} (he : Quiet e) (r : ByteArray) (hr : r.size < 1000) (i : Nat) (hi : i < 1000) : Ans (Cx e) 32 [.v (.string r),.v (.int .i64 i)] (.v (.string (lineB r i))) := by
 have c49 := fun me d H => (ansP49 (e := e) r (by omega) i hi).call (me := me) (d := d) (ext_49 he) (pure_49 _ _ _) rfl H
 have hsl := sumR_lt r i
 generalize hS : sumR r i = S at *
 have q1 := fun t x y => bin_quo (S : Int) 26 (by decide) t x y
 have q2 := fun t x y => bin_rem (S : Int) 26 (by decide) t x y
 rw [tdiv26,wrap_in _ (by omega) (by omega)] at q1
 rw [tmod26] at q2
 have w1 : IntKind.i64.wrap (((S / 26 : Nat) : Int) + 1) = ((S / 26 + 1 : Nat) : Int) := by rw [wrap_in _ (by omega) (by omega)];omega
 have w2 : IntKind.i64.wrap (((S % 26 : Nat) : Int) + 1) = ((S % 26 + 1 : Nat) : Int) := by rw [wrap_in _ (by omega) (by omega)];omega
 have s1 := alph_sl (S / 26) (by omega)
 have s2 := alph_sl (S % 26) (by omega)
 have z1 : (⟨#[32]⟩ : ByteArray).size = 1 := rfl
 have z2 : (⟨#[10]⟩ : ByteArray).size = 1 := rfl
 have z3 : (⟨#[(97 + S / 26).toUInt8]⟩ : ByteArray).size = 1 := rfl
 have z4 : (⟨#[(97 + S % 26).toUInt8]⟩ : ByteArray).size = 1 := rfl
 have k1 := cat_ok r ⟨#[32]⟩ (by rw [z1];omega)
 have k2 := cat_ok (r ++ ⟨#[32]⟩) ⟨#[(97 + S / 26).toUInt8]⟩ (by rw [cat_size,z1,z3];omega)
 have k3 := cat_ok (r ++ ⟨#[32]⟩ ++ ⟨#[(97 + S / 26).toUInt8]⟩) ⟨#[(97 + S % 26).toUInt8]⟩ (by rw [cat_size,cat_size,z1,z3,z4];omega)
 have k4 := cat_ok (r ++ ⟨#[32]⟩ ++ ⟨#[(97 + S / 26).toUInt8]⟩ ++ ⟨#[(97 + S % 26).toUInt8]⟩) ⟨#[10]⟩ (by rw [cat_size,cat_size,cat_size,z1,z3,z4,z2];omega)
 have hfin : r ++ ⟨#[32]⟩ ++ ⟨#[(97 + S / 26).toUInt8]⟩ ++ ⟨#[(97 + S % 26).toUInt8]⟩ ++ ⟨#[10]⟩ = lineB r i := by
  refine ba_ext ?_
  rw [lineB_data]
  unfold chkB
  rw [hS]
  simp only [cat_data]
  simp
 unfold Ans
 rw [fn_step (fn_32 e) (show Try.f32.body = some _ from rfl)]
 simp -implicitDefEqProofs only [Try.f32,go_sem,↓reduceIte,Int.reduceEq,Int.reduceLT,Int.reduceLE,List.reduceReplicate,intA,setT_nil,setT_cons,c49,↓boolP_bool,↓iteB_true,↓iteB_false]
 refine wp_drawX [([],[],false),([],[],false),([],[],false),([],[],false),([],[],false),([],[],false),([],[],false),([],[],false),([],[],false),([],[],false),([],[],false),([],[],false),([],[],false),([],[],false),([7],[],false),([],[],false),([],[],false),([],[],false)] (by kernel_rfl) (by kernel_rfl) ?_
 simp -implicitDefEqProofs only [go_sem,↓reduceIte,Int.reduceEq,Int.reduceLT,Int.reduceLE,List.reduceReplicate,intA,setT_nil,setT_cons,q1,q2,w1,w2,show (ByteArray.mk #[97,98,99,100,101,102,103,104,105,106,107,108,109,110,111,112,113,114,115,116,117,118,119,120,121,122]) = alph26 from rfl,s1,s2,k1,k2,k3,k4,↓boolP_bool,↓iteB_true,↓iteB_false]
 rw [hfin]
 done
end Go.Ev
namespace Go.Ev
open Go.Proofs
attribute [local irreducible] Wp WpS
theorem callP32 {e : Exts} (he : Quiet e) (r : ByteArray) (hr : r.size < 1000) (i : Nat) (hi : i < 1000) (me : FuncId) (d : Option Tmp) (H : Heap) : callA (Cx e) (lim (Cx e)) me 32 d [.v (.string r),.v (.int .i64 i)] H = some (.v (.string (lineB r i)),H) :=
 (ansP32 he r hr i hi).call (ext_32 he) (pure_32 _ _ _) rfl H
def outB (l : List ByteArray) : ByteArray := ⟨(linesB 0 l).toArray⟩
theorem outB_size (l : List ByteArray) : (outB l).size = (linesB 0 l).length := by unfold outB;rw [ba_size]
theorem ansP8 {e : Exts} (he : Quiet e) (l : List ByteArray) (hf : FitsR l) (x : AV) (hx : SlOf 1 (strs l) x) : Ans (Cx e) 8 [x] (writeV l) := by
 have c38 := fun me d H => call38 he l hf x hx me d H
 have hlx := hx.len
 rw [strs_len] at hlx
 unfold writeV Ans
 rw [fn_step (fn_8 e) (show Try.f8.body = some _ from rfl)]
 cases hr : rowsB l with
 | false =>
  rw [hr] at c38
  simp -implicitDefEqProofs only [Try.f8,go_sem,↓reduceIte,Int.reduceEq,Int.reduceLT,Int.reduceLE,List.reduceReplicate,intA,setT_nil,setT_cons,c38,hx.cells,hx.flat,hx.bound,Bool.not_false,Bool.false_eq_true,if_false,↓boolP_bool,↓iteB_true,↓iteB_false]
  rfl
 | true =>
  rw [hr] at c38
  obtain ⟨h200,hrow⟩ := rows_of hr
  have htot := linesB_len l 0 fun r hr => (hrow r hr).2.1
  simp -implicitDefEqProofs only [Try.f8,go_sem,↓reduceIte,Int.reduceEq,Int.reduceLT,Int.reduceLE,List.reduceReplicate,intA,setT_nil,setT_cons,c38,hx.cells,hx.flat,hx.bound,Bool.not_true,if_true,↓boolP_bool,↓iteB_true,↓iteB_false]
  refine Lp_ruleQ (P := fun μ a H => ∃ j,j + μ = l.length ∧ a = ⟨27,[(0,x),(2,.v (.string ⟨#[]⟩)),(3,.v (.int .i64 0)),(8,.v (.bool false)),(4,.v (.string (outB (l.take j)))),(5,intA (j : Nat))],[]⟩ ∧ H = ⟨[],0⟩) ?_ l.length _ _ ⟨0,by omega,rfl,rfl⟩
  rintro Q KK hQ hKK μ _ _ ⟨j,hj,rfl,rfl⟩
  cases μ with
  | zero =>
   obtain rfl : j = l.length := by omega
   have hlt : ¬ (l.length : Int) < (l.length : Int) := by omega
   rw [List.take_length]
   simp -implicitDefEqProofs only [go_sem,↓reduceIte,Int.reduceEq,Int.reduceLT,Int.reduceLE,List.reduceReplicate,intA,setT_nil,setT_cons,hlt,hlx,hx.cells,hx.flat,hx.bound,↓boolP_bool,↓iteB_true,↓iteB_false]
   refine hKK _ _ _ ?_
   have hsz := outB_size l
   by_cases hbig : 30000 < (linesB 0 l).length
   ·have hb : ((outB l).size : Int) > 30000 := by omega
    rw [if_pos hbig]
    simp -implicitDefEqProofs only [go_sem,↓reduceIte,Int.reduceEq,Int.reduceLT,Int.reduceLE,List.reduceReplicate,intA,setT_nil,setT_cons,hb,↓boolP_bool,↓iteB_true,↓iteB_false]
    rfl
   ·have hb : ¬ ((outB l).size : Int) > 30000 := by omega
    rw [if_neg hbig]
    simp -implicitDefEqProofs only [go_sem,↓reduceIte,Int.reduceEq,Int.reduceLT,Int.reduceLE,List.reduceReplicate,intA,setT_nil,setT_cons,hb,↓boolP_bool,↓iteB_true,↓iteB_false]
    rfl
  | succ μ =>
   obtain ⟨r,hrj⟩ := at_lt l j (by omega)
   have hlt : (j : Int) < (l.length : Int) := by omega
   have hw := wrap_succ j (by omega)
   have hrr := hrow r (List.mem_of_getElem? hrj)
   have hix := hx.idx (strs_get hrj)
   have c32 := fun me d H => callP32 he r (by omega) j (by omega) me d H
   have hsz := outB_size (l.take j)
   have htj := linesB_len (l.take j) 0 fun r hr => (hrow r (List.mem_of_mem_take hr)).2.1
   rw [List.length_take,Nat.min_eq_left (by omega)] at htj
   have hls := lineB_size r j
   have k1 := cat_ok (outB (l.take j)) (lineB r j) (by omega)
   have k2 : outB (l.take j) ++ lineB r j = outB (l.take (j + 1)) := by
    refine ba_ext ?_
    rw [cat_data]
    unfold outB
    rw [linesB_take l j r hrj]
   rw [k2] at k1
   simp -implicitDefEqProofs only [go_sem,↓reduceIte,Int.reduceEq,Int.reduceLT,Int.reduceLE,List.reduceReplicate,intA,setT_nil,setT_cons,hlt,hlx,hix,c32,k1,hw,hx.cells,hx.flat,hx.bound,↓boolP_bool,↓iteB_true,↓iteB_false]
   exact Again.mk' μ (by omega) (hQ _ _ _ ⟨j + 1,by omega,rfl,rfl⟩)
end Go.Ev
namespace Go.Ev
open Go.Proofs
attribute [local irreducible] Wp WpS
theorem slice_mi (H : Heap) (s : ByteArray) (a b : Nat) (hab : a ≤ b) (hb : b ≤ s.size) : sliceA Try.prog H 9 (.v (.string s)) (some (.v (.int .i64 (a : Nat)))) (some (.v (.int .i64 (b : Nat)))) none = some (.v (.string (s.extract a b))) := by
 have b1 : boundA (some (.v (.int .i64 (b : Nat)))) s.size s.size = some b := by
  unfold boundA
  simp only [Int.toNat_natCast]
  rw [if_pos (by omega)]
 have b2 : boundA (some (.v (.int .i64 (a : Nat)))) 0 b = some a := by
  unfold boundA
  simp only [Int.toNat_natCast]
  rw [if_pos (by omega)]
 unfold sliceA
 simp only [und9,b1,b2]
 rfl
theorem slice_miI (s : ByteArray) (a b : Nat) (hab : a ≤ b) (hb : b ≤ s.size) : sliceI Try.prog 9 (.v (.string s)) (some (.v (.int .i64 (a : Nat)))) (some (.v (.int .i64 (b : Nat)))) none = some (.v (.string (s.extract a b))) := slice_mi ⟨[],0⟩ s a b hab hb
def h10 : List ByteArray → Heap
 | [] => ⟨[],0⟩
 | z :: Z => ⟨[some (.cells Z.length 0 9 1 true (strs (z :: Z)))],0⟩
theorem fin10 (Z : List ByteArray) (n : Nat) : AtO (ansK (.tup [(match Z with | [] => .v (.slice none 0 0) | z :: Z => .vs 1 (strs (z :: Z)) none),.v (.int .i64 n),.v (.int .i64 0)])) (.tup [slR Z 0,.v (.int .i64 n),.v (.int .i64 0)]) (h10 Z) := by
 cases Z with
 | nil => rfl
 | cons z Z => exact frz14 (e := 9) rfl (by unfold h10 Heap.row Heap.get;simp) (by rw [strs_len];rfl) _ _
theorem totR_app : ∀ (a b : List ByteArray),totR (a ++ b) = totR a + totR b
 | [],b => by show totR b = 0 + totR b;omega
 | r :: a,b => by
  show r.size + 4 + totR (a ++ b) = r.size + 4 + totR a + totR b
  rw [totR_app a b];omega
theorem app10 (z : ByteArray) (Z : List ByteArray) (r : ByteArray) (slot : Nat) (hn : Z.length < 1000) : appTo 9 1 16 ⟨[some (.cells Z.length 0 9 1 true (strs (z :: Z)))],0⟩ slot 1 [.v (.string r)] (.sl 0 Z.length 0 (Z.length + 1) none) = some (.sl 0 (Z.length + 1) 0 (Z.length + 1 + 1) none,⟨[some (.cells (Z.length + 1) 0 9 1 true (strs (z :: (Z ++ [r]))))],0⟩) := by
 have hf : fitsA 16 (Z.length + 1 + 1) = true := by unfold fitsA;exact decide_eq_true (by omega)
 have h := appTo_own (e := 9) (sz := 1) (b' := 16) (H := ⟨[some (.cells Z.length 0 9 1 true (strs (z :: Z)))],0⟩) (slot := slot) (b := 0) (v := Z.length) (len := Z.length + 1) (n := 1) (new := [.v (.string r)]) (m := 0) (e' := 9) (cs := strs (z :: Z)) (by unfold Heap.row Heap.get;simp) (by rw [strs_len];simp) (Nat.zero_le _) hf (by omega) (by omega)
 rw [h]
 have h2 : strs (z :: Z) ++ [AV.v (.string r)] = strs (z :: (Z ++ [r])) := by unfold strs;simp
 rw [h2];rfl
theorem len10 (Z : List ByteArray) : lenI Try.prog [22] [slR Z 0] = some (.v (.int .i64 (Z.length : Nat))) := by cases Z <;> rfl
theorem set10 (Z : List ByteArray) : settleH (h10 Z).size ((h10 Z).plus [none,none,none,none,none,none,none,none,none,none,none,none,none,none,none,none]) = h10 Z := by
 rw [settleP0 rfl]
 exact plus_nil _
theorem appE10 (Z : List ByteArray) (r : ByteArray) (hn : Z.length < 1000) : appTo 9 1 16 (h10 Z) (h10 Z).size 1 [.v (.string r)] (slR Z 0) = some (slR (Z ++ [r]) 0,h10 (Z ++ [r])) := by
 cases Z with
 | nil => rfl
 | cons z Z =>
  have h := app10 z Z r (h10 (z :: Z)).size (by simp only [List.length_cons] at hn;omega)
  rw [show slR (z :: Z) 0 = AV.sl 0 Z.length 0 (Z.length + 1) none from rfl,show h10 (z :: Z) = ⟨[some (.cells Z.length 0 9 1 true (strs (z :: Z)))],0⟩ from rfl] at *
  rw [h,List.cons_append,show slR (z :: (Z ++ [r])) 0 = AV.sl 0 (Z ++ [r]).length 0 ((Z ++ [r]).length + 1) none from rfl,show h10 (z :: (Z ++ [r])) = ⟨[some (.cells (Z ++ [r]).length 0 9 1 true (strs (z :: (Z ++ [r]))))],0⟩ from rfl,List.length_append]
  rfl
theorem setA10 (Z : List ByteArray) (r : ByteArray) : settleH (h10 Z).size (h10 (Z ++ [r])) = h10 (Z ++ [r]) := by cases Z <;> rfl
theorem trim_up {H : Heap} {n : Nat} {vs : List AV} {ms : List Nat} (h : n < boundL vs) : H.trim n vs ms = H := by
 unfold Heap.trim
 rw [if_neg]
 have : Nat.ble (boundL vs) n = false := by
  cases hb : Nat.ble (boundL vs) n with
  | false => rfl
  | true => have := Nat.le_of_ble_eq_true hb;omega
 simp only [this,Bool.false_and,Bool.false_eq_true,not_false_eq_true]
theorem bound_mem {x : AV} : ∀ {l : List AV},x ∈ l → bound x ≤ boundL l
 | y :: l,h => by
  rw [boundL_cons]
  rcases List.mem_cons.1 h with rfl | h
  ·exact Nat.le_max_left _ _
  ·exact Nat.le_trans (bound_mem h) (Nat.le_max_right _ _)
theorem slR_bound (Z : List ByteArray) (r : ByteArray) : 1 ≤ bound (slR (Z ++ [r]) 0) := by cases Z <;> exact Nat.le_refl _
theorem trim10 (Z : List ByteArray) (r : ByteArray) (vs : List AV) (ms : List Nat) (h : 1 ≤ boundL vs) : (h10 (Z ++ [r])).trim (h10 Z).size vs ms = h10 (Z ++ [r]) := by
 cases Z with
 | nil => exact trim_up h
 | cons z Z => exact trim_eqN rfl _ _
theorem rowB_pos {r : ByteArray} (h : rowB r = true) : 1 ≤ r.size := ((rows_of (l := [r]) (by rw [rows_one];exact h)).2 r (List.mem_singleton.2 rfl)).1
theorem rowB_hi {r : ByteArray} (h : rowB r = true) : r.size ≤ 160 := ((rows_of (l := [r]) (by rw [rows_one];exact h)).2 r (List.mem_singleton.2 rfl)).2.1
theorem ansP10 {e : Exts} (he : Quiet e) (s : ByteArray) (hs : s.size < 100000) : Ans (Cx e) 10 [.v (.string s)] (readV s) := by
 unfold readV Ans
 rw [fn_step (fn_10 e) (show Try.f10.body = some _ from rfl)]
 by_cases hbig : 30000 < s.size
 ·have hb : (s.size : Int) > 30000 := by omega
  rw [if_pos hbig]
  simp -implicitDefEqProofs only [Try.f10,go_sem,↓reduceIte,Int.reduceEq,Int.reduceLT,Int.reduceLE,List.reduceReplicate,intA,setT_nil,setT_cons,hb,↓boolP_bool,↓iteB_true,↓iteB_false]
  rfl
 ·have hb : ¬ (s.size : Int) > 30000 := by omega
  rw [if_neg hbig]
  simp -implicitDefEqProofs only [Try.f10,go_sem,↓reduceIte,Int.reduceEq,Int.reduceLT,Int.reduceLE,List.reduceReplicate,intA,setT_nil,setT_cons,hb,↓boolP_bool,↓iteB_true,↓iteB_false]
  refine Lp_ruleQ (P := fun μ a H => ∃ Z,Z.length + μ = 200 ∧ readR s 200 0 0 = Z ++ readR s (200 - Z.length) Z.length (totR Z) ∧ totR Z ≤ s.size ∧ a = ⟨71,[(0,.v (.string s)),(2,.v (.slice none 0 0)),(3,.v (.int .i64 0)),(4,.v (.int .i64 0)),(11,.v (.bool false)),(5,slR Z 0),(6,intA (totR Z : Nat))],[]⟩ ∧ H = h10 Z) ?_ 200 _ _ ⟨[],rfl,rfl,Nat.zero_le _,rfl,rfl⟩
  rintro Q KK hQ hKK μ _ _ ⟨Z,hZ,hR,hat,rfl,rfl⟩
  have hlz : slLen (slR Z 0) = some (.v (.int .i64 (Z.length : Nat))) := by cases Z <;> rfl
  cases μ with
  | zero =>
   have hlt : ¬ (Z.length : Int) < 200 := by omega
   rw [show 200 - Z.length = 0 by omega,readR_zero,List.append_nil] at hR
   simp -implicitDefEqProofs only [go_sem,↓reduceIte,Int.reduceEq,Int.reduceLT,Int.reduceLE,List.reduceReplicate,intA,setT_nil,setT_cons,hlz,hlt,↓boolP_bool,↓iteB_true,↓iteB_false]
   refine hKK _ _ _ ?_
   simp -implicitDefEqProofs only [go_sem,↓reduceIte,Int.reduceEq,Int.reduceLT,Int.reduceLE,List.reduceReplicate,intA,setT_nil,setT_cons,↓boolP_bool,↓iteB_true,↓iteB_false]
   rw [hR]
   exact fin10 Z _
  | succ μ =>
   have hlt : (Z.length : Int) < 200 := by omega
   simp -implicitDefEqProofs only [go_sem,↓reduceIte,Int.reduceEq,Int.reduceLT,Int.reduceLE,List.reduceReplicate,intA,setT_nil,setT_cons,hlz,hlt,↓boolP_bool,↓iteB_true,↓iteB_false]
   obtain ⟨m,hm⟩ : ∃ m,200 - Z.length = m + 1 := ⟨199 - Z.length,by omega⟩
   rw [hm,readR_succ s m Z.length (totR Z)] at hR
   generalize hat0 : totR Z = at_ at *
   have hfin := fin10 Z at_
   have hu := ext_drop s at_
   generalize s.extract at_ s.size = u at *
   have hul : (s.data.toList.drop at_).length = s.size - at_ := by rw [List.length_drop];simp
   have stop : firstR u Z.length = none → readR s 200 0 0 = Z := fun h => by rw [hR,h,consR_none,List.append_nil]
   rcases idxB_spec (s.data.toList.drop at_) 0 with ⟨-,hno⟩ | ⟨x,b0,q,hx,hb0, -,hxn⟩
   ·-- no end of a row any more
    have hby : ∀ j,j < s.size - at_ → ∃ b : UInt8,s.data.toList[at_ + j]? = some b ∧ b.toNat ≠ 10 := fun j hj => by
     obtain ⟨b,hb⟩ := at_lt (s.data.toList.drop at_) j (by omega)
     refine ⟨b,by rw [← List.getElem?_drop];exact hb,hno b (List.mem_of_getElem? hb)⟩
    have hst := stop (firstR_none _ (by rw [hu];exact hno))
    refine Lp_ruleQ (P := fun μ a H => ∃ j,j + μ = s.size - at_ ∧ a = ⟨71,[(0,.v (.string s)),(2,.v (.slice none 0 0)),(3,.v (.int .i64 0)),(4,.v (.int .i64 0)),(11,.v (.bool false)),(5,slR Z 0),(6,.v (.int .i64 (at_ : Nat))),(14,.v (.bool true)),(7,.v (.int .i64 (at_ + j : Nat)))],[]⟩ ∧ H = h10 Z) ?_ (s.size - at_) _ _ ⟨0,by omega,rfl,rfl⟩
    rintro Q2 KK2 hQ2 hKK2 μ2 _ _ ⟨j,hj,rfl,rfl⟩
    cases μ2 with
    | succ μ2 =>
     obtain ⟨b,hb,hb10⟩ := hby j (by omega)
     have hsa := strAt_get hb
     have hl2 : ((at_ + j : Nat) : Int) < (s.size : Int) := by omega
     have hk0 : (0 : Int) ≤ ((at_ + j : Nat) : Int) := by omega
     have hne : ¬ ((b.toNat : Nat) : Int) = 10 := by omega
     have hw := wrap_succ (at_ + j) (by omega)
     simp -implicitDefEqProofs only [go_sem,↓reduceIte,Int.reduceEq,Int.reduceLT,Int.reduceLE,List.reduceReplicate,intA,setT_nil,setT_cons,hl2,hk0,Int.toNat_natCast,hsa,hne,hw,decide_true,decide_false,Bool.not_false,↓boolP_bool,↓iteB_true,↓iteB_false]
     exact Again.mk' μ2 (by omega) (hQ2 _ _ _ ⟨j + 1,by omega,rfl,rfl⟩)
    | zero =>
     obtain rfl : j = s.size - at_ := by omega
     have hl2 : ¬ ((at_ + (s.size - at_) : Nat) : Int) < (s.size : Int) := by omega
     have heq : ((at_ + (s.size - at_) : Nat) : Int) = (s.size : Int) := by omega
     simp -implicitDefEqProofs only [go_sem,↓reduceIte,Int.reduceEq,Int.reduceLT,Int.reduceLE,List.reduceReplicate,intA,setT_nil,setT_cons,hl2,↓boolP_bool,↓iteB_true,↓iteB_false]
     refine hKK2 _ _ _ ?_
     simp -implicitDefEqProofs only [go_sem,↓reduceIte,Int.reduceEq,Int.reduceLT,Int.reduceLE,List.reduceReplicate,intA,setT_nil,setT_cons,heq,decide_true,↓boolP_bool,↓iteB_true,↓iteB_false]
     refine hKK _ _ _ ?_
     simp -implicitDefEqProofs only [go_sem,↓reduceIte,Int.reduceEq,Int.reduceLT,Int.reduceLE,List.reduceReplicate,intA,setT_nil,setT_cons,↓boolP_bool,↓iteB_true,↓iteB_false]
     rw [hst,hat0]
     exact hfin
   ·-- a row ends
    have hb0' : b0 = 10 := UInt8.toNat_inj.1 (by rw [hb0];rfl)
    rw [hb0'] at hx
    have hxl : at_ + x.length + 1 ≤ s.size := by
     have := congrArg List.length hx
     rw [hul,List.length_append,List.length_cons] at this
     omega
    have hby : ∀ j,j < x.length → ∃ b : UInt8,s.data.toList[at_ + j]? = some b ∧ b.toNat ≠ 10 := fun j hj => by
     obtain ⟨b,hb⟩ := at_lt x j hj
     refine ⟨b,by rw [← List.getElem?_drop,hx,List.getElem?_append_left hj];exact hb,hxn b (List.mem_of_getElem? hb)⟩
    obtain ⟨hL,hRw⟩ := firstR_of (s := u) (by rw [hu];exact hx) hxn
    have hsrow : s.extract at_ (at_ + x.length - 3) = rowOf u := by
     refine ba_ext ?_
     rw [ext_data,hx,hRw,show at_ + x.length - 3 - at_ = x.length - 3 by omega,List.take_append_of_le_length (by omega)]
    have hsline : s.extract at_ (at_ + x.length + 1) = lineOf u := by
     refine ba_ext ?_
     rw [ext_data,hx,hL,show at_ + x.length + 1 - at_ = x.length + 1 by omega,show x ++ 10 :: q = (x ++ [10]) ++ q by simp,List.take_left' (by simp)]
    have hend : s.data.toList[at_ + x.length]? = some 10 := by rw [← List.getElem?_drop,hx,List.getElem?_append_right (Nat.le_refl _),Nat.sub_self];rfl
    refine Lp_ruleQ (P := fun μ a H => ∃ j,j + μ = x.length ∧ a = ⟨71,[(0,.v (.string s)),(2,.v (.slice none 0 0)),(3,.v (.int .i64 0)),(4,.v (.int .i64 0)),(11,.v (.bool false)),(5,slR Z 0),(6,.v (.int .i64 (at_ : Nat))),(14,.v (.bool true)),(7,.v (.int .i64 (at_ + j : Nat)))],[]⟩ ∧ H = h10 Z) ?_ (x.length) _ _ ⟨0,by omega,rfl,rfl⟩
    rintro Q2 KK2 hQ2 hKK2 μ2 _ _ ⟨j,hj,rfl,rfl⟩
    cases μ2 with
    | succ μ2 =>
     obtain ⟨b,hb,hb10⟩ := hby j (by omega)
     have hsa := strAt_get hb
     have hl2 : ((at_ + j : Nat) : Int) < (s.size : Int) := by omega
     have hk0 : (0 : Int) ≤ ((at_ + j : Nat) : Int) := by omega
     have hne : ¬ ((b.toNat : Nat) : Int) = 10 := by omega
     have hw := wrap_succ (at_ + j) (by omega)
     simp -implicitDefEqProofs only [go_sem,↓reduceIte,Int.reduceEq,Int.reduceLT,Int.reduceLE,List.reduceReplicate,intA,setT_nil,setT_cons,hl2,hk0,Int.toNat_natCast,hsa,hne,hw,decide_true,decide_false,Bool.not_false,↓boolP_bool,↓iteB_true,↓iteB_false]
     exact Again.mk' μ2 (by omega) (hQ2 _ _ _ ⟨j + 1,by omega,rfl,rfl⟩)
    | zero =>
     obtain rfl : j = x.length := by omega
     have hsa := strAt_get hend
     have hl2 : ((at_ + x.length : Nat) : Int) < (s.size : Int) := by omega
     have hk0 : (0 : Int) ≤ ((at_ + x.length : Nat) : Int) := by omega
     have hne : ¬ ((at_ + x.length : Nat) : Int) = (s.size : Int) := by omega
     have w1 : IntKind.i64.wrap (((at_ + x.length : Nat) : Int) - (at_ : Int)) = (x.length : Int) := by rw [wrap_in _ (by omega) (by omega)];omega
     simp -implicitDefEqProofs only [go_sem,↓reduceIte,Int.reduceEq,Int.reduceLT,Int.reduceLE,List.reduceReplicate,intA,setT_nil,setT_cons,hl2,hk0,Int.toNat_natCast,hsa,show (((10 : UInt8).toNat : Nat) : Int) = 10 from rfl,decide_true,decide_false,Bool.not_true,Bool.not_false,↓boolP_bool,↓iteB_true,↓iteB_false]
     refine hKK2 _ _ _ ?_
     by_cases h4 : x.length < 4
     ·have h4' : (x.length : Int) < 4 := by omega
      have hst := stop (by
       cases hf : firstR u Z.length with
       | none => rfl
       | some r =>
        obtain ⟨k1,k2,k3, -⟩ := firstR_some hf
        have k4 := congrArg ByteArray.size k3
        rw [lineB_size] at k4
        have k5 : (lineOf u).size = x.length + 1 := by rw [size_len,hL];simp
        have k6 := rowB_pos k2
        omega)
      simp -implicitDefEqProofs only [go_sem,↓reduceIte,Int.reduceEq,Int.reduceLT,Int.reduceLE,List.reduceReplicate,intA,setT_nil,setT_cons,hne,w1,h4',decide_true,decide_false,↓boolP_bool,↓iteB_true,↓iteB_false]
      refine hKK _ _ _ ?_
      simp -implicitDefEqProofs only [go_sem,↓reduceIte,Int.reduceEq,Int.reduceLT,Int.reduceLE,List.reduceReplicate,intA,setT_nil,setT_cons,↓boolP_bool,↓iteB_true,↓iteB_false]
      rw [hst,hat0]
      exact hfin
     ·have h4' : ¬ (x.length : Int) < 4 := by omega
      have w3 : IntKind.i64.wrap (((at_ + x.length : Nat) : Int) - 3) = ((at_ + x.length - 3 : Nat) : Int) := by rw [wrap_in _ (by omega) (by omega)];omega
      have w4 := wrap_succ (at_ + x.length) (by omega)
      have sl1 := fun H => slice_mi H s at_ (at_ + x.length - 3) (by omega) (by omega)
      have sl2 := slice_miI s at_ (at_ + x.length + 1) (by omega) (by omega)
      simp only [hsrow] at sl1
      rw [hsline] at sl2
      have hrsz : (rowOf u).size ≤ s.size := by rw [← hsrow,ByteArray.size_extract];omega
      have hrl : FitsR [rowOf u] := ⟨by simp,fun r hr => by
       rw [List.mem_singleton.1 hr];omega⟩
      have c38 := fun me d => (ans38 he [rowOf u] hrl (.vs 1 [.v (.string (rowOf u))] (some 1)) (Or.inr ⟨_,rfl⟩)).callI (me := me) (d := d) (ext_31 he) (pure_31 _ _ _) rfl
      rw [rows_one] at c38
      simp -implicitDefEqProofs only [go_sem,↓reduceIte,Int.reduceEq,Int.reduceLT,Int.reduceLE,List.reduceReplicate,intA,setT_nil,setT_cons,hne,w1,h4',w3,sl1,decide_true,decide_false,↓boolP_bool,↓iteB_true,↓iteB_false]
      refine wp_drawX [([],[],false),([],[],false),([],[1],false),([],[],false),([],[],false),([],[],false),([],[],false),([],[1],false),([],[1],false),([],[],false),([],[],false),([],[],false),([],[],false),([7,8],[1],false),([],[],false),([],[],false)] (by kernel_rfl) (by kernel_rfl) ?_
      have hf : firstR u Z.length = if rowB (rowOf u) && decide (lineOf u = lineB (rowOf u) Z.length) then some (rowOf u) else none := rfl
      cases hrb : rowB (rowOf u) with
      | false =>
       rw [hrb] at c38 hf
       have hst := stop (by rw [hf];rfl)
       simp -implicitDefEqProofs only [go_sem,↓reduceIte,Int.reduceEq,Int.reduceLT,Int.reduceLE,List.reduceReplicate,intA,setT_nil,setT_cons,c38,set10,Bool.not_false,Bool.not_true,↓boolP_bool,↓iteB_true,↓iteB_false]
       refine hKK _ _ _ ?_
       simp -implicitDefEqProofs only [go_sem,↓reduceIte,Int.reduceEq,Int.reduceLT,Int.reduceLE,List.reduceReplicate,intA,setT_nil,setT_cons,↓boolP_bool,↓iteB_true,↓iteB_false]
       rw [hst,hat0]
       exact hfin
      | true =>
       have hrp := rowB_hi hrb
       have hrq := rowB_pos hrb
       have c32 := fun me d => (ansP32 he (rowOf u) (by omega) Z.length (by omega)).callI (me := me) (d := d) (ext_32 he) (pure_32 _ _ _) rfl
       rw [hrb,Bool.true_and] at hf
       rw [hrb] at c38
       by_cases hq : lineOf u = lineB (rowOf u) Z.length
       ·skip
        have hd : decide (lineB (rowOf u) Z.length = lineOf u) = true := decide_eq_true hq.symm
        rw [if_pos (decide_eq_true hq)] at hf
        simp -implicitDefEqProofs only [go_sem,↓reduceIte,Int.reduceEq,Int.reduceLT,Int.reduceLE,List.reduceReplicate,intA,setT_nil,setT_cons,c38,len10,c32,set10,w4,sl2,hd,Bool.not_false,Bool.not_true,↓boolP_bool,↓iteB_true,↓iteB_false]
        have hfl : (List.flatMap AV.cells [AV.v (.string (rowOf u))]).all AV.flat = true := rfl
        have hfc : List.flatMap AV.cells [AV.v (.string (rowOf u))] = [AV.v (.string (rowOf u))] := rfl
        have hbd : 1 ≤ boundL [AV.v (.string s),.v (.slice none 0 0),.v (.int .i64 0),.v (.int .i64 0),.v (.bool false),slR (Z ++ [rowOf u]) 0,.v (.int .i64 (at_ + x.length + 1 : Nat))] := by
         have := slR_bound Z (rowOf u)
         exact Nat.le_trans this (bound_mem (by simp))
        rw [hfl,hfc,appE10 Z (rowOf u) (by omega)]
        simp -implicitDefEqProofs only [go_sem,↓reduceIte,Int.reduceEq,Int.reduceLT,Int.reduceLE,List.reduceReplicate,intA,setT_nil,setT_cons,setA10,trim10 _ _ _ _ hbd,↓boolP_bool,↓iteB_true,↓iteB_false]
        have hrs : (rowOf u).size + 4 = x.length + 1 := by rw [size_len,hRw,List.length_take];omega
        have htot : totR (Z ++ [rowOf u]) = at_ + x.length + 1 := by
         rw [totR_app,hat0]
         show at_ + ((rowOf u).size + 4 + 0) = _
         omega
        refine Again.mk' μ (by omega) (hQ _ _ _ ⟨Z ++ [rowOf u],by simp;omega, ?_,by omega,by rw [htot];rfl,rfl⟩)
        rw [htot,hR,hf,consR_some,List.append_assoc,hrs]
        simp only [List.length_append,List.length_singleton]
        rw [show 200 - (Z.length + 1) = m by omega]
        rfl
       ·have hst := stop (by rw [hf,if_neg (by rw [decide_eq_false hq];exact Bool.false_ne_true)])
        have hd : decide (lineB (rowOf u) Z.length = lineOf u) = false := decide_eq_false fun h => hq h.symm
        simp -implicitDefEqProofs only [go_sem,↓reduceIte,Int.reduceEq,Int.reduceLT,Int.reduceLE,List.reduceReplicate,intA,setT_nil,setT_cons,c38,len10,c32,set10,w4,sl2,hd,Bool.not_false,Bool.not_true,↓boolP_bool,↓iteB_true,↓iteB_false]
        refine hKK _ _ _ ?_
        simp -implicitDefEqProofs only [go_sem,↓reduceIte,Int.reduceEq,Int.reduceLT,Int.reduceLE,List.reduceReplicate,intA,setT_nil,setT_cons,↓boolP_bool,↓iteB_true,↓iteB_false]
        rw [hst,hat0]
        exact hfin
end Go.Ev
namespace Go.Ev
open Go.Proofs Go.Shelf Go.RowKit
theorem lay_cc240 {P : Program} {ρn : Ren} (L : Lays.n240 P ρn) (X : Builder.X72 P ρn) {f : FuncId} (hf : ρn.f 240 = f) (hbody : HasBody P f) {args : List AV} {H H' : Heap} {v : AV} (h : ccA (ρn.t 72) args H = some (v,H')) : MeetsCall P f args H v H' := by
 subst hf
 refine ⟨hbody,fun Z ρ w vals hs hl => ?_⟩
 unfold ccA at h
 split at h
 ·rename_i b ver
  obtain ⟨x,ws,rfl,hx,hl⟩ := hl.uncons
  have : ws = [] := List.length_eq_zero_iff.1 hl.1.symm
  subst this
  cases hx with
  | ptr hp =>
  rename_i pl
  split at h
  ·rename_i m e sz y hrow
   split at h
   ·rename_i he
    subst he
    simp only [Option.map_eq_some_iff,Prod.mk.injEq] at h
    obtain ⟨H2,hst,rfl,rfl⟩ := h
    obtain ⟨pl1,arr,e',h1,h2,h3,h3b,h3c,h4,pre,vs,post,h5,h6,h7,h7b,h8⟩ := hs.row hrow
    rw [hp] at h1;cases h1
    obtain rfl := hs.rowE hrow hp h2
    have hb0 := hs.row0 hrow hp
    have hpre : pre = [] := List.length_eq_zero_iff.1 (h6.trans hb0)
    have hpost := h7b rfl
    subst hpre hpost
    obtain ⟨z0,us,rfl,hz0,h8⟩ := h8.uncons
    obtain ⟨z1,us,rfl,hz1,h8⟩ := h8.uncons
    have : us = [] := List.length_eq_zero_iff.1 h8.1.symm
    subst this
    obtain ⟨rfl, -⟩ := hz0.v_inv
    have harr : arr = #[.pointer none,z1] := by
     apply Array.toList_inj.1
     rw [h5];rfl
    subst harr
    obtain ⟨w1,Z1,ρ1,r1,s1,x1⟩ := cells_does (P := P) hs hp (k := 0) (xs := [.ptr b ver 0]) (ys := [.pointer (some ⟨pl.blk,pl.base + 0,none⟩)]) ⟨rfl,fun i c v hc hv => by
     cases i with
     | zero => simp at hc hv;subst hc hv;exact .ptr hp
     | succ i => simp at hc⟩ hst
    have hfr := Any.Builder_copyCheck_fresh L X pl.blk w (by simp [World.cell?,h2]) (by simp [World.shape?,h2]) (by simp [World.frozen?,h2])
    rw [hb0]
    refine Calls.mono' hfr ?_
    rintro e w' ⟨rfl,rfl⟩
    rw [hb0] at r1
    have hw : w1 = w.setCell ⟨pl.blk,0,none⟩ (.pointer (some ⟨pl.blk,0,none⟩)) := by
     have hrun := run_storeCells_at P pl.blk 0 (ρn.t 72) [.pointer (some ⟨pl.blk,0,none⟩)] 0 #[.pointer none,z1] w h2 (by simp) (fun y hy => by simp at hy;subst hy;rfl)
     rw [show (0 : Nat) + 0 = 0 from rfl] at r1
     rw [r1] at hrun
     simp only [Result.ok.injEq,true_and] at hrun
     rw [hrun]
     unfold World.setRow World.setCell
     congr 1
     refine Array.ext_getElem? fun k => ?_
     rw [Array.getElem?_modify,Array.getElem?_modify]
     split
     ·rename_i hk;subst hk
      rw [h2];rfl
     ·rfl
    rw [← hw]
    exact ⟨_,rfl,Z1,ρ1,.tup (cs := []) (vs := []) rfl (fun i c v h => by simp at h),s1,x1⟩
   ·cases h
  ·rename_i m e sz b' v' y hrow
   split at h
   ·rename_i he
    obtain ⟨rfl,rfl⟩ := he
    simp only [Option.some.injEq,Prod.mk.injEq] at h
    obtain ⟨rfl,rfl⟩ := h
    obtain ⟨pl1,arr,e',h1,h2,h3,h3b,h3c,h4,pre,vs,post,h5,h6,h7,h7b,h8⟩ := hs.row hrow
    rw [hp] at h1;cases h1
    have hb0 := hs.row0 hrow hp
    have hpre : pre = [] := List.length_eq_zero_iff.1 (h6.trans hb0)
    have hpost := h7b rfl
    subst hpre hpost
    obtain ⟨z0,us,rfl,hz0,h8⟩ := h8.uncons
    cases hz0 with
    | ptr hp2 =>
    rename_i pl2
    rw [hp] at hp2;cases hp2
    have hus := Any.Builder_copyCheck_used L X pl.blk w (by
     have := cell_at (w := w) h2 h5 (k := 0) (x := .pointer (some ⟨pl.blk,pl.base + 0,none⟩)) rfl
     rw [hb0] at this
     exact this)
    rw [hb0]
    refine Calls.mono' hus ?_
    rintro e w' ⟨rfl,rfl⟩
    exact ⟨_,rfl,Z,ρ,.tup (cs := []) (vs := []) rfl (fun i c v h => by simp at h),hs,Ext.refl _ _ _ _⟩
   ·cases h
  ·cases h
 ·cases h
def ren240 : Go.Shelf.Ren := ⟨fun | 240 => 47 | 276 => 58 | n => n,fun | 70 => 62 | 72 => 65 | 37 => 63 | 164 => 105 | n => n,fun | n => n⟩
theorem lays240 : Go.Proofs.Lays.n240 Try.prog ren240 := {
 mixed := by kernel_rfl
 f240 := Try.func47.trans (congrArg some (by kernel_rfl))
 f276 := Try.func58.trans (congrArg some (by kernel_rfl))
 t0 := Try.underlying0
 a0 := Try.isAgg0
 z0 := Try.sizeOf0
 v0 := Try.zeroValue0
 t4 := Try.underlying4
 a4 := Try.isAgg4
 z4 := Try.sizeOf4
 v4 := Try.zeroValue4
 t9 := Try.underlying9
 a9 := Try.isAgg9
 z9 := Try.sizeOf9
 v9 := Try.zeroValue9
 t20 := Try.underlying20
 a20 := Try.isAgg20
 z20 := Try.sizeOf20
 v20 := Try.zeroValue20
 t70 := Try.underlying62
 a70 := Try.isAgg62
 z70 := Try.sizeOf62
 v70 := Try.zeroValue62
 t72 := Try.underlying65
 a72 := Try.isAgg65
 z72 := Try.sizeOf65
 v72 := Try.zeroValue65
 t164 := Try.underlying105
 a164 := Try.isAgg105
 z164 := Try.sizeOf105
 v164 := Try.zeroValue105 }
theorem x72 : Builder.X72 Try.prog ren240 := { sizeBuilder := by kernel_rfl,liesBuilder := by kernel_rfl }
noncomputable def eN : Exts := ⟨fun _ => none⟩
theorem extOKN0 : ExtOK { Cx eN with lay := fun _ => none } := ⟨fun _ _ h => (nomatch h),fun _ _ h => (nomatch h),fun _ _ h => (nomatch h)⟩
theorem extOKN : ExtOK (Cx eN) := by
 refine extOK_lay (C := { Cx eN with lay := fun _ => none }) (f := 47) (g := ccA 65) rfl ?_ extOKN0 rfl rfl rfl
 intro args H v H' h
 exact lay_cc240 lays240 x72 (f := 47) rfl ⟨_,Try.func47,by kernel_rfl,by kernel_rfl⟩ h
noncomputable def eA : Exts := eN.more 63 idxStr
theorem extOKA : ExtOK (Cx eA) := by
 refine extOK_more (C := Cx eN) (f := 63) (g := idxStr) rfl ?_ extOKN rfl
 intro args v h Z ρ H w vals hs hl
 exact ext_idx (fn := Try.f63) Try.func63 (by kernel_rfl) (by kernel_rfl) (by kernel_rfl) (by kernel_rfl) h Z ρ H w vals hs hl
theorem quietA : Quiet eA := by
 intro f h1 h2 h3 h4
 show (if Nat.beq f 63 then _ else none) = none
 rw [if_neg (fun h => h4 (Nat.eq_of_beq_eq_true h))]
theorem eA63 : eA.x 63 = some idxStr := rfl
end Go.Ev
namespace Go.Ev
open Go.Proofs
attribute [local irreducible] Wp WpS
def rowO (l : List ByteArray) : AObj := .cells 0 0 9 1 true (strs l)
theorem strs_flat (l : List ByteArray) : (strs l).all AV.flat = true := by
 refine List.all_eq_true.2 fun x hx => ?_
 obtain ⟨s, -,rfl⟩ := List.mem_map.1 hx;rfl
theorem strs_cells (l : List ByteArray) : (strs l).flatMap AV.cells = strs l := by
 unfold strs
 induction l with
 | nil => rfl
 | cons a r ih => simp only [List.map_cons,List.flatMap_cons,ih];rfl
theorem appE1 (H : Heap) (slot : Nat) (l : List ByteArray) (_h0 : 0 < l.length) (hf : fitsA 16 l.length = true) : appTo 9 1 16 H slot l.length (strs l) (.vs 1 [] (some 0)) = some (.sl slot 0 0 l.length none,H.put slot (rowO l)) := by
 unfold appTo rowO
 simp only [List.length_nil,Nat.zero_add,if_true,hf,List.flatMap_nil,List.all_nil,Bool.and_true,List.nil_append]
 rw [if_neg (by simp),if_neg (by omega),show Nat.max (boundL []) (boundL (strs l)) = 0 by rw [strs_bd];rfl]
theorem frzAt (l : List (Option AObj)) (b : List ByteArray) (_h0 : 0 < b.length) : freezeV ⟨l ++ [some (rowO b)],l.length⟩ 1000000 (.sl l.length 0 0 b.length none) = some (.vs 1 (strs b) none) := by
 have hr : (⟨l ++ [some (rowO b)],l.length⟩ : Heap).row l.length 0 = some (0,9,1,true,strs b) := by
  unfold Heap.row Heap.get rowO;simp
 show freezeV _ (999999 + 1) _ = _
 unfold freezeV
 simp only [hr]
 rw [if_neg (Nat.lt_irrefl _),if_pos ⟨by rw [strs_len];omega,by omega⟩,if_pos trivial,List.drop_zero,Nat.mul_one,List.take_of_length_le (by rw [strs_len];exact Nat.le_refl _),← strs_len b,chunk1]
def cpyV (a : List ByteArray) : AV := if a = [] then .vs 1 [] (some 0) else .vs 1 (strs a) none
theorem cpyV_of (a : List ByteArray) : SlOf 1 (strs a) (cpyV a) := by
 unfold cpyV
 split
 ·rename_i h;rw [h];exact Or.inr ⟨_,rfl⟩
 ·exact Or.inr ⟨_,rfl⟩
theorem cpyF (a : List ByteArray) (ha : a.length ≤ 100000) (x : AV) (hx : SlOf 1 (strs a) x) (l : List (Option AObj)) (K : PostO) (hK : AtO K (cpyV a) ⟨l,0⟩) : bindO (appG 9 1 16 ⟨l,l.length⟩ l.length (.vs 1 [] (some 0)) (cellsFrom ⟨l,l.length⟩ 1 x)) fun v => AtO (frzO ⟨l,0⟩ K) v.1 v.2 := by
 by_cases h0 : a = []
 ·have hx3 : ∀ H,cellsFrom H 1 x = some (0,[]) := by
   intro H
   subst h0
   rcases hx with ⟨rfl, -⟩ | ⟨cap,rfl⟩ <;> rfl
  unfold cpyV at hK
  rw [if_pos h0] at hK
  rw [hx3]
  exact hK
 ·obtain ⟨cap,rfl⟩ : ∃ cap,x = .vs 1 (strs a) cap := by
   rcases hx with ⟨-,h⟩ | h
   ·exact absurd (by cases a with | nil => rfl | cons z l => exact nomatch h) h0
   ·exact h
  have hl0 : 0 < a.length := List.length_pos_iff.2 h0
  have hf : fitsA 16 a.length = true := by unfold fitsA;exact decide_eq_true (by omega)
  unfold cpyV at hK
  rw [if_neg h0] at hK
  have hc : cellsFrom ⟨l,l.length⟩ 1 (.vs 1 (strs a) cap) = some (a.length,strs a) := by
   show (if 1 = 1 then some ((strs a).length,(strs a).flatMap AV.cells) else none) = _
   rw [if_pos rfl,strs_len,strs_cells]
  rw [hc]
  have ha : appG 9 1 16 ⟨l,l.length⟩ l.length (.vs 1 [] (some 0)) (some (a.length,strs a)) = some (.sl l.length 0 0 a.length none,⟨l ++ [some (rowO a)],l.length⟩) := by
   unfold appG
   simp only [strs_flat]
   have hp : (⟨l,l.length⟩ : Heap).put l.length (rowO a) = ⟨l ++ [some (rowO a)],l.length⟩ := by
    unfold Heap.put
    congr 1
    clear hK hc
    induction l with
    | nil => rfl
    | cons o r ih => show o :: setOrPush _ r.length r = _;rw [ih];rfl
   rw [← hp]
   exact appE1 _ _ a hl0 hf
  rw [ha]
  show bindO (freezeV ⟨l ++ [some (rowO a)],l.length⟩ 1000000 (.sl l.length 0 0 a.length none)) fun v => AtO K v ⟨l,0⟩
  rw [frzAt l a hl0]
  exact hK
theorem ansP12 {e : Exts} (he : Quiet e) (l : List ByteArray) (hf : FitsR l) (x : AV) (hx : SlOf 1 (strs l) x) : Ans (Cx e) 12 [x] (.v (.int .i64 (if rowsB l then 0 else 110))) := by
 have c38 := fun me d H => call38 he l hf x hx me d H
 unfold Ans
 rw [fn_step (fn_12 e) (show Try.f12.body = some _ from rfl)]
 cases h : rowsB l <;> rw [h] at c38
 ·simp -implicitDefEqProofs only [Try.f12,go_sem,↓reduceIte,Int.reduceEq,Int.reduceLT,Int.reduceLE,List.reduceReplicate,intA,setT_nil,setT_cons,hx.cells,hx.flat,hx.bound,c38,Bool.not_false,Bool.false_eq_true,if_false,↓boolP_bool,↓iteB_true,↓iteB_false]
 ·simp -implicitDefEqProofs only [Try.f12,go_sem,↓reduceIte,Int.reduceEq,Int.reduceLT,Int.reduceLE,List.reduceReplicate,intA,setT_nil,setT_cons,hx.cells,hx.flat,hx.bound,c38,Bool.not_true,if_true,↓boolP_bool,↓iteB_true,↓iteB_false]
theorem writeV_is (l : List ByteArray) : ∃ w n,writeV l = .tup [.v (.string w),.v (.int .i64 n)] := by
 unfold writeV
 split
 ·split <;> exact ⟨_,_,rfl⟩
 ·exact ⟨_,_,rfl⟩
theorem readV_is (t : ByteArray) : ∃ y n k L,readV t = .tup [y,.v (.int .i64 n),.v (.int .i64 k)] ∧ SlOf 1 (strs L) y ∧ L.length < 2 ^ 63 := by
 unfold readV
 split
 ·exact ⟨_,_,_,[],rfl,Or.inl ⟨rfl,rfl⟩,by decide⟩
 ·have hl := readR_len t 200 0 0
  generalize readR t 200 0 0 = L at *
  cases L with
  | nil => exact ⟨_,_,_,[],rfl,Or.inl ⟨rfl,rfl⟩,by decide⟩
  | cons z Z => exact ⟨_,_,_,z :: Z,rfl,Or.inr ⟨_,rfl⟩,by omega⟩
theorem ansP3 (l : List ByteArray) (hl : FitsR l) (x : AV) (hx : SlOf 1 (strs l) x) (s : ByteArray) : Ans (Cx eA) 3 [x,.v (.string s)] (.v (.bool true)) := by
 have he := quietA
 have c55 := fun me d H => call55 he l hl x hx me d H
 unfold Ans
 rw [fn_step (fn_3 eA) (show Try.f3.body = some _ from rfl)]
 cases hb : bigR l with
 | true =>
  rw [hb] at c55
  simp -implicitDefEqProofs only [Try.f3,go_sem,↓reduceIte,Int.reduceEq,Int.reduceLT,Int.reduceLE,List.reduceReplicate,intA,setT_nil,setT_cons,c55,hx.cells,hx.flat,hx.bound,↓boolP_bool,↓iteB_true,↓iteB_false]
 | false =>
  rw [hb] at c55
  by_cases hs : (s.size : Int) > 40000
  ·simp -implicitDefEqProofs only [Try.f3,go_sem,↓reduceIte,Int.reduceEq,Int.reduceLT,Int.reduceLE,List.reduceReplicate,intA,setT_nil,setT_cons,c55,hs,hx.cells,hx.flat,hx.bound,decide_true,↓boolP_bool,↓iteB_true,↓iteB_false]
  ·have h250 : l.length ≤ 100000 := by
    unfold bigR at hb
    rw [Bool.or_eq_false_iff,decide_eq_false_iff_not] at hb
    omega
   simp -implicitDefEqProofs only [Try.f3,go_sem,↓reduceIte,Int.reduceEq,Int.reduceLT,Int.reduceLE,List.reduceReplicate,intA,setT_nil,setT_cons,c55,hs,hx.cells,hx.flat,hx.bound,decide_false,↓boolP_bool,↓iteB_true,↓iteB_false]
   refine cpyF l h250 x hx [] _ ?_
   have hx2 := cpyV_of l
   generalize cpyV l = x2 at *
   obtain ⟨w,n,hw⟩ := writeV_is l
   obtain ⟨y,m,k,L,hr,hy,hL⟩ := readV_is s
   have c13 := fun me d H => call13 he l hl x2 hx2 me d H
   have c8 := fun me d H => (ansP8 he l hl x hx).call (me := me) (d := d) (ext_8 he) (pure_8 _ _ _) (by rw [boundL_cons,hx.bound];rfl) H
   have c14 := fun me d H => call14 he eA63 s (by omega) me d H
   have c10 := fun me d H => (ansP10 he s (by omega)).call (me := me) (d := d) (ext_10 he) (pure_10 _ _ _) rfl H
   have c39 := fun me d H => call39 he l hl x2 hx2 me d H
   have c12 := fun me d H => (ansP12 he l hl x hx).call (me := me) (d := d) (ext_12 he) (pure_12 _ _ _) (by rw [boundL_cons,hx.bound];rfl) H
   have c15a := fun me d H => call15 he L L hL y y hy hy me d H
   have c15b := fun me d H => call15 he l l hl.1 x2 x hx2 hx me d H
   rw [decide_eq_true rfl] at c15a c15b
   rw [hw] at c13 c8
   rw [hr] at c14 c10
   simp -implicitDefEqProofs only [go_sem,↓reduceIte,Int.reduceEq,Int.reduceLT,Int.reduceLE,List.reduceReplicate,intA,setT_nil,setT_cons,c13,c8,c14,c10,c39,c12,c15a,c15b,hx.cells,hx.flat,hx.bound,hx2.cells,hx2.flat,hx2.bound,hy.cells,hy.flat,hy.bound,decide_true,↓boolP_bool,↓iteB_true,↓iteB_false]
theorem str_arg {N : Nat} {x : AV} (h : Arg Try.prog (N + 1) 9 x) : ∃ s : ByteArray,x = .v (.string s) := by
 unfold Arg at h
 have hu : Try.prog.underlying 9 = some .string := by kernel_rfl
 rw [hu] at h
 obtain ⟨s,hs, -⟩ := plain_string hu h
 simp only [List.cons.injEq,and_true] at hs
 exact ⟨s,hs⟩
end Go.Ev
