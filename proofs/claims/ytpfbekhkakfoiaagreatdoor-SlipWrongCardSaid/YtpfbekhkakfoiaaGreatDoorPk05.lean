/- What the proof of this claim stands on, part 6: an evaluator of the model, proved right, and what it answers for functions of the program. -/
import Derived.Test.YtpfbekhkakfoiaaGreatDoorPk04
import Derived.Lib.LaidTab
set_option maxHeartbeats 8000000
set_option maxRecDepth 1000000
set_option linter.unusedSimpArgs false
namespace Go.Ev
open Go.Proofs
attribute [local irreducible] Wp WpS
theorem nb4 (x y : Operand) (a b : Bool) : binA Tryz.prog .neq 4 x y (.v (.bool a)) (.v (.bool b)) = some (.v (.bool (a != b))) := by
 cases a <;> cases b <;> kernel_rfl
theorem smS_of {x : Sl} (h : greatB x = false) : smS x := by
 unfold greatB at h
 rw [Bool.or_eq_false_iff,Bool.or_eq_false_iff,decide_eq_false_iff_not,decide_eq_false_iff_not,decide_eq_false_iff_not] at h
 unfold smS
 omega
theorem ansS14 (t : Txt) (ht : Fits t) (ch : AV) (xs : List AV) (hch : SlOf 2 xs ch) (hall : All2 ChapA t xs) (w sd : Int) (hsd : 0 ≤ sd) (hsd2 : sd < 256) (x : Sl) : Ans (Cx eA) 14 [.agg [ch],.agg [intA w,.v (.int .u8 sd)],slA x] (.v (.bool true)) := by
 have he := quietA
 have b0 : boundL [AV.agg [ch],.agg [intA w,.v (.int .u8 sd)]] = 0 := by simp only [boundL_cons,bound_agg,hch.bound,boundL_nil];rfl
 have h42 := fun me d H => (ansS42 he t ht ch xs hch hall w sd hsd hsd2).call (me := me) (d := d) (ext_42 he) (pure_42 _ _ _) b0 H
 have c16 := fun me d H => (ansS16 (e := eA) x).call (me := me) (d := d) (ext_16 he) (pure_16 _ _ _) rfl H
 unfold intA at h42
 have hsl : slA x = .agg [.v (.int .i64 x.1.1),.v (.int .i64 x.1.2.1),.v (.int .i64 x.1.2.2),.v (.string x.2.1),.v (.string x.2.2.1),.v (.string x.2.2.2)] := rfl
 rw [hsl] at c16
 unfold Ans
 rw [fn_step (fn_14 eA) (show Tryz.f14.body = some _ from rfl),hsl]
 cases hr : (!greatT t && textB t && cutB w sd)
 ·rw [hr] at h42
  simp -implicitDefEqProofs only [Tryz.f14,go_sem,↓reduceIte,Int.reduceEq,Int.reduceLT,Int.reduceLE,List.reduceReplicate,intA,setT_nil,setT_cons,hch.cells,hch.flat,hch.bound,call31,h42,Bool.not_false,↓boolP_bool,↓iteB_true,↓iteB_false]
 rw [hr] at h42
 cases hg : greatB x
 rotate_left
 ·rw [hg] at c16
  simp -implicitDefEqProofs only [Tryz.f14,go_sem,↓reduceIte,Int.reduceEq,Int.reduceLT,Int.reduceLE,List.reduceReplicate,intA,setT_nil,setT_cons,hch.cells,hch.flat,hch.bound,call31,h42,c16,Bool.not_false,Bool.not_true,↓boolP_bool,↓iteB_true,↓iteB_false]
 rw [hg] at c16
 have hsm := smS_of hg
 have c48 := fun me d H => (ansS48A he x hsm).call (me := me) (d := d) (ext_48 he) (pure_48 _ _ _) rfl H
 rw [hsl] at c48
 cases hok : okS x
 ·rw [hok] at c48
  simp -implicitDefEqProofs only [Tryz.f14,go_sem,↓reduceIte,Int.reduceEq,Int.reduceLT,Int.reduceLE,List.reduceReplicate,intA,setT_nil,setT_cons,hch.cells,hch.flat,hch.bound,call31,h42,c16,c48,Bool.not_false,Bool.not_true,↓boolP_bool,↓iteB_true,↓iteB_false]
 rw [hok] at c48
 simp only [Bool.and_eq_true,Bool.not_eq_true'] at hr
 obtain ⟨⟨hgt,hT⟩,hcut⟩ := hr
 obtain ⟨w,rfl⟩ : ∃ w' : Nat,w = w' := ⟨w.toNat,by unfold cutB inB at hcut;simp at hcut;omega⟩
 obtain ⟨sd,rfl⟩ : ∃ s' : Nat,sd = s' := ⟨sd.toNat,by omega⟩
 have hcw : 12 ≤ w ∧ w ≤ 80 ∧ 1 ≤ sd ∧ sd ≤ 3 := by unfold cutB inB at hcut;simp at hcut;omega
 obtain ⟨w1,w2,w3,w4⟩ := hcw
 have a21 := ansS21 he eA197 eA107 t ht ch xs hch hall hT x hsm hok
 have c21 := fun me d H => a21.call (me := me) (d := d) (ext_21 he) (pure_21 _ _ _) (by simp only [boundL_cons,bound_agg,hch.bound,boundL_nil];rfl) H
 rw [hsl] at c21
 have c62 := fun me d H => call17 he t ht ch xs hch hall x.1.1 x.1.2.1 x.1.2.2 me d H
 unfold intA at c62
 have b3 : boundL [AV.agg [ch],.agg [intA w,.v (.int .u8 sd)],slA x] = 0 := by simp only [boundL_cons,bound_agg,hch.bound,boundL_nil];rfl
 have b4 : boundL [AV.agg [ch],.agg [intA w,.v (.int .u8 sd)],.agg [intA x.1.1,intA x.1.2.1,intA x.1.2.2]] = 0 := by simp only [boundL_cons,bound_agg,hch.bound,boundL_nil];rfl
 have hS := slG_of (whT x 0 t)
 have hpl := whT_pl x t 0
 cases hp : placeB' t x.1.1 x.1.2.1 x.1.2.2
 ·have c19 := fun me d H => (ansS19F he eA197 t ht hT ch xs hch hall w sd w1 w2 w3 w4 x hsm hok hp).call (me := me) (d := d) (ext_19 he) (pure_19 _ _ _) b3 H
  have c37 := fun me d H => (ansS37F he t ht hT ch xs hch hall w sd w1 w2 w3 w4 _ _ _ hp).call (me := me) (d := d) (ext_37 he) (pure_37 _ _ _) b4 H
  rw [hsl] at c19
  unfold intA slZ at c37
  unfold intA at c19
  rw [hp] at c62
  simp -implicitDefEqProofs only [Tryz.f14,go_sem,↓reduceIte,Int.reduceEq,Int.reduceLT,Int.reduceLE,List.reduceReplicate,intA,setT_nil,setT_cons,hch.cells,hch.flat,hch.bound,call31,h42,c16,c48,c19,c37,c21,c62,hS.cells,hS.flat,hS.bound,nb4,bne_self_eq_false,Bool.not_false,Bool.not_true,↓boolP_bool,↓iteB_true,↓iteB_false]
 rw [hp] at c62
 obtain ⟨a,b,c,cp,ln,s,e1,e2,e3,hc,hl,hs⟩ := place_nat hp
 obtain ⟨⟨p1,p2,p3⟩,u,bf,af⟩ := x
 simp only at e1 e2 e3
 subst e1 e2 e3
 have a19 := ansS19 he eA197 eAj t ht hT ch xs hch hall w sd w1 w2 w3 w4 a b c cp hc ln hl s hs (u,bf,af) hsm hok
 have a37 := ansS37 he eAj t ht hT ch xs hch hall w sd w1 w2 w3 w4 a b c cp hc ln hl s hs
 rw [mkV_eq] at a37
 have hww := fun h => where_word (x := (((a : Int),(b : Int),(c : Int)),u,bf,af)) hc hl hs h
 have hwo := where_own hT hc hl hs w sd w1 ((a : Int),(b : Int),(c : Int))
 have c19 := fun me d H => a19.call (me := me) (d := d) (ext_19 he) (pure_19 _ _ _) b3 H
 have c37 := fun me d H => a37.call (me := me) (d := d) (ext_37 he) (pure_37 _ _ _) b4 H
 rw [hsl] at c19
 unfold intA at c37 c19
 unfold wrongN at c19
 simp only at c19 c62 c21 c48 c16 hww
 generalize mkB a cp.2 b c w sd = B at *
 generalize mkA a cp.2 b c w sd = A at *
 simp -implicitDefEqProofs only [Tryz.f14,go_sem,↓reduceIte,Int.reduceEq,Int.reduceLT,Int.reduceLE,List.reduceReplicate,intA,setT_nil,setT_cons,hch.cells,hch.flat,hch.bound,call31,h42,c16,c48,c19,c37,c21,c62,hS.cells,hS.flat,hS.bound,hS.len,nb4,bne_self_eq_false,Bool.not_false,Bool.not_true,decide_true,↓boolP_bool,↓iteB_true,↓iteB_false]
 obtain ⟨k8,hk8⟩ : ∃ k8 : Nat,(if u = s then (if bf = B then (if af = A then 0 else 4) else 3) else 2) = k8 := ⟨_,rfl⟩
 rw [hk8]
 have hwo2 : u = s → bf = B → af = A → plV a b c ∈ whT (((a : Int),(b : Int),(c : Int)),u,bf,af) 0 t := fun h1 h2 h3 => by rw [h1,h2,h3];exact hwo
 clear hwo
 have hLb : (whT (((a : Int),(b : Int),(c : Int)),u,bf,af) 0 t).length ≤ 10000 := by
  have := whT_len (((a : Int),(b : Int),(c : Int)),u,bf,af) (small_of hT) t.length
  rwa [List.take_length] at this
 have i0 : ((0 : Nat) : Int) = 0 := rfl
 have i2 : ((2 : Nat) : Int) = 2 := rfl
 have i3 : ((3 : Nat) : Int) = 3 := rfl
 have i4 : ((4 : Nat) : Int) = 4 := rfl
 generalize whT (((a : Int),(b : Int),(c : Int)),u,bf,af) 0 t = L at *
 refine Lp_ruleQ (P := fun μ act H => ∃ (j : Nat) (q : Bool),j + μ = L.length ∧ (q = true ↔ plV a b c ∈ L.take j) ∧ act = ⟨164,[(0,.agg [ch]),(1,.agg [.v (.int .i64 w),.v (.int .u8 sd)]),(2,.agg [.v (.int .i64 a),.v (.int .i64 b),.v (.int .i64 c),.v (.string u),.v (.string bf),.v (.string af)]),(3,.ptr 0 0 0),(4,.ptr 1 0 0),(5,.ptr 2 0 0),(6,.v (.bool false)),(7,.v (.bool true)),(34,.v (.bool false)),(8,.v (.int .u8 k8)),(9,.v (.int .i64 0)),(10,.ptr 3 0 0),(11,.v (.int .i64 0)),(12,slG L),(13,.v (.int .i64 0)),(71,.v (.bool false)),(73,.v (.bool false)),(14,.v (.bool q)),(83,slG L),(84,intA L.length),(85,intA j)],[]⟩ ∧ H = ⟨[some (.cells 0 0 24 1 false [ch]),some (.cells 0 0 26 1 false [.v (.int .i64 w),.v (.int .u8 sd)]),some (.cells 0 0 30 1 false [.v (.int .i64 a),.v (.int .i64 b),.v (.int .i64 c),.v (.string u),.v (.string bf),.v (.string af)]),some (.cells 0 0 30 1 false [.v (.int .i64 a),.v (.int .i64 b),.v (.int .i64 c),.v (.string s),.v (.string B),.v (.string A)])],0⟩) ?_ L.length _ _ ⟨0,false,by omega,by simp,rfl,rfl⟩
 rintro Q KK hQ hKK μ _ _ ⟨j,q,hj,hq,rfl,rfl⟩
 cases μ with
 | zero =>
  obtain rfl : j = L.length := by omega
  have hnj : ¬ (L.length : Int) < (L.length : Int) := by omega
  rw [List.take_length] at hq
  simp -implicitDefEqProofs only [go_sem,↓reduceIte,Int.reduceEq,Int.reduceLT,Int.reduceLE,List.reduceReplicate,intA,setT_nil,setT_cons,hnj,↓boolP_bool,↓iteB_true,↓iteB_false]
  refine hKK _ _ _ ?_
  by_cases k1 : u = s
  ·rw [if_pos k1] at hk8
   have k1' : s = u := k1.symm
   by_cases k2 : bf = B
   ·rw [if_pos k2] at hk8
    have k2' : B = bf := k2.symm
    by_cases k3 : af = A
    ·rw [if_pos k3] at hk8
     have hqt : q = true := hq.2 (hwo2 k1 k2 k3)
     subst hk8 hqt k1 k2 k3
     simp -implicitDefEqProofs only [go_sem,↓reduceIte,Int.reduceEq,Int.reduceLT,Int.reduceLE,List.reduceReplicate,intA,setT_nil,setT_cons,i0,eq30_self,hS.cells,hS.flat,hS.bound,hS.len,Bool.not_false,Bool.not_true,decide_true,↓boolP_bool,↓iteB_true,↓iteB_false]
    ·rw [if_neg k3] at hk8
     have k3' : ¬ A = af := fun h => k3 h.symm
     subst hk8 k1 k2
     cases q <;> simp -implicitDefEqProofs only [go_sem,↓reduceIte,Int.reduceEq,Int.reduceLT,Int.reduceLE,List.reduceReplicate,intA,setT_nil,setT_cons,i4,decide_eq_false k3',decide_true,decide_false,hS.cells,hS.flat,hS.bound,hS.len,Bool.not_false,Bool.not_true,decide_true,↓boolP_bool,↓iteB_true,↓iteB_false]
   ·rw [if_neg k2] at hk8
    have k2' : ¬ B = bf := fun h => k2 h.symm
    subst hk8 k1
    cases q <;> simp -implicitDefEqProofs only [go_sem,↓reduceIte,Int.reduceEq,Int.reduceLT,Int.reduceLE,List.reduceReplicate,intA,setT_nil,setT_cons,i3,decide_eq_false k2',decide_true,decide_false,hS.cells,hS.flat,hS.bound,hS.len,Bool.not_false,Bool.not_true,decide_true,↓boolP_bool,↓iteB_true,↓iteB_false]
  ·rw [if_neg k1] at hk8
   have k1' : ¬ s = u := fun h => k1 h.symm
   have hqf : q = false := by
    cases q with
    | false => rfl
    | true => exact absurd (hww (hq.1 rfl)) k1
   subst hk8 hqf
   simp -implicitDefEqProofs only [go_sem,↓reduceIte,Int.reduceEq,Int.reduceLT,Int.reduceLE,List.reduceReplicate,intA,setT_nil,setT_cons,i2,decide_eq_false k1',decide_true,decide_false,hS.cells,hS.flat,hS.bound,hS.len,Bool.not_false,Bool.not_true,decide_true,↓boolP_bool,↓iteB_true,↓iteB_false]
 | succ μ =>
  obtain ⟨y,hy⟩ := at_lt L j (by omega)
  obtain ⟨a',b',c',rfl⟩ := hpl y (List.mem_of_getElem? hy)
  have hlt : (j : Int) < ((L.length : Nat) : Int) := by omega
  have hw := wrap_succ j (by omega)
  have hix := hS.idx hy
  have htk : L.take (j + 1) = L.take j ++ [plV a' b' c'] := by rw [List.take_add_one,hy];rfl
  have hiff : plV a b c ∈ L.take (j + 1) ↔ plV a b c ∈ L.take j ∨ eqP a' b' c' a b c = true := by
   rw [htk,List.mem_append,List.mem_singleton]
   refine or_congr Iff.rfl ⟨fun h => ?_,fun h => ?_⟩
   ·obtain ⟨h1,h2,h3⟩ := plV_inj h
    unfold eqP;simp [h1,h2,h3]
   ·unfold eqP at h
    simp only [Bool.and_eq_true,decide_eq_true_iff] at h
    obtain ⟨h1,h2,h3⟩ := h
    rw [h1,h2,h3]
  cases q with
  | true =>
   simp -implicitDefEqProofs only [go_sem,↓reduceIte,Int.reduceEq,Int.reduceLT,Int.reduceLE,List.reduceReplicate,intA,setT_nil,setT_cons,hlt,hw,hix,eq32,hch.cells,hch.flat,hch.bound,hS.cells,hS.flat,hS.bound,hS.len,Bool.not_false,Bool.not_true,decide_true,↓boolP_bool,↓iteB_true,↓iteB_false]
   rw [trim_at _ _ _ _ _ (by simp only [boundL_cons,boundL_nil,bound_agg,bound_v,bound_ptr,hS.bound,hch.bound];decide) rfl rfl (Nat.zero_le _)]
   exact Again.mk' μ (by omega) (hQ _ _ _ ⟨j + 1,true,by omega,by rw [hiff];simp [hq.1 rfl],rfl,rfl⟩)
  | false =>
   simp -implicitDefEqProofs only [go_sem,↓reduceIte,Int.reduceEq,Int.reduceLT,Int.reduceLE,List.reduceReplicate,intA,setT_nil,setT_cons,hlt,hw,hix,eq32,hch.cells,hch.flat,hch.bound,hS.cells,hS.flat,hS.bound,hS.len,Bool.not_false,Bool.not_true,decide_true,↓boolP_bool,↓iteB_true,↓iteB_false]
   rw [trim_at _ _ _ _ _ (by simp only [boundL_cons,boundL_nil,bound_agg,bound_v,bound_ptr,hS.bound,hch.bound];decide) rfl rfl (Nat.zero_le _)]
   exact Again.mk' μ (by omega) (hQ _ _ _ ⟨j + 1,eqP a' b' c' a b c,by omega,by rw [hiff];simp [← hq],rfl,rfl⟩)
end Go.Ev
namespace Go.Ev
open Go.Lib
theorem tabIs_of_vars {P : Program} {W : World} {name : String} {k : IntKind} {zs : List Int} {g : Nat} {t e : TypeId} {n : Nat}
  (hg : P.globalNamed name = some g) (hty : (P.globals[g]?).map (·.type) = some t) (ht : P.underlying t = some (.array n e)) (he : P.underlying e = some (.int k)) (hce : P.cellsOf e = 1) (hct : P.cellsOf t = n) :
  ∀ {l : List (String × DataW Unit)} {ps : List MemPlace},(name,tabData k zs) ∈ l → DataW.LaidVars P W l ps → TabIs P W name k zs
 | [],_,hm,_ => by cases hm
 | (nm,d) :: rest,ps,hm,h => by
  obtain ⟨g',t',cs,fuel,p,q,hg',ht',hvar,hd,hr,_⟩ := h
  rcases List.mem_cons.1 hm with hm | hm
  ·cases hm
   obtain rfl := Option.some.inj (hg.symm.trans hg')
   obtain rfl := Option.some.inj (hty.symm.trans ht')
   unfold TabIs
   rw [hvar,← cells_of_tab ht he hce hct hd]
  ·exact tabIs_of_vars hg hty ht he hce hct hm hr
theorem heap_of_tab {P : Program} {W : World} {name : String} {k : IntKind} {zs : List Int} {g : Nat} (hg : P.globalNamed name = some g) (h : TabIs P W name k zs) :
  ∃ e fz,allZ W g = some (.cells (zs.map fun z => Value.int k z).toArray e fz) := by
 unfold TabIs World.var? at h
 rw [hg] at h
 simp only [Option.bind_some] at h
 unfold allZ
 cases ho : W.heap[g]? with
 | none => rw [ho] at h;cases h
 | some o =>
  rw [ho] at h
  cases o <;> simp at h
  subst h
  exact ⟨_,_,rfl⟩
end Go.Ev
