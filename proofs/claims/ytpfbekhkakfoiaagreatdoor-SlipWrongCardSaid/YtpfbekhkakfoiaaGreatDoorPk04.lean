/- What the proof of this claim stands on, part 5: an evaluator of the model, proved right, and what it answers for functions of the program. -/
import Derived.Test.YtpfbekhkakfoiaaGreatDoorPk03
import Derived.KernelRfl
import Derived.Lib.Overlaps
import Derived.Shelf.Strings.Fields
import Derived.Shelf.Strings.Builder1
import Derived.Shelf.Strings.OnBuilder
import Derived.Test.YtpfbekhkakfoiaaGreatDoorProg
set_option maxHeartbeats 8000000
set_option maxRecDepth 1000000
set_option linter.unusedSimpArgs false
namespace Go.Ev
structure Tell where
 f : Nat
 K : List AV
 R : AV
def tabHas : List Tell → Nat → Bool
 | [],_ => false
 | t :: r,f => Nat.beq t.f f || tabHas r f
def tabFn : List Tell → Nat → List AV → Option AV
 | [],_,_ => none
 | t :: r,f,args => if Nat.beq t.f f && listEq (eqA 30) args t.K then some t.R else tabFn r f args
def tabExt (e : FuncId → Option (List AV → Option AV)) (T : List Tell) : FuncId → Option (List AV → Option AV) := fun f => if tabHas T f then some (tabFn T f) else e f
def Cfg.more (C : Cfg) (e : FuncId → Option (List AV → Option AV)) : Cfg := { C with ext := e }
structure TellH where
 f : Nat
 K : List AV
 G : List (Option AObj)
 R : AV
def eqEnt : List (AV × AV × Nat) → List (AV × AV × Nat) → Bool
 | [],[] => true
 | (a,b,n) :: r,(a',b',n') :: s => eqQ 30 a a' && eqQ 30 b b' && Nat.beq n n' && eqEnt r s
 | _,_ => false
def sameX : Option AObj → Option AObj → Bool
 | none,none => true
 | some .dead,some .dead => true
 | some .dfr,some .dfr => true
 | some (.cells v m e sz g cs),some (.cells v' m' e' sz' g' cs') => Nat.beq v v' && Nat.beq m m' && Nat.beq e e' && Nat.beq sz sz' && (g == g') && eqLQ (eqQ 30) cs cs'
 | some (.map m es c),some (.map m' es' c') => Nat.beq m m' && eqEnt es es' && Nat.beq c c'
 | _,_ => false
def sameL : List (Option AObj) → List (Option AObj) → Bool
 | [],[] => true
 | x :: r,y :: s => sameX x y && sameL r s
 | _,_ => false
theorem eqEnt_eq : ∀ {l m : List (AV × AV × Nat)},eqEnt l m = true → l = m
 | [],[],_ => rfl
 | [],_ :: _,h => by cases h
 | _ :: _,[],h => by cases h
 | (a,b,n) :: r,(a',b',n') :: s,h => by
  simp only [eqEnt,Bool.and_eq_true] at h
  obtain ⟨⟨⟨h1,h2⟩,h3⟩,h4⟩ := h
  rw [eqQ_eq 30 _ _ h1,eqQ_eq 30 _ _ h2,Nat.eq_of_beq_eq_true h3,eqEnt_eq h4]
theorem sameX_eq {x y : Option AObj} (h : sameX x y = true) : x = y := by
 unfold sameX at h
 split at h
 ·rfl
 ·rfl
 ·rfl
 ·simp only [Bool.and_eq_true,beq_iff_eq] at h
  obtain ⟨⟨⟨⟨⟨h1,h2⟩,h3⟩,h4⟩,h5⟩,h6⟩ := h
  rw [Nat.eq_of_beq_eq_true h1,Nat.eq_of_beq_eq_true h2,Nat.eq_of_beq_eq_true h3,Nat.eq_of_beq_eq_true h4,h5,eqLQ_eq (eqQ_eq 30) h6]
 ·simp only [Bool.and_eq_true] at h
  obtain ⟨⟨h1,h2⟩,h3⟩ := h
  rw [Nat.eq_of_beq_eq_true h1,eqEnt_eq h2,Nat.eq_of_beq_eq_true h3]
 ·cases h
theorem sameL_eq : ∀ {l m : List (Option AObj)},sameL l m = true → l = m
 | [],[],_ => rfl
 | [],_ :: _,h => by cases h
 | _ :: _,[],h => by cases h
 | x :: r,y :: s,h => by
  simp only [sameL,Bool.and_eq_true] at h
  rw [sameX_eq h.1,sameL_eq h.2]
def tabHHas : List TellH → Nat → Bool
 | [],_ => false
 | t :: r,f => Nat.beq t.f f || tabHHas r f
def tabH : List TellH → Nat → List AV → Heap → Option AV
 | [],_,_,_ => none
 | t :: r,f,args,H => if Nat.beq t.f f && (eqLQ (eqQ 30) args t.K && sameL H.objs t.G) then some t.R else tabH r f args H
def atom1 : AV → Bool
 | .v _ => true
 | _ => false
def atom1b : AV → Bool
 | .v _ => true
 | .agg cs => cs.all atom1
 | _ => false
def atomR : AV → Bool
 | .v _ => true
 | .tup cs => cs.all atom1b
 | .agg cs => cs.all atom1b
 | _ => false
def borH (T : List Tell) (f : Nat) (args : List AV) (H : Heap) : Option AV :=
 match freezeL { H with lock := 0 } 100000 args with
 | some l => match tabFn T f l with | some R => if atomR R then some R else none | none => none
 | none => none
def tabX (T : List Tell) (TH : List TellH) (f : Nat) (args : List AV) (H : Heap) : Option AV := match tabH TH f args H with | some v => some v | none => borH T f args H
def tabExh (e : FuncId → Option (List AV → Heap → Option AV)) (T : List Tell) (TH : List TellH) : FuncId → Option (List AV → Heap → Option AV) := fun f => if tabHHas TH f || tabHas T f then some (tabX T TH f) else e f
def Cfg.more2 (C : Cfg) (e : FuncId → Option (List AV → Option AV)) (x : FuncId → Option (List AV → Heap → Option AV)) : Cfg := { C with ext := e,exh := x }
def ansH (n : Nat) (o : Option Out) : Option AV := match o with | some (.ret v H) => freezeV { H with lock := n } 1000000 v | _ => none
def GoodC (C : Cfg) (t : Tell) : Prop := (∃ e x,ExtOK (C.more2 e x) ∧ Ans (C.more2 e x) t.f t.K t.R) ∧ boundL t.K = 0
def GoodH (C : Cfg) (t : TellH) : Prop := (∃ e x,ExtOK (C.more2 e x) ∧ ∃ n,ansH t.G.length (evT (C.more2 e x) n (.call t.f t.K { objs := t.G,lock := t.G.length })) = some t.R) ∧ (Nat.beq (boundL t.K) 0 || t.K.any isYld) = false
def AllG (C : Cfg) : List Tell → Prop
 | [] => True
 | t :: r => GoodC C t ∧ AllG C r
def AllH (C : Cfg) : List TellH → Prop
 | [] => True
 | t :: r => GoodH C t ∧ AllH C r
theorem tabFn_some {C : Cfg} : ∀ {T : List Tell} {f : Nat} {args : List AV} {v : AV},AllG C T → tabFn T f args = some v → ∃ t,GoodC C t ∧ t.f = f ∧ args = t.K ∧ v = t.R
 | [],_,_,_,_,h => by cases h
 | t :: r,f,args,v,hT,h => by
  unfold tabFn at h
  split at h
  ·rename_i hq
   simp only [Bool.and_eq_true] at hq
   exact ⟨t,hT.1,Nat.eq_of_beq_eq_true hq.1,listEq_eq (eqA_eq 30) hq.2,by simpa using h.symm⟩
  ·exact tabFn_some hT.2 h
theorem tabH_some {C : Cfg} : ∀ {T : List TellH} {f : Nat} {args : List AV} {H : Heap} {v : AV},AllH C T → tabH T f args H = some v → ∃ t,GoodH C t ∧ t.f = f ∧ args = t.K ∧ H.objs = t.G ∧ v = t.R
 | [],_,_,_,_,_,h => by cases h
 | t :: r,f,args,H,v,hT,h => by
  unfold tabH at h
  split at h
  ·rename_i hq
   simp only [Bool.and_eq_true] at hq
   exact ⟨t,hT.1,Nat.eq_of_beq_eq_true hq.1,eqLQ_eq (eqQ_eq 30) hq.2.1,sameL_eq hq.2.2,by simpa using h.symm⟩
  ·exact tabH_some hT.2 h
theorem atom1_rep {Z Z' : Fzn} {ρ ρ' : Pls} {x : AV} {v : Value} (h : Rep Z ρ x v) (ha : atom1 x = true) : Rep Z' ρ' x v := by
 cases h with
 | v h => exact .v h
 | _ => cases ha
theorem atom1b_rep {Z Z' : Fzn} {ρ ρ' : Pls} {x : AV} {v : Value} (h : Rep Z ρ x v) (ha : atom1b x = true) : Rep Z' ρ' x v := by
 cases h with
 | v h => exact .v h
 | agg hl h => exact .agg hl fun i c v hc hv => atom1_rep (h i c v hc hv) (List.all_eq_true.1 (show List.all _ atom1 = true from ha) c (List.mem_of_getElem? hc))
 | _ => cases ha
theorem atomR_rep {Z Z' : Fzn} {ρ ρ' : Pls} {x : AV} {v : Value} (h : Rep Z ρ x v) (ha : atomR x = true) : Rep Z' ρ' x v := by
 cases h with
 | v h => exact .v h
 | agg hl h => exact .agg hl fun i c v hc hv => atom1b_rep (h i c v hc hv) (List.all_eq_true.1 (show List.all _ atom1b = true from ha) c (List.mem_of_getElem? hc))
 | tup hl h => exact .tup hl fun i c v hc hv => atom1b_rep (h i c v hc hv) (List.all_eq_true.1 (show List.all _ atom1b = true from ha) c (List.mem_of_getElem? hc))
 | _ => cases ha
theorem back_frozen {Z : Fzn} {ρ : Pls} {H : Heap} {w : World} (hs : Sim Z ρ H w) {R : AV} (hR : atomR R = true) {x : Value} {w' : World} (h : After (allZ w) noPls { objs := [],lock := 0 } w R { objs := [],lock := 0 } x w') : After Z ρ H w R H x w' := by
 obtain ⟨Z',ρ',h1,h2,h3⟩ := h
 have hsame : ∀ k,k < w.heap.size → w'.heap[k]? = w.heap[k]? := fun k hk => h3.frame k hk (start_own w k)
 refine ⟨Z,ρ,atomR_rep h1 hR,⟨fun b o hb hl => ?_,hs.inj,fun k o hk => ?_,hs.fresh,hs.lk,hs.lg⟩,⟨.refl _,.refl _,fun k hk _ => hsame k hk,fun _ _ h => h,h3.size,h3.os,h3.output,h3.tape,h3.drawn,fun a ha _ => frozen_same (hsame _ ha),rfl,fun _ _ => rfl,Nat.le_refl _,fun _ _ _ => rfl,fun _ _ _ => rfl,fun _ _ h _ => ⟨h,fun _ => rfl⟩⟩⟩
 ·obtain ⟨pl,obj,q1,q2,q3,q4⟩ := hs.objs b o hb hl
  exact ⟨pl,obj,q1,(hsame _ (Array.getElem?_eq_some_iff.1 q2).1).trans q2,q3,q4⟩
 ·have := hs.zok k o hk
  exact (hsame _ (Array.getElem?_eq_some_iff.1 this).1).trans this
theorem extOK_tab {C : Cfg} (hgo : NoGo C.P) (hm : C.P.follows .mixedOrders = true) (h0 : ExtOK C) {T : List Tell} (hT : AllG C T) {TH : List TellH} (hH : AllH C TH) : ExtOK (C.more2 (tabExt C.ext T) (tabExh C.exh T TH)) := by
 refine ⟨fun f g hf args v hv Z ρ H w vals hs hl => ?_,h0.lay,fun f g hf args v H hv Z ρ w vals hs hl => ?_⟩
 ·have hf' : (if tabHas T f then some (tabFn T f) else C.ext f) = some g := hf
  split at hf'
  ·simp only [Option.some.injEq] at hf'
   subst hf'
   obtain ⟨t,⟨⟨e,x,he,ha⟩,hb⟩,rfl,rfl,rfl⟩ := tabFn_some hT hv
   exact ext_of_ans (C := C.more2 e x) hgo hm he ha hb Z ρ H w vals hs hl
  ·exact h0.ext f g hf' args v hv Z ρ H w vals hs hl
 ·have hf' : (if tabHHas TH f || tabHas T f then some (tabX T TH f) else C.exh f) = some g := hf
  split at hf'
  ·simp only [Option.some.injEq] at hf'
   subst hf'
   unfold tabX at hv
   split at hv
   case h_2 =>
    unfold borH at hv
    split at hv
    ·rename_i l hfz
     split at hv
     ·rename_i R hR
      split at hv
      ·rename_i hat
       simp only [Option.some.injEq] at hv
       subst hv
       have hlz : RepL (allZ w) noPls l vals := (freeze_rep (ρ := noPls) (Z1 := Z) (Z2 := allZ w) (ρ1 := ρ) (H1 := { H with lock := 0 }) (w1 := w) ⟨hs.objs,hs.inj,hs.zok,hs.fresh,Nat.zero_le _,hs.lg⟩ (fun k o hk => hs.zok k o hk) (fun b o pl _ _ _ _ => rfl) (fun b v p hb _ => absurd hb (Nat.not_lt_zero _)) 100000).2 _ _ _ hfz hl
       obtain ⟨t,⟨⟨e,x,he,ha⟩,hb⟩,rfl,rfl,rfl⟩ := tabFn_some hT hR
       have hm1 := ext_of_ans (C := C.more2 e x) hgo hm he ha hb (allZ w) noPls { objs := [],lock := 0 } w vals (start_sim w (hs.lg.mono fun k o hk => hs.zok k o hk)) hlz
       rcases hm1 with ⟨y,w',h1,h2⟩ | ⟨h1,h2⟩
       ·exact Or.inl ⟨y,w',h1,back_frozen hs hat h2⟩
       ·exact Or.inr ⟨h1,Calls.mono' h2 fun en w' he => by
         obtain ⟨y,rfl,h3⟩ := he
         exact ⟨y,rfl,back_frozen hs hat h3⟩⟩
      ·cases hv
     ·cases hv
    ·cases hv
   rename_i v2 hv2
   simp only [Option.some.injEq] at hv
   subst hv
   obtain ⟨t,⟨⟨e,x,he,n,ha⟩,hb⟩,rfl,rfl,hG,rfl⟩ := tabH_some hH hv2
   have hrec : RecOK C.P (evT (C.more2 e x) n) := (ev_sound (C := C.more2 e x) hgo he (draw_ok hm he) n).1
   let D : Cfg := { C.more2 e x with pure := fun _ _ _ => true }
   have hk : callKind D t.f t.f none t.K = 2 := by
    simp only [Bool.or_eq_false_iff] at hb
    unfold callKind
    simp only [hb.1,hb.2,Bool.false_eq_true,if_false,if_true,D]
   have hB : callB D (evT (C.more2 e x) n) t.f t.f none t.K H = some (t.R,H) := by
    unfold callB;rw [hk]
    have h1 : ({ H with lock := H.size } : Heap) = { objs := t.G,lock := t.G.length } := by
     obtain ⟨objs,lock⟩ := H
     simp only at hG
     subst hG
     rfl
    have h2 : H.size = t.G.length := by unfold Heap.size;rw [hG]
    simp only
    rw [h1,h2]
    unfold ansH at ha
    split at ha
    ·rename_i v1 H1 h3
     rw [h3]
     simp only [ha,Option.map_some]
    ·cases ha
   obtain ⟨hbody,hc⟩ := callB_sound (C := D) hrec hs hl hB
   exact Or.inr ⟨hbody.run _ _,hc⟩
  ·exact h0.exh f g hf' args v H hv Z ρ w vals hs hl
def ansC (o : Option Out) : Option AV := match o with | some (.ret v H) => freezeV { H with lock := 0 } 1000000 v | _ => none
theorem ans_of_evC {C : Cfg} {n : Nat} {f : FuncId} {args : List AV} {v : AV} (h : ansC (evT C n (.call f args { objs := [],lock := 0 })) = some v) : Ans C f args v := by
 refine Ans.iff.2 ?_
 cases ho : evT C n (.call f args { objs := [],lock := 0 }) with
 | none => rw [ho] at h;cases h
 | some o =>
  rw [ho] at h
  cases o with
  | go => cases h
  | ret x H => exact ⟨x,H,lim_iff.2 ⟨n,ho⟩,h⟩
theorem goodC {C : Cfg} (hgo : NoGo C.P) (hm : C.P.follows .mixedOrders = true) (h0 : ExtOK C) {t : Tell} (T : List Tell) (hT : AllG C T) (TH : List TellH) (hH : AllH C TH) (n : Nat)
  (h : ansC (evT (C.more2 (tabExt C.ext T) (tabExh C.exh T TH)) n (.call t.f t.K { objs := [],lock := 0 })) = some t.R) (hb : boundL t.K = 0) : GoodC C t :=
 ⟨⟨_,_,extOK_tab hgo hm h0 hT hH,ans_of_evC h⟩,hb⟩
end Go.Ev
namespace Go.Ev
end Go.Ev
namespace Go.Ev
open Go.Proofs Go.Shelf Go.RowKit
def asciiB : List UInt8 → Bool
 | [] => true
 | b :: r => Nat.blt b.toNat 128 && asciiB r
theorem asciiB_at : ∀ {l : List UInt8},asciiB l = true → ∀ (j : Nat) b,l[j]? = some b → b.toNat < 128
 | [],_,j,b,h => by simp at h
 | x :: r,ha,0,b,h => by
  simp only [asciiB,Bool.and_eq_true] at ha
  simp only [List.getElem?_cons_zero,Option.some.injEq] at h
  subst h
  rw [← Nat.blt_eq];exact ha.1
 | x :: r,ha,j + 1,b,h => by
  simp only [asciiB,Bool.and_eq_true] at ha
  exact asciiB_at ha.2 j b (by simpa using h)
def strAV (l : List UInt8) : AV := .v (.string ⟨l.toArray⟩)
def fieldsA : List AV → Option AV
 | [.v (.string s)] => if Nat.blt s.data.size 100000 && asciiB s.data.toList then some (.vs 1 ((Lib.fields s.data.toList).map strAV) (some (Lib.fields s.data.toList).length)) else none
 | _ => none
theorem strAV_cells : ∀ l : List (List UInt8),(l.map strAV).flatMap AV.cells = l.map strAV
 | [] => rfl
 | x :: r => by simp only [List.map_cons,List.flatMap_cons,strAV_cells r];rfl
theorem ext_fields {P : Program} {ρn : Ren} (L : Lays.n157 P ρn) (hi9 : (P.info? (ρn.t 9)).map (fun i => (i.zero,i.size,i.bytes)) = some (some (.string ByteArray.empty),1,16)) (hg : P.globalNamed "strings.asciiSpace" = some (ρn.g 0))
  (hl0 : (ρn.g 0,(Lib.asciiSpaceTab.map fun z => Value.int .u8 z).toArray) ∈ laidL) {f : FuncId} (hf : ρn.f 157 = f) (hbody : HasBody P f)
  {args : List AV} {v : AV} (h : fieldsA args = some v) (Z : Fzn) (ρ : Pls) (H : Heap) (w : World) (vals : List Value) (hs : Sim Z ρ H w) (hl : RepL Z ρ args vals) : FnMeets P f vals w (After Z ρ H w v H) := by
 subst hf
 unfold fieldsA at h
 split at h
 ·rename_i s
  obtain ⟨v1,ws,rfl,hv1,hl⟩ := hl.uncons
  have : ws = [] := List.length_eq_zero_iff.1 hl.1.symm
  subst this
  obtain ⟨rfl, -⟩ := hv1.v_inv
  split at h
  ·rename_i hc
   simp only [Bool.and_eq_true] at hc
   simp only [Option.some.injEq] at h
   subst h
   have hsz : s.size < 100000 := by
    have := hc.1
    rw [Nat.blt_eq] at this
    exact this
   have htab : Lib.TabIs P w "strings.asciiSpace" .u8 Lib.asciiSpaceTab := by
    obtain ⟨e,fz,hz⟩ := hs.lg _ hl0
    have := hs.zok _ _ hz
    unfold Lib.TabIs World.var?
    rw [hg]
    simp only [Option.bind_some]
    simp only at this
    rw [this]
   refine Or.inr ⟨hbody.run _ _,Calls.mono' (Any.strings_Fields L hi9 hg s w (by omega) (asciiB_at hc.2) htab) ?_⟩
   rintro e w' ⟨rfl,rfl⟩
   obtain ⟨q1,q2⟩ := hs.frozen (.cells ((Lib.fields s.data.toList).map fun l => Value.string ⟨l.toArray⟩).toArray (ρn.t 9) (0,0)) (fun c e fz he => by cases he;rfl)
   refine ⟨_,rfl,_,ρ, ?_,q1,q2⟩
   have hz : freezeZ Z w.heap.size (.cells ((Lib.fields s.data.toList).map fun l => Value.string ⟨l.toArray⟩).toArray (ρn.t 9) (0,0)) w.heap.size = some (.cells ((Lib.fields s.data.toList).map fun l => Value.string ⟨l.toArray⟩).toArray (ρn.t 9) (0,0)) := by
    unfold freezeZ;rw [if_pos rfl]
   have hlen : ((Lib.fields s.data.toList).map strAV).length = (Lib.fields s.data.toList).length := List.length_map _
   have hrep : Rep (freezeZ Z w.heap.size (.cells ((Lib.fields s.data.toList).map fun l => Value.string ⟨l.toArray⟩).toArray (ρn.t 9) (0,0))) ρ (.vs 1 ((Lib.fields s.data.toList).map strAV) (some (Lib.fields s.data.toList).length))
     (.slice (some ⟨w.heap.size,([] : List Value).length,none⟩) ((Lib.fields s.data.toList).map strAV).length (Lib.fields s.data.toList).length) := by
    refine Rep.vs (vs := (Lib.fields s.data.toList).map fun l => Value.string ⟨l.toArray⟩) (post := []) hz (by simp) (fun x hx => ?_) ?_ (fun i c v hc hv => ?_) (fun k hk => by cases hk;rfl) (by rw [hlen];exact Nat.le_refl _)
    ·obtain ⟨l, -,rfl⟩ := List.mem_map.1 hx
     rfl
    ·rw [strAV_cells,List.length_map,List.length_map]
    ·rw [strAV_cells] at hc
     rw [List.getElem?_map] at hc hv
     cases hq : (Lib.fields s.data.toList)[i]? with
     | none => rw [hq] at hc;cases hc
     | some l =>
      rw [hq] at hc hv
      simp only [Option.map_some,Option.some.injEq] at hc hv
      subst hc;subst hv
      exact .v rfl
   rw [hlen] at hrep
   exact hrep
  ·cases h
 ·cases h
end Go.Ev
namespace Go.Proofs
open Go.Shelf
open Go.RowKit in
open Go.RowKit in
open Go.RowKit in
def Tryz.lays156_ren : Go.Shelf.Ren := ⟨fun | 156 => 127 | 165 => 155 | 166 => 156 | 169 => 157 | 240 => 180 | 241 => 181 | 276 => 189 | 277 => 190 | n => n,fun | 31 => 87 | 9 => 9 | 3 => 3 | 4 => 4 | 0 => 0 | 20 => 20 | 72 => 227 | 76 => 231 | 70 => 224 | 37 => 225 | 75 => 230 | 127 => 249 | 164 => 262 | 5 => 5 | 80 => 233 | n => n,fun | n => n⟩
theorem Tryz.lays156 : Go.Proofs.Lays.n156 Tryz.prog Tryz.lays156_ren := {
 mixed := by kernel_rfl
 f156 := Tryz.func127.trans (congrArg some (by kernel_rfl))
 f165 := Tryz.func155.trans (congrArg some (by kernel_rfl))
 f166 := Tryz.func156.trans (congrArg some (by kernel_rfl))
 f169 := Tryz.func157.trans (congrArg some (by kernel_rfl))
 f240 := Tryz.func180.trans (congrArg some (by kernel_rfl))
 f241 := Tryz.func181.trans (congrArg some (by kernel_rfl))
 f276 := Tryz.func189.trans (congrArg some (by kernel_rfl))
 f277 := Tryz.func190.trans (congrArg some (by kernel_rfl))
 t0 := Tryz.underlying0
 a0 := Tryz.isAgg0
 z0 := Tryz.sizeOf0
 v0 := Tryz.zeroValue0
 t3 := Tryz.underlying3
 a3 := Tryz.isAgg3
 z3 := Tryz.sizeOf3
 v3 := Tryz.zeroValue3
 t4 := Tryz.underlying4
 a4 := Tryz.isAgg4
 z4 := Tryz.sizeOf4
 v4 := Tryz.zeroValue4
 t9 := Tryz.underlying9
 a9 := Tryz.isAgg9
 z9 := Tryz.sizeOf9
 v9 := Tryz.zeroValue9
 t20 := Tryz.underlying20
 a20 := Tryz.isAgg20
 z20 := Tryz.sizeOf20
 v20 := Tryz.zeroValue20
 t31 := Tryz.underlying87
 a31 := Tryz.isAgg87
 z31 := Tryz.sizeOf87
 v31 := Tryz.zeroValue87
 t37 := Tryz.underlying225
 a37 := Tryz.isAgg225
 z37 := Tryz.sizeOf225
 v37 := Tryz.zeroValue225
 t70 := Tryz.underlying224
 a70 := Tryz.isAgg224
 z70 := Tryz.sizeOf224
 v70 := Tryz.zeroValue224
 t72 := Tryz.underlying227
 a72 := Tryz.isAgg227
 z72 := Tryz.sizeOf227
 v72 := Tryz.zeroValue227
 t75 := Tryz.underlying230
 a75 := Tryz.isAgg230
 z75 := Tryz.sizeOf230
 v75 := Tryz.zeroValue230
 t76 := Tryz.underlying231
 a76 := Tryz.isAgg231
 z76 := Tryz.sizeOf231
 v76 := Tryz.zeroValue231
 t127 := Tryz.underlying249
 a127 := Tryz.isAgg249
 z127 := Tryz.sizeOf249
 v127 := Tryz.zeroValue249
 t164 := Tryz.underlying262
 a164 := Tryz.isAgg262
 z164 := Tryz.sizeOf262
 v164 := Tryz.zeroValue262 }
theorem Tryz.Builder_Extra_156 : Builder.Extra Tryz.prog Tryz.lays156_ren := {
 sizeBuilder := by kernel_rfl
 liesBuilder := by kernel_rfl
 t5 := Tryz.underlying5
 a5 := Tryz.isAgg5
 z5 := Tryz.sizeOf5
 v5 := Tryz.zeroValue5
 infoByte := by kernel_rfl
 cellsByte := by kernel_rfl
 sizeByte := by kernel_rfl
 neB5 := by decide }
open Go.RowKit in
theorem Tryz.strings_Join_none (a : Option Addr) (c : Nat) (sep : ByteArray) (w : World) :
  Calls Tryz.prog 127 #[.slice a 0 c,.string sep] w fun e w' => e = .returned (.string ⟨#[]⟩) ∧ w' = w := Any.strings_Join_none Tryz.lays156 Tryz.Builder_Extra_156 a c sep w
open Go.RowKit in
theorem Tryz.strings_Join (bk o c : Nat) (xs : List ByteArray) (sep : ByteArray) (w : World) (hcells : ∀ (j : Nat) x,xs[j]? = some x → w.cell? ⟨bk,o + j,none⟩ = some (.string x)) (hbk : bk < w.heap.size) (hN : xs.length ≤ 140737488355328) (hcap : xs.length ≤ c) (hlen : (Lib.join (xs.map (·.data.toList)) sep.data.toList).length ≤ 140737488355328) :
  Calls Tryz.prog 127 #[.slice (some ⟨bk,o,none⟩) xs.length c,.string sep] w fun e w' => e = .returned (.string ⟨(Lib.join (xs.map (·.data.toList)) sep.data.toList).toArray⟩) ∧ Below w.heap.size w w' := Any.strings_Join Tryz.lays156 Tryz.Builder_Extra_156 bk o c xs sep w hcells hbk hN hcap hlen
def Tryz.lays157_ren : Go.Shelf.Ren := ⟨fun | 157 => 107 | 229 => 128 | 199 => 129 | 261 => 158 | 311 => 182 | 312 => 183 | n => n,fun | 9 => 9 | 31 => 87 | 3 => 3 | 5 => 5 | 4 => 4 | 119 => 187 | 0 => 0 | 40 => 189 | 152 => 234 | 21 => 21 | 154 => 236 | 51 => 237 | 141 => 239 | 196 => 253 | 193 => 250 | 198 => 255 | 49 => 76 | 194 => 251 | 201 => 258 | 226 => 265 | 46 => 266 | 227 => 267 | n => n,fun | 0 => 0 | 6 => 2 | n => n⟩
theorem Tryz.lays157 : Go.Proofs.Lays.n157 Tryz.prog Tryz.lays157_ren := {
 mixed := by kernel_rfl
 f157 := Tryz.func107.trans (congrArg some (by kernel_rfl))
 f199 := Tryz.func129.trans (congrArg some (by kernel_rfl))
 f229 := Tryz.func128.trans (congrArg some (by kernel_rfl))
 f261 := Tryz.func158.trans (congrArg some (by kernel_rfl))
 f311 := Tryz.func182.trans (congrArg some (by kernel_rfl))
 f312 := Tryz.func183.trans (congrArg some (by kernel_rfl))
 t0 := Tryz.underlying0
 a0 := Tryz.isAgg0
 z0 := Tryz.sizeOf0
 v0 := Tryz.zeroValue0
 t3 := Tryz.underlying3
 a3 := Tryz.isAgg3
 z3 := Tryz.sizeOf3
 v3 := Tryz.zeroValue3
 t4 := Tryz.underlying4
 a4 := Tryz.isAgg4
 z4 := Tryz.sizeOf4
 v4 := Tryz.zeroValue4
 t5 := Tryz.underlying5
 a5 := Tryz.isAgg5
 z5 := Tryz.sizeOf5
 v5 := Tryz.zeroValue5
 t9 := Tryz.underlying9
 a9 := Tryz.isAgg9
 z9 := Tryz.sizeOf9
 v9 := Tryz.zeroValue9
 t21 := Tryz.underlying21
 a21 := Tryz.isAgg21
 z21 := Tryz.sizeOf21
 v21 := Tryz.zeroValue21
 t31 := Tryz.underlying87
 a31 := Tryz.isAgg87
 z31 := Tryz.sizeOf87
 v31 := Tryz.zeroValue87
 t40 := Tryz.underlying189
 a40 := Tryz.isAgg189
 z40 := Tryz.sizeOf189
 v40 := Tryz.zeroValue189
 t46 := Tryz.underlying266
 a46 := Tryz.isAgg266
 z46 := Tryz.sizeOf266
 v46 := Tryz.zeroValue266
 t49 := Tryz.underlying76
 a49 := Tryz.isAgg76
 z49 := Tryz.sizeOf76
 v49 := Tryz.zeroValue76
 t51 := Tryz.underlying237
 a51 := Tryz.isAgg237
 z51 := Tryz.sizeOf237
 v51 := Tryz.zeroValue237
 t119 := Tryz.underlying187
 a119 := Tryz.isAgg187
 z119 := Tryz.sizeOf187
 t141 := Tryz.underlying239
 a141 := Tryz.isAgg239
 z141 := Tryz.sizeOf239
 v141 := Tryz.zeroValue239
 t152 := Tryz.underlying234
 a152 := Tryz.isAgg234
 z152 := Tryz.sizeOf234
 v152 := Tryz.zeroValue234
 t154 := Tryz.underlying236
 a154 := Tryz.isAgg236
 z154 := Tryz.sizeOf236
 v154 := Tryz.zeroValue236
 t193 := Tryz.underlying250
 a193 := Tryz.isAgg250
 z193 := Tryz.sizeOf250
 v193 := Tryz.zeroValue250
 t194 := Tryz.underlying251
 a194 := Tryz.isAgg251
 z194 := Tryz.sizeOf251
 v194 := Tryz.zeroValue251
 t196 := Tryz.underlying253
 a196 := Tryz.isAgg253
 z196 := Tryz.sizeOf253
 v196 := Tryz.zeroValue253
 t198 := Tryz.underlying255
 a198 := Tryz.isAgg255
 z198 := Tryz.sizeOf255
 v198 := Tryz.zeroValue255
 t201 := Tryz.underlying258
 a201 := Tryz.isAgg258
 z201 := Tryz.sizeOf258
 v201 := Tryz.zeroValue258
 t226 := Tryz.underlying265
 a226 := Tryz.isAgg265
 z226 := Tryz.sizeOf265
 v226 := Tryz.zeroValue265
 t227 := Tryz.underlying267
 a227 := Tryz.isAgg267
 z227 := Tryz.sizeOf267
 v227 := Tryz.zeroValue267
 g0 := by kernel_rfl
 g6 := by kernel_rfl }
open Go.RowKit Go.Lib in
theorem Tryz.strings_Fields (s : ByteArray) (w : World) (hs : s.size < 4294967281) (hascii : ∀ (j : Nat) b,s.data.toList[j]? = some b → b.toNat < 128) (htab : Lib.TabIs Tryz.prog w "strings.asciiSpace" .u8 Lib.asciiSpaceTab) :
  Calls Tryz.prog 107 #[.string s] w fun e w' =>
   e = .returned (.slice (some ⟨w.heap.size,0,none⟩) (Lib.fields s.data.toList).length (Lib.fields s.data.toList).length) ∧ w' = w.alloc (.cells ((Lib.fields s.data.toList).map fun l => Value.string ⟨l.toArray⟩).toArray 9) := Any.strings_Fields Tryz.lays157 (by kernel_rfl) (by kernel_rfl) s w hs hascii htab
end Go.Proofs
namespace Go.Ev.Cl
open Go.Proofs
def impF : List Nat := [91,125,130,141,142,150,159,163,165,167,180,184]
def impC : List (Nat × Nat × Nat) := [(79,86,19),(117,118,8)]
def altF : List Nat := []
def altC : List (Nat × Nat) := []
def keepF : Nat → List Nat
 | 2 => []
 | 3 => [0,1,2,4,6,3,36,9,5,10,11,13,12,14,15,17,16,18,19,21,20,22,23,25,24,26,8]
 | 4 => [42,1,3,5,7,9,11,13,15,17,19,21,23,22,0]
 | 5 => [0,1,3,4,7,35,9,11,8,10,63,66,65,67,64,12,14,15,17,13,16,100,19,21,18,20,129,2,22,24,23,26,25,6]
 | 6 => [0,1,3,4,7,31,2,8,9,11,10,63,13,14,76,16,81,12,89,88,90,87,17,19,100,21,110,116,124,20,22,151,15,6]
 | 7 => [0,1,4,5,9,31,2,3,12,10,11,14,16,13,15,90,18,19,103,20,21,22,17,125,8]
 | 8 => [0,1,3,4,7,26,2,9,35,36,37,11,8,13,12,58,10,14,65,66,64,17,15,103,6]
 | 9 => [0,1,4,5,9,40,2,3,10,12,14,11,13,15,17,19,21,23,25,22,24,135,18,138,137,139,136,26,20,28,146,150,149,151,148,30,158,16,31,8]
 | 10 => [0,1,5,6,11,44,13,12,56,2,3,4,16,17,18,19,20,21,22,26,24,15,23,25,27,29,31,14,28,166,169,32,33,35,191,30,34,10]
 | 11 => [0,1,4,5,9,45,2,3,11,13,15,74,10,12,17,97,16,99,19,14,18,23,22,21,20,8]
 | 12 => [0,1,2,4,6,5,9,42,3,10,11,13,15,72,19,88,17,14,12,18,21,20,126,130,129,131,128,23,139,16,8]
 | 13 => [0,1,2,3,4,5,24,23,25,22,9,34,7,11,13,15,17,10,12,96,14,16,6]
 | 14 => [0,1,2,3,4,5,7,34,9,13,11,71,73,8,12,85,84,86,83,14,16,97,98,10,109,123,140,6]
 | 15 => [0,1,9,3,14,24,4,33,46,5,58,74,2]
 | 16 => [0,1,2]
 | 17 => [0,6,3,10,17,2]
 | 18 => [0,4,1,11,6,29,5,3,2]
 | 19 => [0,1,2,3,4,8,17,5,9,23,11,33,12,39,45,51,6,7]
 | 20 => [0,1,2,3,4,8,14,5,18,23,9,29,35,41,6,7]
 | 21 => [0,1,2,6,14,3,7,20,26,25,27,24,8,10,4,5]
 | 22 => [0,1,2,6,20,3,24,11,7,9,13,52,16,14,67,78,12,15,4,5]
 | 23 => [0,1,3,4,8,23,2,9,28,10,36,35,37,34,11,13,45,44,46,43,15,54,53,55,52,18,60,16,6,7]
 | 24 => [0,1,3,4,9,22,2,10,27,12,8,32,14,38,13,54,11,6,7]
 | 25 => [0,4,10,14,13,15,6,24,5,2,3]
 | 26 => [0,4,12,6,17,8,22,7,37,5,2,3]
 | 27 => [0,1,10,5,14,25,4]
 | 28 => [0,1,10,5,14,25,4]
 | 29 => [0,1,2,3,15,5,20,6,7,46,8,51,65,4]
 | 30 => [0,1,10,5,14,25,4]
 | 31 => [3,2,1,4,6,5,8,7,10,9,12,11,14,13,16,15,0]
 | 32 => [0,1,5,12,11,2,3,4,10]
 | 33 => [0,1,2,6]
 | 34 => [0]
 | 35 => [0,1,2,3,4,5,9,21,6,8,25,31,30,32,29,12,56,58,59,10,65,7]
 | 36 => [0]
 | 37 => [0,1,2,3,4,8,15,6,5,10,25,7]
 | 38 => [0,2]
 | 39 => [0,1,2,3,4,5,10,18,6,12,27,7,36,13,11,40,8,9]
 | 40 => [0,1,2,3,6,12,4,5]
 | 41 => [0,1,5,2]
 | 42 => [0,1,2,3,4]
 | 43 => [0,1,2,3,6,11,4,5]
 | 44 => [0,1,5,13,4,16,17,18,6,2,3]
 | 45 => [0,1,2,7,16,4,5,6,20,21,22,8,3,25,9]
 | 46 => [0,1,2,7,14,6,3,19,4,5]
 | 47 => [0,2,7,6,20,4,1,8,9,5]
 | 48 => [0,1,4,6,2]
 | 49 => [0,1,15,14,16,13,5,20,3,2]
 | 50 => [0,2,1,9,8,20,10,29,6,7,4,5]
 | 51 => [0,7,9,11,10,5,14,3,2]
 | 52 => [0,7,9,8,5,4,17,3,2]
 | 53 => [0,1,2,4,3]
 | 54 => [0,2,7,14,1,18,6,4,5]
 | 55 => [1,0,9,8,10,7,6,3,15,4]
 | 56 => [0,1,12,3,17,4,35,5,38,49,6,54,64,7,72,84,2]
 | 57 => [0,1,7,3,12,22,2]
 | 58 => [0,1,3,18,5,23,2,6,34,70,7,75,8,86,96,4]
 | 59 => [0,1,2,3,7,15,4,6,5]
 | 60 => [0,1,2,3,4,9,19,8,5,24,28,27,29,26,11,40,6,7]
 | 61 => [0,1,2,3,9,19,4]
 | 62 => [0,1,2,3,6,5,4]
 | 63 => [0,1,2,5,9,3,4]
 | 64 => [0,7,6,8,5,4,26,2]
 | 65 => [0,1,2,3,4,5,7,6]
 | 66 => [0,1,2,5,9,3,4]
 | 67 => [0,1,2,3,5,8,9,7,13,38,14,45,15,4,12,62,10,11,18,105,107,114,17,16,121,6]
 | 68 => [0,1,4,2]
 | 69 => [0,1,2,10,9,11,5,3,6,4]
 | 70 => [0,1,3,5,2,6,28,27,29,8,40,7,4]
 | 71 => [0,1,5,2]
 | 72 => [0,8,11,5,16,22,4,6,42,50,2,3]
 | 73 => [0,1,10,5,14,25,4]
 | 74 => [0,5,2]
 | 75 => [0,1,2,3,13,12,14,11,7,20,19,21,5,8,4]
 | 76 => [0,1,2,3,6,14,9,8,21,7,4,5]
 | 77 => [0,6,3,10,18,2]
 | 78 => [1,0,3,4]
 | 79 => [0,1,2,7,16,4,5,6,19,20,21,9,3,24,8]
 | 80 => [0,8,7,9,6,5,3,14,2]
 | 81 => [0,1,4]
 | 82 => [0,1,2,3,4]
 | 83 => [0,1,2]
 | 84 => [0,1,2]
 | 85 => [0,1,6,2,3]
 | 86 => [0,1,2]
 | 87 => [0,1,3,2,4]
 | 88 => [0,1,3,2,13,5,27,4]
 | 89 => [3,0,7,19,2]
 | 90 => [0,9,12,11,13,3,24,2]
 | 91 => [0,1,8,9,10,3,5,4,2]
 | 92 => [0,1,2,6]
 | 93 => [0,1,2,3,6,15,17,18,5,32,45,4]
 | 94 => [0,1,4,2,3,11,10,27,33,13,5,42,14,68,71,9,12,80,8]
 | 95 => [0,1,2,7,14,4,6,3,20,5]
 | 96 => [0,1,2,15,14,16,13,5,7,29,30,31,8,10,9,3,4]
 | 97 => [0,1,3,2,28,4,5]
 | 98 => [0,2]
 | 99 => [0,5,2,8,10,11,3,14]
 | 100 => [0,1,4,3,2,21,20,22,19,9,28,27,29,26,7,11,8,10,6]
 | 101 => [0,2,1,5,4]
 | 102 => [1,0,8,7,9,3,5,16,4]
 | 103 => [0,1,5,2]
 | 104 => [1,0,5,3,11,4]
 | 105 => [0,4,11,3,2]
 | 106 => [4,0,8,12,3,2]
 | 107 => [6,0,16,5,7,3,4,8,37,12,53,60,66,9,10,11,91,98,2]
 | 108 => [0,11,10,12,9,3,5,20,27,26,28,25,6,8,2]
 | 109 => [0,1,10,13,12,14,5,24,4]
 | 110 => [0,4,1,11,5,22,6,36,3,2]
 | 111 => [1,0,8,7,9,3,5,16,4]
 | 112 => [0,1,4]
 | 113 => [0,1,5,11,6,12,13,16,19,4]
 | 114 => [0,1,9,8,10,7,6,2,22,4]
 | 115 => [0,1,2,6]
 | 116 => [0,1,11,15,14,16,13,4,3,38,2]
 | 117 => [0,1,8,9,10,4,13,12,14,11,5,3,2,6,24]
 | 118 => [0,1,2]
 | 119 => [1,0,4]
 | 120 => [0,1,9,8,10,7,6,2,22,4]
 | 121 => [0,1,3,2,30,35,36,37,5,7,4]
 | 122 => [0,1,15,14,16,13,6,8,9,5,4]
 | 123 => [1,0,11,10,12,9,7,8,3,24,5,4]
 | 124 => [0,1,12,21,6,34,5,4]
 | 125 => [0,1,4]
 | 126 => [0,2,1,5,4]
 | 127 => [0,12,13,15,1,22,29,5,41,40,42,39,7,49,8,65,64,66,63,10,4]
 | 128 => [0,14,16,15,1,8,21,6,23,5,7,33,36,49,48,50,47,9,10,11,4]
 | 129 => [0,5,6,7,2]
 | 130 => [1,6,0,16,4]
 | 132 => [0,2]
 | 133 => [0,2]
 | 134 => [1,0,3,4]
 | 135 => [0,12,15,14,16,4,25,31,30,32,29,6,37,3,2]
 | 136 => [1,10,9,11,8,4,18,17,19,0,3,5,31]
 | 137 => [0,1,12,11,13,10,2,7,8,5,42,4]
 | 138 => [3,0,9,4,5,38,2]
 | 139 => [0,2]
 | 140 => [0]
 | 141 => [0,2,1,4]
 | 142 => [0,2,1,4]
 | 143 => [0,1,13,4]
 | 144 => [0,1,16,4]
 | 145 => [4,0,9,5,16,2,3]
 | 146 => [0,7,1,12,4]
 | 147 => [0,7,1,15,4]
 | 148 => [0,9,1,5,18,6,4]
 | 149 => [0,9,5,17,1,26,6,4]
 | 150 => [0,1,2,4,3,5,6]
 | 151 => [0]
 | 152 => [1,0,8,9,6,3,7,5,17,4]
 | 153 => [0,1,3,2,4]
 | 154 => [0,1,3,4,10,2,5]
 | 155 => [0,1,7,21]
 | 156 => [0,1,4,5]
 | 157 => [0,2]
 | 158 => [0,5,6,1,32,7,54,4]
 | 159 => [0,1,4]
 | 160 => [0,2,1,3]
 | 161 => [0,1,2,3,4]
 | 162 => [1,3,0,4]
 | 163 => [0,2,4]
 | 164 => [1,0,3,4]
 | 165 => [0,2,1,4]
 | 166 => [1,3,0,4]
 | 167 => [0,2,1,4]
 | 168 => [0,1,4]
 | 169 => [0,10,2,3]
 | 170 => [0,1,4]
 | 171 => [0,4,10,5,2,18,6,27,33,35,3,48]
 | 172 => [1,11,2,14,0,6,25,7,33,3,8,42]
 | 173 => [0,1,4]
 | 174 => [0,1,2,3,4]
 | 175 => [0,1,2,3,4]
 | 176 => [0,1,2,3,9,4]
 | 177 => [0,1,2]
 | 178 => [1,10,9,11,4,2,5,28,27,29,7,32,6,46,0,53]
 | 179 => [0,6,1,4]
 | 180 => [0,6,19]
 | 181 => [0,1,4]
 | 182 => [0,1,17,20,19,21,5,6,31,37,7,8,62,9,10,85,110,4]
 | 183 => [0,13,16,15,17,5,1,6,27,33,7,8,58,9,10,78,95,4]
 | 184 => [0,8,7,9,1,5,16,4]
 | 185 => [0,4,16,5,6,23,7,8,45,10,9,57,59,11,75,77,12,98,2,3]
 | 186 => [1,160,0,171,175,177,176,6,181,5,183,7,8,9,26,33,11,43,12,51,64,10,98,13,108,124,14,15,139,16,143,156,4]
 | 187 => [0,2]
 | 188 => [1,5,0,16,24,31,36,8,9,59,6,64,11,73,7,93,10,107,12,114,132,13,139,4]
 | 191 => [0,1,4]
 | 192 => [0,3,10,2]
 | 193 => [0,2]
 | 195 => [0,1,4]
 | 196 => [1,9,7,20,8,0,5,39,10,44,6,77,4]
 | 198 => [5,0,12,4,8,25,30,6,7,2,3]
 | 226 => []
 | _ => []
def isImp (me f : Nat) (d : Option Nat) : Bool := impF.any (Nat.beq f) || impC.any fun t => Nat.beq t.1 me && Nat.beq t.2.1 f && (match d with | some d => Nat.beq t.2.2 d | none => false)
noncomputable def CC : Cfg := { P := Tryz.prog,pure := fun me f d => !(isImp me f d),alter := fun me d => altF.any (Nat.beq me) || (match d with | some d => altC.any fun t => Nat.beq t.1 me && Nat.beq t.2 d | none => false),keep := keepF,ext := fun f' => if Nat.beq f' 107 then some fieldsA else if Nat.beq f' 127 then some joinStr else if Nat.beq f' 197 then some idxStr else if Nat.beq f' 131 then some cmpStr else none }
theorem mixedC : CC.P.follows .mixedOrders = true := by show Tryz.prog.follows .mixedOrders = true;kernel_rfl
theorem nogo_allC : (Tryz.prog.funcs.toList.all fun fn => !(fn.body.isSome && (fn.name == "runtime.NumGoroutine"))) = true := by kernel_rfl
theorem nogoC : NoGo CC.P := by
 intro f fn hf hb
 have h := List.all_eq_true.1 nogo_allC fn (by
  have : Tryz.prog.funcs[f]? = some fn := hf
  exact List.mem_of_getElem? (by simpa using this))
 rw [hb] at h
 simpa using h
theorem extOKZ : ExtOK { CC with ext := fun _ => none,exh := fun _ => none } := by
 exact ⟨fun _ _ h => (nomatch h),fun _ _ h => (nomatch h),fun _ _ h => (nomatch h)⟩
theorem extOKN : ExtOK (CC.more fun _ => none) := extOKZ
theorem extOKE0 : ExtOK (CC.more (fun f' => if Nat.beq f' 131 then some cmpStr else none)) := by
 refine extOK_more (C := CC.more (fun _ => none)) (f := 131) (g := cmpStr) rfl ?_ extOKN rfl
 intro args v h Z ρ H w vals hs hl
 exact ext_cmp (fn := Tryz.f131) Tryz.func131 (by kernel_rfl) (by kernel_rfl) (by kernel_rfl) (by kernel_rfl) h Z ρ H w vals hs hl
theorem extOKE1 : ExtOK (CC.more (fun f' => if Nat.beq f' 197 then some idxStr else if Nat.beq f' 131 then some cmpStr else none)) := by
 refine extOK_more (C := CC.more (fun f' => if Nat.beq f' 131 then some cmpStr else none)) (f := 197) (g := idxStr) rfl ?_ extOKE0 rfl
 intro args v h Z ρ H w vals hs hl
 exact ext_idx (fn := Tryz.f197) Tryz.func197 (by kernel_rfl) (by kernel_rfl) (by kernel_rfl) (by kernel_rfl) h Z ρ H w vals hs hl
theorem extOKE2 : ExtOK (CC.more (fun f' => if Nat.beq f' 127 then some joinStr else if Nat.beq f' 197 then some idxStr else if Nat.beq f' 131 then some cmpStr else none)) := by
 refine extOK_more (C := CC.more (fun f' => if Nat.beq f' 197 then some idxStr else if Nat.beq f' 131 then some cmpStr else none)) (f := 127) (g := joinStr) rfl ?_ extOKE1 rfl
 intro args v h Z ρ H w vals hs hl
 exact ext_join Go.Proofs.Tryz.lays156 Go.Proofs.Tryz.Builder_Extra_156 (f := 127) rfl ⟨_,Tryz.func127,by kernel_rfl,by kernel_rfl⟩ h Z ρ H w vals hs hl
theorem extOKE3 : ExtOK (CC.more (fun f' => if Nat.beq f' 107 then some fieldsA else if Nat.beq f' 127 then some joinStr else if Nat.beq f' 197 then some idxStr else if Nat.beq f' 131 then some cmpStr else none)) := by
 refine extOK_more (C := CC.more (fun f' => if Nat.beq f' 127 then some joinStr else if Nat.beq f' 197 then some idxStr else if Nat.beq f' 131 then some cmpStr else none)) (f := 107) (g := fieldsA) rfl ?_ extOKE2 rfl
 intro args v h Z ρ H w vals hs hl
 exact ext_fields Go.Proofs.Tryz.lays157 (by kernel_rfl) (by kernel_rfl) (List.mem_singleton.2 rfl) (f := 107) rfl ⟨_,Tryz.func107,by kernel_rfl,by kernel_rfl⟩ h Z ρ H w vals hs hl
theorem extOKC : ExtOK CC := extOKE3
abbrev Good (t : Tell) : Prop := GoodC CC t
theorem good {t : Tell} (T : List Tell) (hT : AllG CC T) (TH : List TellH) (hH : AllH CC TH) (h : ansC (evT (CC.more2 (tabExt CC.ext T) (tabExh CC.exh T TH)) 1000 (.call t.f t.K { objs := [],lock := 0 })) = some t.R) (hb : boundL t.K = 0) : Good t :=
 goodC nogoC mixedC extOKC T hT TH hH 1000 h hb
end Go.Ev.Cl
namespace Go.Ev.Cl
def q0 : AV := .v (.string ⟨⟨[116,104,101]⟩⟩)
def q1 : AV := .v (.string ⟨⟨[115,101,97]⟩⟩)
def q2 : AV := .v (.string ⟨⟨[105,115]⟩⟩)
def q3 : AV := .v (.string ⟨⟨[111,108,100]⟩⟩)
def q4 : AV := .vs 1 [q0,q1,q2,q3] (some 4)
def q5 : AV := .vs 1 [q3,q0,q1] (some 3)
def q6 : AV := .vs 1 [q4,q5] (some 2)
def q7 : AV := .v (.string ⟨⟨[97,110,100]⟩⟩)
def q8 : AV := .vs 1 [q1,q7,q1] (some 3)
def q9 : AV := .vs 1 [q8] (some 1)
def q10 : AV := .v (.int .i64 7)
def q11 : AV := .v (.int .i64 3)
def q12 : AV := .agg [.vs 2 [.agg [q10,q6],.agg [q11,q9]] (some 2)]
def q13 : AV := .v (.int .i64 0)
def q14 : AV := .tup [q12,q13]
def q15 : AV := .v (.int .i64 14)
def q16 : AV := .v (.int .u8 3)
def q17 : AV := .agg [q15,q16]
def q18 : AV := .vs 1 [q0,q1,q2,q3,q3,q0,q1] none
def q19 : AV := .agg [q13,q13,q13]
def q20 : AV := .v (.int .i64 1)
def q21 : AV := .agg [q13,q13,q20]
def q22 : AV := .v (.int .i64 2)
def q23 : AV := .agg [q13,q13,q22]
def q24 : AV := .agg [q13,q13,q11]
def q25 : AV := .agg [q13,q20,q13]
def q26 : AV := .agg [q13,q20,q20]
def q27 : AV := .agg [q13,q20,q22]
def q28 : AV := .vs 3 [q19,q21,q23,q24,q25,q26,q27] none
def q29 : AV := .agg [q15,q16,q18,q28]
def q30 : AV := .vs 1 [q1,q7,q1] none
def q31 : AV := .agg [q20,q13,q13]
def q32 : AV := .agg [q20,q13,q20]
def q33 : AV := .agg [q20,q13,q22]
def q34 : AV := .vs 3 [q31,q32,q33] none
def q35 : AV := .agg [q15,q16,q30,q34]
def q36 : AV := .agg [q13,q11,q15]
def q37 : AV := .v (.string ⟨⟨[]⟩⟩)
def q38 : AV := .v (.string ⟨⟨[115,101,97,32,105,115,32,111,108,100]⟩⟩)
def q39 : AV := .agg [q13,q13,q13,q0,q37,q38]
def q40 : AV := .agg [q20,q22,q15]
def q41 : AV := .v (.string ⟨⟨[105,115,32,111,108,100]⟩⟩)
def q42 : AV := .agg [q13,q13,q20,q1,q0,q41]
def q43 : AV := .agg [q22,q20,q15]
def q44 : AV := .v (.string ⟨⟨[111,108,100,32,111,108,100]⟩⟩)
def q45 : AV := .agg [q13,q13,q22,q2,q1,q44]
def q46 : AV := .agg [q11,q13,q15]
def q47 : AV := .v (.string ⟨⟨[111,108,100,32,116,104,101]⟩⟩)
def q48 : AV := .agg [q13,q13,q11,q3,q2,q47]
def q49 : AV := .v (.int .i64 11)
def q50 : AV := .agg [q20,q20,q49]
def q51 : AV := .agg [q13,q22,q49]
def q52 : AV := .v (.int .i64 4)
def q53 : AV := .agg [q13,q20,q13,q3,q41,q0]
def q54 : AV := .agg [q22,q13,q49]
def q55 : AV := .v (.int .i64 5)
def q56 : AV := .v (.string ⟨⟨[105,115,32,111,108,100,32,111,108,100]⟩⟩)
def q57 : AV := .agg [q13,q20,q20,q0,q56,q37]
def q58 : AV := .v (.int .i64 6)
def q59 : AV := .agg [q13,q20,q22,q1,q47,q37]
def q60 : AV := .v (.string ⟨⟨[97,110,100,32,115,101,97]⟩⟩)
def q61 : AV := .agg [q20,q13,q13,q1,q37,q60]
def q62 : AV := .agg [q20,q13,q20,q7,q1,q1]
def q63 : AV := .v (.string ⟨⟨[115,101,97,32,97,110,100]⟩⟩)
def q64 : AV := .agg [q20,q13,q22,q1,q63,q37]
def q65 : AV := .vs 6 [q39,q42,q45,q48,q53,q57,q59,q61,q62,q64] none
def q66 : AV := .vs 6 [q59,q61] none
def q67 : AV := .v (.string ⟨⟨[97,98,99,100,101,102,103,104,105,106,107,108,109,110,111,112,113,114,115,116,117,118,119,120,121,122]⟩⟩)
def q68 : AV := .agg [q13,q13,q13,q1,q0,q37]
def q69 : AV := .v (.int .u8 0)
def q70 : AV := .agg [q13,q69]
def q71 : AV := .agg [q13,q69,q18,q28]
def q72 : AV := .agg [q13,q69,q30,q34]
def q73 : AV := .vs 3 [q21,q27] none
def q74 : AV := .v (.string ⟨⟨[99,111,108,100]⟩⟩)
def q75 : AV := .agg [q13,q13,q11,q16,q74]
def q76 : AV := .v (.int .u8 1)
def q77 : AV := .agg [q13,q20,q20,q76,q37]
def q78 : AV := .agg [q20,q13,q11]
def q79 : AV := .v (.string ⟨⟨[115,97,108,116]⟩⟩)
def q80 : AV := .agg [q20,q13,q11,.v (.int .u8 2),q79]
def q81 : AV := .vs 5 [q75,q77,q80] (some 3)
def q82 : AV := .v (.int .i64 (-1))
def q83 : AV := .vs 5 [q75] none
def q84 : AV := .vs 1 [q0,q1,q2,q74] none
def q85 : AV := .vs 5 [q77] none
def q86 : AV := .vs 1 [q3,q1] none
def q87 : AV := .vs 5 [q80] none
def q88 : AV := .vs 1 [q1,q7,q1,q79] none
def q89 : AV := .agg [q52,q81]
def q90 : AV := .v (.string ⟨⟨[97]⟩⟩)
def q91 : AV := .v (.string ⟨⟨[98]⟩⟩)
def q92 : AV := .agg [q13,q13,q13,q90,q37,q37]
def q93 : AV := .agg [q13,q13,q13,q91,q37,q37]
def q94 : AV := .agg [q13,q13,q22,q2,q1,q3]
def q95 : AV := .vs 6 [q92,q92] (some 2)
def q96 : AV := .agg [q15,q76]
def q97 : AV := .agg [q15,q76,q18,q28]
def q98 : AV := .agg [q13,q20,q13,q3,q38,q37]
def t0 : Tell := ⟨90,[q0],(.v (.bool true))⟩
def t1 : Tell := ⟨90,[q1],(.v (.bool true))⟩
def t2 : Tell := ⟨90,[q2],(.v (.bool true))⟩
def t3 : Tell := ⟨90,[q3],(.v (.bool true))⟩
def t4 : Tell := ⟨135,[q6],(.v (.bool true))⟩
def t5 : Tell := ⟨90,[q7],(.v (.bool true))⟩
def t6 : Tell := ⟨135,[q9],(.v (.bool true))⟩
def t7 : Tell := ⟨116,[q12],(.v (.bool true))⟩
def t8 : Tell := ⟨85,[q12],q14⟩
def t9 : Tell := ⟨68,[q12],q13⟩
def t10 : Tell := ⟨83,[q17],(.v (.bool true))⟩
def t11 : Tell := ⟨41,[q17],q13⟩
def t12 : Tell := ⟨63,[q12,q17],q13⟩
def t13 : Tell := ⟨100,[q12,q17,q13],q29⟩
def t14 : Tell := ⟨100,[q12,q17,q20],q35⟩
def t15 : Tell := ⟨69,[q12,q17],(.vs 4 [q29,q35] none)⟩
def t16 : Tell := ⟨126,[q29,q13],q36⟩
def t17 : Tell := ⟨101,[q29,q13],q39⟩
def t18 : Tell := ⟨176,[q40,q36],(.v (.bool true))⟩
def t19 : Tell := ⟨126,[q29,q20],q40⟩
def t20 : Tell := ⟨101,[q29,q20],q42⟩
def t21 : Tell := ⟨176,[q43,q40],(.v (.bool false))⟩
def t22 : Tell := ⟨126,[q29,q22],q40⟩
def t23 : Tell := ⟨101,[q29,q22],q45⟩
def t24 : Tell := ⟨176,[q46,q40],(.v (.bool false))⟩
def t25 : Tell := ⟨126,[q29,q11],q40⟩
def t26 : Tell := ⟨101,[q29,q11],q48⟩
def t27 : Tell := ⟨176,[q50,q51],(.v (.bool true))⟩
def t28 : Tell := ⟨176,[q46,q43],(.v (.bool false))⟩
def t29 : Tell := ⟨126,[q29,q52],q43⟩
def t30 : Tell := ⟨101,[q29,q52],q53⟩
def t31 : Tell := ⟨176,[.agg [q20,q13,q10],.agg [q13,q20,q10]],(.v (.bool false))⟩
def t32 : Tell := ⟨176,[q54,q50],(.v (.bool false))⟩
def t33 : Tell := ⟨126,[q29,q55],q46⟩
def t34 : Tell := ⟨101,[q29,q55],q57⟩
def t35 : Tell := ⟨126,[q29,q58],q54⟩
def t36 : Tell := ⟨101,[q29,q58],q59⟩
def t37 : Tell := ⟨126,[q35,q13],q51⟩
def t38 : Tell := ⟨101,[q35,q13],q61⟩
def t39 : Tell := ⟨126,[q35,q20],q50⟩
def t40 : Tell := ⟨101,[q35,q20],q62⟩
def t41 : Tell := ⟨126,[q35,q22],q54⟩
def t42 : Tell := ⟨101,[q35,q22],q64⟩
def t43 : Tell := ⟨75,[q12,q17],q65⟩
def t44 : Tell := ⟨43,[q12,q17],(.tup [q65,q13])⟩
def t45 : Tell := ⟨79,[q12,q27],(.tup [q58,q13])⟩
def t46 : Tell := ⟨79,[q12,q31],(.tup [q10,q13])⟩
def t47 : Tell := ⟨39,[q12,q17,q27,q31],(.tup [q66,q13])⟩
def t48 : Tell := ⟨145,[q67],(.tup [.agg [.v (.bool false),.v (.bool false),.v (.bool false),.v (.bool false),.v (.bool false),.v (.bool false),.v (.bool false),.v (.bool false),.v (.bool false),.v (.bool false),.v (.bool false),.v (.bool false),.v (.bool false),.v (.bool false),.v (.bool false),.v (.bool false),.v (.bool false),.v (.bool false),.v (.bool false),.v (.bool false),.v (.bool false),.v (.bool false),.v (.bool false),.v (.bool false),.v (.bool false),.v (.bool false),.v (.bool false),.v (.bool false),.v (.bool false),.v (.bool false),.v (.bool false),.v (.bool false),.v (.bool false),.v (.bool false),.v (.bool false),.v (.bool false),.v (.bool false),.v (.bool false),.v (.bool false),.v (.bool false),.v (.bool false),.v (.bool false),.v (.bool false),.v (.bool false),.v (.bool false),.v (.bool false),.v (.bool false),.v (.bool false),.v (.bool false),.v (.bool false),.v (.bool false),.v (.bool false),.v (.bool false),.v (.bool false),.v (.bool false),.v (.bool false),.v (.bool false),.v (.bool false),.v (.bool false),.v (.bool false),.v (.bool false),.v (.bool false),.v (.bool false),.v (.bool false),.v (.bool false),.v (.bool false),.v (.bool false),.v (.bool false),.v (.bool false),.v (.bool false),.v (.bool false),.v (.bool false),.v (.bool false),.v (.bool false),.v (.bool false),.v (.bool false),.v (.bool false),.v (.bool false),.v (.bool false),.v (.bool false),.v (.bool false),.v (.bool false),.v (.bool false),.v (.bool false),.v (.bool false),.v (.bool false),.v (.bool false),.v (.bool false),.v (.bool false),.v (.bool false),.v (.bool false),.v (.bool false),.v (.bool false),.v (.bool false),.v (.bool false),.v (.bool false),.v (.bool false),.v (.bool true),.v (.bool true),.v (.bool true),.v (.bool true),.v (.bool true),.v (.bool true),.v (.bool true),.v (.bool true),.v (.bool true),.v (.bool true),.v (.bool true),.v (.bool true),.v (.bool true),.v (.bool true),.v (.bool true),.v (.bool true),.v (.bool true),.v (.bool true),.v (.bool true),.v (.bool true),.v (.bool true),.v (.bool true),.v (.bool true),.v (.bool true),.v (.bool true),.v (.bool true),.v (.bool false),.v (.bool false),.v (.bool false),.v (.bool false),.v (.bool false),.v (.bool false),.v (.bool false),.v (.bool false),.v (.bool false),.v (.bool false),.v (.bool false),.v (.bool false),.v (.bool false),.v (.bool false),.v (.bool false),.v (.bool false),.v (.bool false),.v (.bool false),.v (.bool false),.v (.bool false),.v (.bool false),.v (.bool false),.v (.bool false),.v (.bool false),.v (.bool false),.v (.bool false),.v (.bool false),.v (.bool false),.v (.bool false),.v (.bool false),.v (.bool false),.v (.bool false),.v (.bool false),.v (.bool false),.v (.bool false),.v (.bool false),.v (.bool false),.v (.bool false),.v (.bool false),.v (.bool false),.v (.bool false),.v (.bool false),.v (.bool false),.v (.bool false),.v (.bool false),.v (.bool false),.v (.bool false),.v (.bool false),.v (.bool false),.v (.bool false),.v (.bool false),.v (.bool false),.v (.bool false),.v (.bool false),.v (.bool false),.v (.bool false),.v (.bool false),.v (.bool false),.v (.bool false),.v (.bool false),.v (.bool false),.v (.bool false),.v (.bool false),.v (.bool false),.v (.bool false),.v (.bool false),.v (.bool false),.v (.bool false),.v (.bool false),.v (.bool false),.v (.bool false),.v (.bool false),.v (.bool false),.v (.bool false),.v (.bool false),.v (.bool false),.v (.bool false),.v (.bool false),.v (.bool false),.v (.bool false),.v (.bool false),.v (.bool false),.v (.bool false),.v (.bool false),.v (.bool false),.v (.bool false),.v (.bool false),.v (.bool false),.v (.bool false),.v (.bool false),.v (.bool false),.v (.bool false),.v (.bool false),.v (.bool false),.v (.bool false),.v (.bool false),.v (.bool false),.v (.bool false),.v (.bool false),.v (.bool false),.v (.bool false),.v (.bool false),.v (.bool false),.v (.bool false),.v (.bool false),.v (.bool false),.v (.bool false),.v (.bool false),.v (.bool false),.v (.bool false),.v (.bool false),.v (.bool false),.v (.bool false),.v (.bool false),.v (.bool false),.v (.bool false),.v (.bool false),.v (.bool false),.v (.bool false),.v (.bool false),.v (.bool false),.v (.bool false),.v (.bool false),.v (.bool false),.v (.bool false),.v (.bool false),.v (.bool false),.v (.bool false),.v (.bool false),.v (.bool false),.v (.bool false),.v (.bool false),.v (.bool false)],.v (.bool true)])⟩
def t49 : Tell := ⟨124,[q1,q67],q37⟩
def t50 : Tell := ⟨98,[q1],(.v (.bool true))⟩
def t51 : Tell := ⟨124,[q0,q67],q37⟩
def t52 : Tell := ⟨98,[q0],(.v (.bool true))⟩
def t53 : Tell := ⟨99,[q0],(.v (.bool true))⟩
def t54 : Tell := ⟨99,[q37],(.v (.bool true))⟩
def t55 : Tell := ⟨64,[.vs 6 [q68] (some 1)],q13⟩
def t56 : Tell := ⟨100,[q12,q70,q13],q71⟩
def t57 : Tell := ⟨100,[q12,q70,q20],q72⟩
def t58 : Tell := ⟨69,[q12,q70],(.vs 4 [q71,q72] none)⟩
def t59 : Tell := ⟨108,[.vs 1 [.vs 1 [q0] (some 1),.vs 1 [q1] (some 1),.vs 1 [] (some 0)] (some 3)],(.vs 1 [q0,q1] none)⟩
def t60 : Tell := ⟨70,[q71,q68],q73⟩
def t61 : Tell := ⟨70,[q72,q68],(.v (.slice none 0 0))⟩
def t62 : Tell := ⟨21,[q12,q68],(.tup [q73,q13])⟩
def t63 : Tell := ⟨88,[q12,q24],q4⟩
def t64 : Tell := ⟨90,[q74],(.v (.bool true))⟩
def t65 : Tell := ⟨166,[q4,q75],(.v (.bool true))⟩
def t66 : Tell := ⟨88,[q12,q26],q5⟩
def t67 : Tell := ⟨162,[q5,q77],(.v (.bool true))⟩
def t68 : Tell := ⟨88,[q12,q78],q8⟩
def t69 : Tell := ⟨90,[q79],(.v (.bool true))⟩
def t70 : Tell := ⟨164,[q8,q80],(.v (.bool true))⟩
def t71 : Tell := ⟨137,[q12,q81],(.v (.bool true))⟩
def t72 : Tell := ⟨161,[q24,q26],q82⟩
def t73 : Tell := ⟨161,[q26,q78],q82⟩
def t74 : Tell := ⟨138,[q81],(.v (.bool true))⟩
def t75 : Tell := ⟨123,[q81,q19],q83⟩
def t76 : Tell := ⟨122,[q4,q83],q84⟩
def t77 : Tell := ⟨123,[q81,q25],q85⟩
def t78 : Tell := ⟨122,[q5,q85],q86⟩
def t79 : Tell := ⟨123,[q81,q31],q87⟩
def t80 : Tell := ⟨122,[q8,q87],q88⟩
def t81 : Tell := ⟨96,[q12,q89],(.agg [.vs 2 [.agg [q10,.vs 1 [q84,q86] none],.agg [q11,.vs 1 [q88] none]] none])⟩
def t82 : Tell := ⟨121,[q12,q89],(.v (.bool true))⟩
def t83 : Tell := ⟨95,[q12,q89],q14⟩
def t84 : Tell := ⟨88,[q12,q27],q5⟩
def t85 : Tell := ⟨87,[q12,q27],(.v (.bool true))⟩
def t86 : Tell := ⟨60,[q12,q89,q27],(.tup [q1,q13])⟩
def t87 : Tell := ⟨35,[q12,q89,q27],(.tup [q26,q13])⟩
def t88 : Tell := ⟨124,[q3,q67],q37⟩
def t89 : Tell := ⟨98,[q3],(.v (.bool true))⟩
def t90 : Tell := ⟨99,[q47],(.v (.bool true))⟩
def t91 : Tell := ⟨124,[q7,q67],q37⟩
def t92 : Tell := ⟨98,[q7],(.v (.bool true))⟩
def t93 : Tell := ⟨99,[q60],(.v (.bool true))⟩
def t94 : Tell := ⟨64,[q66],q13⟩
def t95 : Tell := ⟨74,[q66],q13⟩
def t96 : Tell := ⟨23,[q12,q17,q66],(.tup [.vs 3 [q19,q21,q23,q24,q25,q26,q32,q33] none,q13])⟩
def t97 : Tell := ⟨124,[q90,q67],q37⟩
def t98 : Tell := ⟨98,[q90],(.v (.bool true))⟩
def t99 : Tell := ⟨124,[q91,q67],q37⟩
def t100 : Tell := ⟨98,[q91],(.v (.bool true))⟩
def t101 : Tell := ⟨64,[.vs 6 [q92,q93] (some 2)],q13⟩
def t102 : Tell := ⟨82,[q19,q19],q13⟩
def t103 : Tell := ⟨40,[q92,q93],(.tup [q82,q13])⟩
def t104 : Tell := ⟨124,[q2,q67],q37⟩
def t105 : Tell := ⟨98,[q2],(.v (.bool true))⟩
def t106 : Tell := ⟨99,[q1],(.v (.bool true))⟩
def t107 : Tell := ⟨99,[q3],(.v (.bool true))⟩
def t108 : Tell := ⟨64,[.vs 6 [q94] (some 1)],q13⟩
def t109 : Tell := ⟨88,[q12,q23],q4⟩
def t110 : Tell := ⟨87,[q12,q23],(.v (.bool true))⟩
def t111 : Tell := ⟨46,[q12,q23],(.tup [q2,q13])⟩
def t112 : Tell := ⟨102,[q28,q23],q22⟩
def t113 : Tell := ⟨65,[q12,q17,q23],q45⟩
def t114 : Tell := ⟨19,[q12,q17,q94],(.tup [.v (.int .u8 4),q13])⟩
def t115 : Tell := ⟨64,[q95],q13⟩
def t116 : Tell := ⟨74,[q95],q13⟩
def t117 : Tell := ⟨25,[q95],(.tup [.vs 1 [q20] none,q13])⟩
def t118 : Tell := ⟨37,[q12,q17,q23],(.tup [q45,q13])⟩
def t119 : Tell := ⟨32,[q23,q16,q2,q1,q44],(.v (.bool true))⟩
def t120 : Tell := ⟨83,[q96],(.v (.bool true))⟩
def t121 : Tell := ⟨41,[q96],q13⟩
def t122 : Tell := ⟨63,[q12,q96],q13⟩
def t123 : Tell := ⟨88,[q12,q25],q5⟩
def t124 : Tell := ⟨87,[q12,q25],(.v (.bool true))⟩
def t125 : Tell := ⟨46,[q12,q25],(.tup [q3,q13])⟩
def t126 : Tell := ⟨100,[q12,q96,q13],q97⟩
def t127 : Tell := ⟨102,[q28,q25],q52⟩
def t128 : Tell := ⟨126,[q97,q52],q46⟩
def t129 : Tell := ⟨101,[q97,q52],q98⟩
def t130 : Tell := ⟨65,[q12,q96,q25],q98⟩
def t131 : Tell := ⟨37,[q12,q96,q25],(.tup [q98,q13])⟩
def t132 : Tell := ⟨32,[q25,q76,q3,q38,q37],(.v (.bool true))⟩
def t133 : Tell := ⟨27,[q73,.vs 3 [q21,q27] (some 2)],(.v (.bool true))⟩
end Go.Ev.Cl
namespace Go.Ev.Cl
theorem g0 : Good t0 := good [] trivial [] trivial (by kernel_rfl) (by kernel_rfl)
theorem g1 : Good t1 := good [] trivial [] trivial (by kernel_rfl) (by kernel_rfl)
theorem g2 : Good t2 := good [] trivial [] trivial (by kernel_rfl) (by kernel_rfl)
theorem g3 : Good t3 := good [] trivial [] trivial (by kernel_rfl) (by kernel_rfl)
theorem g4 : Good t4 := good [t0,t1,t2,t3] ⟨g0,g1,g2,g3,trivial⟩ [] trivial (by kernel_rfl) (by kernel_rfl)
theorem g5 : Good t5 := good [] trivial [] trivial (by kernel_rfl) (by kernel_rfl)
theorem g6 : Good t6 := good [t1,t5] ⟨g1,g5,trivial⟩ [] trivial (by kernel_rfl) (by kernel_rfl)
theorem g7 : Good t7 := good [t4,t6] ⟨g4,g6,trivial⟩ [] trivial (by kernel_rfl) (by kernel_rfl)
theorem g8 : Good t8 := good [t7] ⟨g7,trivial⟩ [] trivial (by kernel_rfl) (by kernel_rfl)
theorem g9 : Good t9 := good [t8] ⟨g8,trivial⟩ [] trivial (by kernel_rfl) (by kernel_rfl)
theorem g10 : Good t10 := good [] trivial [] trivial (by kernel_rfl) (by kernel_rfl)
theorem g11 : Good t11 := good [t10] ⟨g10,trivial⟩ [] trivial (by kernel_rfl) (by kernel_rfl)
theorem g12 : Good t12 := good [t9,t11] ⟨g9,g11,trivial⟩ [] trivial (by kernel_rfl) (by kernel_rfl)
theorem g13 : Good t13 := good [] trivial [] trivial (by kernel_rfl) (by kernel_rfl)
theorem g14 : Good t14 := good [] trivial [] trivial (by kernel_rfl) (by kernel_rfl)
theorem g15 : Good t15 := good [t13,t14] ⟨g13,g14,trivial⟩ [] trivial (by kernel_rfl) (by kernel_rfl)
theorem g16 : Good t16 := good [] trivial [] trivial (by kernel_rfl) (by kernel_rfl)
theorem g17 : Good t17 := good [t16] ⟨g16,trivial⟩ [] trivial (by kernel_rfl) (by kernel_rfl)
theorem g18 : Good t18 := good [] trivial [] trivial (by kernel_rfl) (by kernel_rfl)
theorem g19 : Good t19 := good [t18] ⟨g18,trivial⟩ [] trivial (by kernel_rfl) (by kernel_rfl)
theorem g20 : Good t20 := good [t19] ⟨g19,trivial⟩ [] trivial (by kernel_rfl) (by kernel_rfl)
theorem g21 : Good t21 := good [] trivial [] trivial (by kernel_rfl) (by kernel_rfl)
theorem g22 : Good t22 := good [t18,t21] ⟨g18,g21,trivial⟩ [] trivial (by kernel_rfl) (by kernel_rfl)
theorem g23 : Good t23 := good [t22] ⟨g22,trivial⟩ [] trivial (by kernel_rfl) (by kernel_rfl)
theorem g24 : Good t24 := good [] trivial [] trivial (by kernel_rfl) (by kernel_rfl)
theorem g25 : Good t25 := good [t21,t24] ⟨g21,g24,trivial⟩ [] trivial (by kernel_rfl) (by kernel_rfl)
theorem g26 : Good t26 := good [t25] ⟨g25,trivial⟩ [] trivial (by kernel_rfl) (by kernel_rfl)
theorem g27 : Good t27 := good [] trivial [] trivial (by kernel_rfl) (by kernel_rfl)
theorem g28 : Good t28 := good [] trivial [] trivial (by kernel_rfl) (by kernel_rfl)
theorem g29 : Good t29 := good [t27,t28] ⟨g27,g28,trivial⟩ [] trivial (by kernel_rfl) (by kernel_rfl)
theorem g30 : Good t30 := good [t29] ⟨g29,trivial⟩ [] trivial (by kernel_rfl) (by kernel_rfl)
theorem g31 : Good t31 := good [] trivial [] trivial (by kernel_rfl) (by kernel_rfl)
theorem g32 : Good t32 := good [] trivial [] trivial (by kernel_rfl) (by kernel_rfl)
theorem g33 : Good t33 := good [t31,t32] ⟨g31,g32,trivial⟩ [] trivial (by kernel_rfl) (by kernel_rfl)
theorem g34 : Good t34 := good [t33] ⟨g33,trivial⟩ [] trivial (by kernel_rfl) (by kernel_rfl)
theorem g35 : Good t35 := good [] trivial [] trivial (by kernel_rfl) (by kernel_rfl)
theorem g36 : Good t36 := good [t35] ⟨g35,trivial⟩ [] trivial (by kernel_rfl) (by kernel_rfl)
theorem g37 : Good t37 := good [] trivial [] trivial (by kernel_rfl) (by kernel_rfl)
theorem g38 : Good t38 := good [t37] ⟨g37,trivial⟩ [] trivial (by kernel_rfl) (by kernel_rfl)
theorem g39 : Good t39 := good [t31] ⟨g31,trivial⟩ [] trivial (by kernel_rfl) (by kernel_rfl)
theorem g40 : Good t40 := good [t39] ⟨g39,trivial⟩ [] trivial (by kernel_rfl) (by kernel_rfl)
theorem g41 : Good t41 := good [] trivial [] trivial (by kernel_rfl) (by kernel_rfl)
theorem g42 : Good t42 := good [t41] ⟨g41,trivial⟩ [] trivial (by kernel_rfl) (by kernel_rfl)
theorem g43 : Good t43 := good [t15,t17,t20,t23,t26,t30,t34,t36,t38,t40,t42] ⟨g15,g17,g20,g23,g26,g30,g34,g36,g38,g40,g42,trivial⟩ [] trivial (by kernel_rfl) (by kernel_rfl)
theorem g44 : Good t44 := good [t12,t43] ⟨g12,g43,trivial⟩ [] trivial (by kernel_rfl) (by kernel_rfl)
theorem g45 : Good t45 := good [t8] ⟨g8,trivial⟩ [] trivial (by kernel_rfl) (by kernel_rfl)
theorem g46 : Good t46 := good [t8] ⟨g8,trivial⟩ [] trivial (by kernel_rfl) (by kernel_rfl)
theorem g47 : Good t47 := good [t12,t43,t45,t46] ⟨g12,g43,g45,g46,trivial⟩ [] trivial (by kernel_rfl) (by kernel_rfl)
theorem g48 : Good t48 := good [] trivial [] trivial (by kernel_rfl) (by kernel_rfl)
theorem g49 : Good t49 := good [t48] ⟨g48,trivial⟩ [] trivial (by kernel_rfl) (by kernel_rfl)
theorem g50 : Good t50 := good [t49] ⟨g49,trivial⟩ [] trivial (by kernel_rfl) (by kernel_rfl)
theorem g51 : Good t51 := good [t48] ⟨g48,trivial⟩ [] trivial (by kernel_rfl) (by kernel_rfl)
theorem g52 : Good t52 := good [t51] ⟨g51,trivial⟩ [] trivial (by kernel_rfl) (by kernel_rfl)
theorem g53 : Good t53 := good [t52] ⟨g52,trivial⟩ [] trivial (by kernel_rfl) (by kernel_rfl)
theorem g54 : Good t54 := good [] trivial [] trivial (by kernel_rfl) (by kernel_rfl)
theorem g55 : Good t55 := good [t50,t53,t54] ⟨g50,g53,g54,trivial⟩ [] trivial (by kernel_rfl) (by kernel_rfl)
theorem g56 : Good t56 := good [] trivial [] trivial (by kernel_rfl) (by kernel_rfl)
theorem g57 : Good t57 := good [] trivial [] trivial (by kernel_rfl) (by kernel_rfl)
theorem g58 : Good t58 := good [t56,t57] ⟨g56,g57,trivial⟩ [] trivial (by kernel_rfl) (by kernel_rfl)
theorem g59 : Good t59 := good [] trivial [] trivial (by kernel_rfl) (by kernel_rfl)
theorem g60 : Good t60 := good [t59] ⟨g59,trivial⟩ [] trivial (by kernel_rfl) (by kernel_rfl)
theorem g61 : Good t61 := good [t59] ⟨g59,trivial⟩ [] trivial (by kernel_rfl) (by kernel_rfl)
theorem g62 : Good t62 := good [t9,t55,t58,t60,t61] ⟨g9,g55,g58,g60,g61,trivial⟩ [] trivial (by kernel_rfl) (by kernel_rfl)
theorem g63 : Good t63 := good [] trivial [] trivial (by kernel_rfl) (by kernel_rfl)
theorem g64 : Good t64 := good [] trivial [] trivial (by kernel_rfl) (by kernel_rfl)
theorem g65 : Good t65 := good [t64] ⟨g64,trivial⟩ [] trivial (by kernel_rfl) (by kernel_rfl)
theorem g66 : Good t66 := good [] trivial [] trivial (by kernel_rfl) (by kernel_rfl)
theorem g67 : Good t67 := good [] trivial [] trivial (by kernel_rfl) (by kernel_rfl)
theorem g68 : Good t68 := good [] trivial [] trivial (by kernel_rfl) (by kernel_rfl)
theorem g69 : Good t69 := good [] trivial [] trivial (by kernel_rfl) (by kernel_rfl)
theorem g70 : Good t70 := good [t69] ⟨g69,trivial⟩ [] trivial (by kernel_rfl) (by kernel_rfl)
theorem g71 : Good t71 := good [t63,t65,t66,t67,t68,t70] ⟨g63,g65,g66,g67,g68,g70,trivial⟩ [] trivial (by kernel_rfl) (by kernel_rfl)
theorem g72 : Good t72 := good [] trivial [] trivial (by kernel_rfl) (by kernel_rfl)
theorem g73 : Good t73 := good [] trivial [] trivial (by kernel_rfl) (by kernel_rfl)
theorem g74 : Good t74 := good [t72,t73] ⟨g72,g73,trivial⟩ [] trivial (by kernel_rfl) (by kernel_rfl)
theorem g75 : Good t75 := good [] trivial [] trivial (by kernel_rfl) (by kernel_rfl)
theorem g76 : Good t76 := good [] trivial [] trivial (by kernel_rfl) (by kernel_rfl)
theorem g77 : Good t77 := good [] trivial [] trivial (by kernel_rfl) (by kernel_rfl)
theorem g78 : Good t78 := good [] trivial [] trivial (by kernel_rfl) (by kernel_rfl)
theorem g79 : Good t79 := good [] trivial [] trivial (by kernel_rfl) (by kernel_rfl)
theorem g80 : Good t80 := good [] trivial [] trivial (by kernel_rfl) (by kernel_rfl)
theorem g81 : Good t81 := good [t75,t76,t77,t78,t79,t80] ⟨g75,g76,g77,g78,g79,g80,trivial⟩ [] trivial (by kernel_rfl) (by kernel_rfl)
theorem g82 : Good t82 := good [t71,t74,t81] ⟨g71,g74,g81,trivial⟩ [] trivial (by kernel_rfl) (by kernel_rfl)
theorem g83 : Good t83 := good [t8,t82] ⟨g8,g82,trivial⟩ [] trivial (by kernel_rfl) (by kernel_rfl)
theorem g84 : Good t84 := good [] trivial [] trivial (by kernel_rfl) (by kernel_rfl)
theorem g85 : Good t85 := good [t84] ⟨g84,trivial⟩ [] trivial (by kernel_rfl) (by kernel_rfl)
theorem g86 : Good t86 := good [t83,t84,t85] ⟨g83,g84,g85,trivial⟩ [] trivial (by kernel_rfl) (by kernel_rfl)
theorem g87 : Good t87 := good [t86] ⟨g86,trivial⟩ [] trivial (by kernel_rfl) (by kernel_rfl)
theorem g88 : Good t88 := good [t48] ⟨g48,trivial⟩ [] trivial (by kernel_rfl) (by kernel_rfl)
theorem g89 : Good t89 := good [t88] ⟨g88,trivial⟩ [] trivial (by kernel_rfl) (by kernel_rfl)
theorem g90 : Good t90 := good [t52,t89] ⟨g52,g89,trivial⟩ [] trivial (by kernel_rfl) (by kernel_rfl)
theorem g91 : Good t91 := good [t48] ⟨g48,trivial⟩ [] trivial (by kernel_rfl) (by kernel_rfl)
theorem g92 : Good t92 := good [t91] ⟨g91,trivial⟩ [] trivial (by kernel_rfl) (by kernel_rfl)
theorem g93 : Good t93 := good [t50,t92] ⟨g50,g92,trivial⟩ [] trivial (by kernel_rfl) (by kernel_rfl)
theorem g94 : Good t94 := good [t50,t54,t90,t93] ⟨g50,g54,g90,g93,trivial⟩ [] trivial (by kernel_rfl) (by kernel_rfl)
theorem g95 : Good t95 := good [t94] ⟨g94,trivial⟩ [] trivial (by kernel_rfl) (by kernel_rfl)
theorem g96 : Good t96 := good [t12,t43,t95] ⟨g12,g43,g95,trivial⟩ [] trivial (by kernel_rfl) (by kernel_rfl)
theorem g97 : Good t97 := good [t48] ⟨g48,trivial⟩ [] trivial (by kernel_rfl) (by kernel_rfl)
theorem g98 : Good t98 := good [t97] ⟨g97,trivial⟩ [] trivial (by kernel_rfl) (by kernel_rfl)
theorem g99 : Good t99 := good [t48] ⟨g48,trivial⟩ [] trivial (by kernel_rfl) (by kernel_rfl)
theorem g100 : Good t100 := good [t99] ⟨g99,trivial⟩ [] trivial (by kernel_rfl) (by kernel_rfl)
theorem g101 : Good t101 := good [t54,t98,t100] ⟨g54,g98,g100,trivial⟩ [] trivial (by kernel_rfl) (by kernel_rfl)
theorem g102 : Good t102 := good [] trivial [] trivial (by kernel_rfl) (by kernel_rfl)
theorem g103 : Good t103 := good [t101,t102] ⟨g101,g102,trivial⟩ [] trivial (by kernel_rfl) (by kernel_rfl)
theorem g104 : Good t104 := good [t48] ⟨g48,trivial⟩ [] trivial (by kernel_rfl) (by kernel_rfl)
theorem g105 : Good t105 := good [t104] ⟨g104,trivial⟩ [] trivial (by kernel_rfl) (by kernel_rfl)
theorem g106 : Good t106 := good [t50] ⟨g50,trivial⟩ [] trivial (by kernel_rfl) (by kernel_rfl)
theorem g107 : Good t107 := good [t89] ⟨g89,trivial⟩ [] trivial (by kernel_rfl) (by kernel_rfl)
theorem g108 : Good t108 := good [t105,t106,t107] ⟨g105,g106,g107,trivial⟩ [] trivial (by kernel_rfl) (by kernel_rfl)
theorem g109 : Good t109 := good [] trivial [] trivial (by kernel_rfl) (by kernel_rfl)
theorem g110 : Good t110 := good [t109] ⟨g109,trivial⟩ [] trivial (by kernel_rfl) (by kernel_rfl)
theorem g111 : Good t111 := good [t8,t109,t110] ⟨g8,g109,g110,trivial⟩ [] trivial (by kernel_rfl) (by kernel_rfl)
theorem g112 : Good t112 := good [] trivial [] trivial (by kernel_rfl) (by kernel_rfl)
theorem g113 : Good t113 := good [t13,t23,t112] ⟨g13,g23,g112,trivial⟩ [] trivial (by kernel_rfl) (by kernel_rfl)
theorem g114 : Good t114 := good [t12,t108,t111,t113] ⟨g12,g108,g111,g113,trivial⟩ [] trivial (by kernel_rfl) (by kernel_rfl)
theorem g115 : Good t115 := good [t54,t98] ⟨g54,g98,trivial⟩ [] trivial (by kernel_rfl) (by kernel_rfl)
theorem g116 : Good t116 := good [t115] ⟨g115,trivial⟩ [] trivial (by kernel_rfl) (by kernel_rfl)
theorem g117 : Good t117 := good [t116] ⟨g116,trivial⟩ [] trivial (by kernel_rfl) (by kernel_rfl)
theorem g118 : Good t118 := good [t12,t111,t113] ⟨g12,g111,g113,trivial⟩ [] trivial (by kernel_rfl) (by kernel_rfl)
theorem g119 : Good t119 := good [t118] ⟨g118,trivial⟩ [] trivial (by kernel_rfl) (by kernel_rfl)
theorem g120 : Good t120 := good [] trivial [] trivial (by kernel_rfl) (by kernel_rfl)
theorem g121 : Good t121 := good [t120] ⟨g120,trivial⟩ [] trivial (by kernel_rfl) (by kernel_rfl)
theorem g122 : Good t122 := good [t9,t121] ⟨g9,g121,trivial⟩ [] trivial (by kernel_rfl) (by kernel_rfl)
theorem g123 : Good t123 := good [] trivial [] trivial (by kernel_rfl) (by kernel_rfl)
theorem g124 : Good t124 := good [t123] ⟨g123,trivial⟩ [] trivial (by kernel_rfl) (by kernel_rfl)
theorem g125 : Good t125 := good [t8,t123,t124] ⟨g8,g123,g124,trivial⟩ [] trivial (by kernel_rfl) (by kernel_rfl)
theorem g126 : Good t126 := good [] trivial [] trivial (by kernel_rfl) (by kernel_rfl)
theorem g127 : Good t127 := good [] trivial [] trivial (by kernel_rfl) (by kernel_rfl)
theorem g128 : Good t128 := good [] trivial [] trivial (by kernel_rfl) (by kernel_rfl)
theorem g129 : Good t129 := good [t128] ⟨g128,trivial⟩ [] trivial (by kernel_rfl) (by kernel_rfl)
theorem g130 : Good t130 := good [t126,t127,t129] ⟨g126,g127,g129,trivial⟩ [] trivial (by kernel_rfl) (by kernel_rfl)
theorem g131 : Good t131 := good [t122,t125,t130] ⟨g122,g125,g130,trivial⟩ [] trivial (by kernel_rfl) (by kernel_rfl)
theorem g132 : Good t132 := good [t131] ⟨g131,trivial⟩ [] trivial (by kernel_rfl) (by kernel_rfl)
theorem g133 : Good t133 := good [] trivial [] trivial (by kernel_rfl) (by kernel_rfl)
end Go.Ev.Cl
namespace Go.Ev.Cl
theorem gAll : Good ⟨31,[],.v (.bool true)⟩ := good [t44,t47,t62,t87,t96,t103,t114,t117,t119,t132,t133] ⟨g44,g47,g62,g87,g96,g103,g114,g117,g119,g132,g133,trivial⟩ [] trivial (by kernel_rfl) (by kernel_rfl)
end Go.Ev.Cl
namespace Go.Ev
open Go.Proofs
noncomputable def eA0 : Exts := e0.more 31 (atArgs [] (.v (.bool true)))
theorem extOKA0 : ExtOK (Cx eA0) := by
 refine extOK_more (C := Cx e0) (f := 31) (g := atArgs [] (.v (.bool true))) rfl ?_ extOK0 rfl
 intro args v h Z ρ H w vals hs hl
 obtain ⟨⟨e,x,he,ha⟩, -⟩ := Cl.gAll
 obtain ⟨rfl,rfl⟩ := atArgs_some h
 exact ext_of_ans (C := Cl.CC.more2 e x) Cl.nogoC Cl.mixedC he ha rfl Z ρ H w vals hs hl
noncomputable def eAJ : Exts := eA0.more 127 joinStr
theorem extOKAJ : ExtOK (Cx eAJ) := by
 refine extOK_more (C := Cx eA0) (f := 127) (g := joinStr) rfl ?_ extOKA0 rfl
 intro args v h Z ρ H w vals hs hl
 exact ext_join Go.Proofs.Tryz.lays156 Go.Proofs.Tryz.Builder_Extra_156 (f := 127) rfl ⟨_,Tryz.func127,by kernel_rfl,by kernel_rfl⟩ h Z ρ H w vals hs hl
noncomputable def eAI : Exts := eAJ.more 197 idxStr
theorem extOKAI : ExtOK (Cx eAI) := by
 refine extOK_more (C := Cx eAJ) (f := 197) (g := idxStr) rfl ?_ extOKAJ rfl
 intro args v h Z ρ H w vals hs hl
 exact ext_idx (fn := Tryz.f197) Tryz.func197 (by kernel_rfl) (by kernel_rfl) (by kernel_rfl) (by kernel_rfl) h Z ρ H w vals hs hl
noncomputable def eA : Exts := eAI.more 107 fieldsA
theorem extOKA : ExtOK (Cx eA) := by
 refine extOK_more (C := Cx eAI) (f := 107) (g := fieldsA) rfl ?_ extOKAI rfl
 intro args v h Z ρ H w vals hs hl
 exact ext_fields Go.Proofs.Tryz.lays157 (by kernel_rfl) (by kernel_rfl) (List.mem_singleton.2 rfl) (f := 107) rfl ⟨_,Tryz.func107,by kernel_rfl,by kernel_rfl⟩ h Z ρ H w vals hs hl
theorem quietA : Quiet eA := by
 intro f h1 h2 h3 h4 h5
 show (if Nat.beq f 107 then _ else if Nat.beq f 197 then _ else if Nat.beq f 127 then _ else if Nat.beq f 31 then _ else e0.x f) = none
 rw [if_neg (fun h => h5 (Nat.eq_of_beq_eq_true h))]
 rw [if_neg (fun h => h4 (Nat.eq_of_beq_eq_true h))]
 rw [if_neg (fun h => h3 (Nat.eq_of_beq_eq_true h))]
 rw [if_neg (fun h => h1 (Nat.eq_of_beq_eq_true h))]
 exact quiet0 f h1 h2 h3 h4 h5
theorem eA107 : eA.x 107 = some fieldsA := rfl
theorem eA197 : eA.x 197 = some idxStr := rfl
theorem eA31 : eA.x 31 = some (atArgs [] (.v (.bool true))) := rfl
end Go.Ev
namespace Go.Ev
open Go.Proofs
attribute [local irreducible] Wp WpS
theorem call31 (me : FuncId) (d : Option Tmp) (H : Heap) : callA (Cx eA) (lim (Cx eA)) me 31 d [] H = some (.v (.bool true),H) := by
 have h : (Cx eA).ext 31 = some (atArgs [] (.v (.bool true))) := eA31
 unfold callA standA
 rw [h];rfl
end Go.Ev
namespace Go.Ev
open Go.Proofs
attribute [local irreducible] Wp WpS
def inB (n lo hi : Int) : Bool := decide (lo ≤ n) && decide (n ≤ hi)
theorem ansS115 {e : Exts} (n lo hi : Int) : Ans (Cx e) 115 [intA n,intA lo,intA hi] (.v (.bool (inB n lo hi))) := by
 unfold Ans inB
 rw [fn_step (fn_115 e) (show Tryz.f115.body = some _ from rfl)]
 cases h1 : decide (lo ≤ n) <;> cases h2 : decide (n ≤ hi)
 all_goals simp only [decide_eq_true_eq,decide_eq_false_iff_not] at h1 h2
 all_goals simp -implicitDefEqProofs only [Tryz.f115,go_sem,↓reduceIte,Int.reduceEq,Int.reduceLT,Int.reduceLE,List.reduceReplicate,intA,setT_nil,setT_cons,ge_iff_le,h1,h2,decide_true,decide_false,↓boolP_bool,↓iteB_true,↓iteB_false]
def cutB (w sd : Int) : Bool := inB w 12 80 && inB sd 1 3
theorem ansS84 {e : Exts} (he : Quiet e) (w sd : Int) (h1 : 0 ≤ sd) (h2 : sd < 256) : Ans (Cx e) 84 [.agg [intA w,.v (.int .u8 sd)]] (.v (.bool (cutB w sd))) := by
 have c1 := fun me d H => (ansS115 (e := e) w 12 80).call (me := me) (d := d) (ext_115 he) (pure_115 _ _ _) rfl H
 have c2 := fun me d H => (ansS115 (e := e) sd 1 3).call (me := me) (d := d) (ext_115 he) (pure_115 _ _ _) rfl H
 have hcv := conv_u8 sd h1 h2
 unfold intA at c1 c2
 unfold Ans cutB
 rw [fn_step (fn_84 e) (show Tryz.f84.body = some _ from rfl)]
 cases h3 : inB w 12 80
 all_goals rw [h3] at c1
 all_goals simp -implicitDefEqProofs only [Tryz.f84,go_sem,↓reduceIte,Int.reduceEq,Int.reduceLT,Int.reduceLE,List.reduceReplicate,intA,setT_nil,setT_cons,c1,c2,hcv,Bool.true_and,Bool.false_and,↓boolP_bool,↓iteB_true,↓iteB_false]
theorem ansS42 {e : Exts} (he : Quiet e) (t : Txt) (ht : Fits t) (ch : AV) (xs : List AV) (hch : SlOf 2 xs ch) (hall : All2 ChapA t xs) (w sd : Int) (h1 : 0 ≤ sd) (h2 : sd < 256) : Ans (Cx e) 42 [.agg [ch],.agg [intA w,.v (.int .u8 sd)]] (.v (.bool (!greatT t && textB t && cutB w sd))) := by
 have h15 := fun me d H => call38 he t ht _ ⟨ch,rfl,xs,hch,hall⟩ me d H
 have h56 := fun me d H => call39 he t ht _ ⟨ch,rfl,xs,hch,hall⟩ me d H
 have c84 := fun me d H => (ansS84 he w sd h1 h2).call (me := me) (d := d) (ext_84 he) (pure_84 _ _ _) rfl H
 unfold intA at c84
 unfold Ans
 rw [fn_step (fn_42 e) (show Tryz.f42.body = some _ from rfl)]
 cases hg : greatT t <;> cases hT : textB t
 all_goals rw [hg] at h15
 all_goals rw [hT] at h56
 all_goals simp -implicitDefEqProofs only [Tryz.f42,go_sem,↓reduceIte,Int.reduceEq,Int.reduceLT,Int.reduceLE,List.reduceReplicate,intA,setT_nil,setT_cons,hch.cells,hch.flat,hch.bound,h15,h56,c84,Bool.not_true,Bool.not_false,Bool.true_and,Bool.false_and,Bool.and_false,↓boolP_bool,↓iteB_true,↓iteB_false]
end Go.Ev
namespace Go.Ev
open Go.Proofs
theorem cells3 {l : List AV} (h : l.length = 3) : ∃ a b c,l = [a,b,c] := by
 match l,h with
 | [a,b,c],_ => exact ⟨a,b,c,rfl⟩
theorem place_of {N : Nat} {cs : List AV} (h : Plain Tryz.prog (N + 2) 28 cs) : ∃ a b c,cs = [intA a,intA b,intA c] := by
 obtain ⟨hl,hf⟩ := plain_struct (l := [(0,3),(1,3),(2,3)]) (by kernel_rfl) (by kernel_rfl) h
 obtain ⟨a,b,c,rfl⟩ := cells3 (hl.trans (by kernel_rfl))
 have h0 := hf (0,3) (by simp)
 have h1 := hf (1,3) (by simp)
 have h2 := hf (2,3) (by simp)
 have e0 : Tryz.prog.cellsOf 3 = 1 := by kernel_rfl
 simp only [e0,List.drop_zero,List.drop_succ_cons,List.take_succ_cons,List.take_zero] at h0 h1 h2
 obtain ⟨m,hm, -⟩ := plain_int (by kernel_rfl : Tryz.prog.underlying 3 = some (.int .i64)) h0
 obtain ⟨n,hn, -⟩ := plain_int (by kernel_rfl : Tryz.prog.underlying 3 = some (.int .i64)) h1
 obtain ⟨k,hk, -⟩ := plain_int (by kernel_rfl : Tryz.prog.underlying 3 = some (.int .i64)) h2
 simp only [List.cons.injEq,and_true] at hm hn hk
 exact ⟨m,n,k,by rw [hm,hn,hk];rfl⟩
theorem u8_wf {m : Int} (h : (Lit.int .u8 m).wf = true) : 0 ≤ m ∧ m < 256 := by
 have h2 : (decide (IntKind.u8.min ≤ m) && decide (m ≤ IntKind.u8.max)) = true := h
 have e1 : IntKind.u8.min = 0 := by decide
 have e2 : IntKind.u8.max = 255 := by decide
 rw [e1,e2] at h2
 simp at h2;omega
end Go.Ev
namespace Go.Ev
open Go.Proofs
attribute [local irreducible] Wp WpS
theorem eq30_self (x y : Operand) (a b c : Int) (s u v : ByteArray) : binA Tryz.prog .eql 30 x y (.agg [.v (.int .i64 a),.v (.int .i64 b),.v (.int .i64 c),.v (.string s),.v (.string u),.v (.string v)]) (.agg [.v (.int .i64 a),.v (.int .i64 b),.v (.int .i64 c),.v (.string s),.v (.string u),.v (.string v)]) = some (.v (.bool true)) := by
 have := (bin_struct (P := Tryz.prog) (t := 30) (us := [.int .i64 a,.int .i64 b,.int .i64 c,.string s,.string u,.string v]) (ws := [.int .i64 a,.int .i64 b,.int .i64 c,.string s,.string u,.string v]) (n := 6) (by kernel_rfl) (by decide) (by kernel_rfl) (by kernel_rfl) x y).1
 rw [show eqCells [.int .i64 a,.int .i64 b,.int .i64 c,.string s,.string u,.string v] [.int .i64 a,.int .i64 b,.int .i64 c,.string s,.string u,.string v] = true by simp [eqCells,eqCell]] at this
 exact this
theorem eAj : eA.x 127 = some joinStr := rfl
def t12 (ch x : AV) (id : Int) (w sd n : Nat) (S0 : ByteArray) (m j : Nat) : List (Tmp × AV) := [(0,.agg [ch]),(1,.agg [intA id,x]),(2,.agg [intA w,.v (.int .u8 sd)]),(3,.v (.int .u16 n)),(4,.ptr 0 0 0),(5,.ptr 1 0 0),(6,.ptr 2 0 0),(8,.v (.bool false)),(9,.v (.bool true)),(42,.v (.bool false)),(10,.ptr 3 0 0),(11,.v (.bool true)),(12,.ptr 4 0 0),(13,intA 0),(14,.v (.string S0)),(15,intA 0),(72,.v (.bool false)),(16,.ptr 5 0 0),(17,intA 0),(18,.ptr 6 0 0),(19,intA 0),(88,.v (.bool false)),(20,.ptr 7 0 0),(21,intA 0),(126,.v (.bool false)),(128,x),(129,intA m),(130,intA j)]
def h12 (ch x o : AV) (id : Int) (w sd a b c : Nat) (mv : Int) (s1 B1 A1 s2 B2 A2 : ByteArray) : List (Option AObj) := [some (.cells 0 0 24 1 false [ch]),some (.cells 0 0 66 1 false [intA id,x]),some (.cells 0 0 26 1 false [intA w,.v (.int .u8 sd)]),some (.cells 0 0 28 1 false [intA a,intA b,intA c]),some (.cells 0 0 24 1 false [o]),some (.cells 0 0 30 1 false [intA a,intA b,intA c,.v (.string s1),.v (.string B1),.v (.string A1)]),some (.cells 0 0 28 1 false [intA a,intA b,intA mv]),some (.cells 0 0 30 1 false [intA a,intA b,intA mv,.v (.string s2),.v (.string B2),.v (.string A2)])]
theorem cut_of {N : Nat} {x : AV} (h : Arg Tryz.prog (N + 3) 26 x) : ∃ w sd : Int,0 ≤ sd ∧ sd < 256 ∧ x = .agg [intA w,.v (.int .u8 sd)] := by
 obtain ⟨A,rfl,hp⟩ := arg_struct (by kernel_rfl) h
 obtain ⟨hl,hf⟩ := plain_struct (l := [(0,3),(1,5)]) (by kernel_rfl) (by kernel_rfl) hp
 obtain ⟨a,b,rfl⟩ := two_cells (hl.trans (by kernel_rfl))
 have h0 := hf (0,3) (by simp)
 have h1 := hf (1,5) (by simp)
 have e0 : Tryz.prog.cellsOf 3 = 1 := by kernel_rfl
 have e1 : Tryz.prog.cellsOf 5 = 1 := by kernel_rfl
 simp only [e0,e1,List.drop_zero,List.drop_succ_cons,List.take_succ_cons,List.take_zero] at h0 h1
 obtain ⟨m,hm, -⟩ := plain_int (by kernel_rfl : Tryz.prog.underlying 3 = some (.int .i64)) h0
 obtain ⟨k,hk,hw⟩ := plain_int (by kernel_rfl : Tryz.prog.underlying 5 = some (.int .u8)) h1
 simp only [List.cons.injEq,and_true] at hm hk
 have := u8_wf hw
 exact ⟨m,k,this.1,this.2,by rw [hm,hk];rfl⟩
end Go.Ev
namespace Go.Ev
open Go.Proofs
attribute [local irreducible] Wp WpS
theorem place_ctx {t : Txt} (hT : textB t = true) {a b c : Nat} {cp : Chap} (hc : t[a]? = some cp) {ln : Line} (hl : cp.2[b]? = some ln) {s : ByteArray} (hs : ln[c]? = some s) :
  (∀ x ∈ (wordsC a 0 cp.2).map (·.2),plainW x) ∧ ((wordsC a 0 cp.2).map (·.2))[atIx (wordsC a 0 cp.2) (a,b,c)]? = some s ∧ plainW s ∧ s.size ≤ 12 := by
 have hsm := small_of hT
 have hcm := List.mem_of_getElem? hc
 obtain ⟨hx, -⟩ := atIx_spec (a := a) hl hs
 have hw : wordB s = true := hsm.word cp hcm ln (List.mem_of_getElem? hl) s (List.mem_of_getElem? hs)
 refine ⟨fun x hx => ?_,by rw [List.getElem?_map,hx];rfl,plainW_of hw,(word_size hw).2⟩
 obtain ⟨y,hy,rfl⟩ := List.mem_map.1 hx
 obtain ⟨-, -,l,q1,q2⟩ := wordsC_sub a cp.2 0 y hy
 exact plainW_of (hsm.word cp hcm l (List.mem_of_getElem? q1) y.2 (List.mem_of_getElem? q2))
theorem ctxOf_best {t : Txt} (hT : textB t = true) {a b c : Nat} {cp : Chap} (hc : t[a]? = some cp) {ln : Line} (hl : cp.2[b]? = some ln) {s : ByteArray} (hs : ln[c]? = some s) (w sd : Nat) (hw : 12 ≤ w) :
  ctxOf (wordsC a 0 cp.2) (a,b,c) w sd ∈ ctxs ((wordsC a 0 cp.2).map (·.2)) w (atIx (wordsC a 0 cp.2) (a,b,c)) ∧ ∀ d ∈ ctxs ((wordsC a 0 cp.2).map (·.2)) w (atIx (wordsC a 0 cp.2) (a,b,c)),aheadC sd d (ctxOf (wordsC a 0 cp.2) (a,b,c) w sd) = false := by
 obtain ⟨hp,hi,hps,h12⟩ := place_ctx hT hc hl hs
 have hlt := (List.getElem?_eq_some_iff.1 hi).1
 obtain ⟨cc,h1,h2⟩ := best_some sd (ctxs_ne (w := w) hlt hi (by omega))
 unfold ctxOf
 rw [h1]
 exact ⟨h2,bestC_all h1⟩
end Go.Ev
namespace Go.Ev
open Go.Proofs
attribute [local irreducible] Wp WpS
end Go.Ev
namespace Go.Ev
open Go.Proofs
attribute [local irreducible] Wp WpS
def s50a : List (Plc × ByteArray) → AV
 | [] => .v (.slice none 0 0)
 | _ :: Z => .sl 1 Z.length 0 (Z.length + 1) none
def s50b : List (Plc × ByteArray) → AV
 | [] => .v (.slice none 0 0)
 | _ :: Z => .sl 2 Z.length 0 (Z.length + 1) none
def t50 (ch : AV) (c : Nat) (l : AV) (Z : List (Plc × ByteArray)) (j : Nat) : List (Tmp × AV) := [(0,.agg [ch]),(1,intA c),(2,.ptr 0 0 0),(4,.v (.slice none 0 0)),(5,.v (.slice none 0 0)),(6,s50a Z),(7,s50b Z),(8,l),(9,intA j)]
theorem cells_g (l : List AV) : AV.cells (.agg l) = l := rfl
theorem trim_big {H : Heap} {n : Nat} {vs : List AV} {ms : List Nat} (h : ¬ boundL vs ≤ n) : H.trim n vs ms = H := by
 unfold Heap.trim
 rw [if_neg]
 simp [Nat.ble_eq,h]
end Go.Ev
namespace Go.Ev
open Go.Proofs
attribute [local irreducible] Wp WpS
end Go.Ev
namespace Go.Ev
open Go.Proofs
attribute [local irreducible] Wp WpS
end Go.Ev
namespace Go.Ev
open Go.Proofs
attribute [local irreducible] Wp WpS
def t7 (ch : AV) (w sd n m : Nat) (Z : List (Plc × ByteArray)) (j : Nat) : List (Tmp × AV) := [(0,.agg [ch]),(1,.agg [intA w,.v (.int .u8 sd)]),(2,.v (.int .u16 n)),(3,.v (.int .u8 m)),(4,.ptr 0 0 0),(5,.ptr 1 0 0),(8,.v (.bool false)),(9,.v (.bool true)),(31,.v (.bool false)),(10,.ptr 2 0 0),(11,.v (.bool true)),(12,.ptr 3 0 0),(13,.ptr 4 0 0),(14,intA 0),(15,.ptr 5 0 0),(16,intA 0),(90,.v (.bool false)),(17,.vs 1 (wds Z) none),(18,.vs 3 (pls Z) none),(19,intA j)]
def h7 (ch : AV) (w sd w' a b c : Nat) (s B A B' A' : ByteArray) : List (Option AObj) := [some (.cells 0 0 24 1 false [ch]),some (.cells 0 0 26 1 false [intA w,.v (.int .u8 sd)]),some (.cells 0 0 28 1 false [intA a,intA b,intA c]),some (.cells 0 0 26 1 false [intA w',.v (.int .u8 sd)]),some (.cells 0 0 30 1 false [intA a,intA b,intA c,.v (.string s),.v (.string B),.v (.string A)]),some (.cells 0 0 30 1 false [intA a,intA b,intA c,.v (.string s),.v (.string B'),.v (.string A')])]
end Go.Ev
namespace Go.Ev
open Go.Proofs
end Go.Ev
namespace Go.Ev
open Go.Proofs
attribute [local irreducible] Wp WpS
def sG (b : Nat) : List AV → AV
 | [] => .v (.slice none 0 0)
 | _ :: L => .sl b L.length 0 (L.length + 1) none
def ItG (sz : Nat) (x : AV) : Prop := ∃ cs,x = .agg cs ∧ cs.length = sz
theorem flatG {sz : Nat} : ∀ {L : List AV},(∀ x ∈ L,ItG sz x) → (L.flatMap AV.cells).length = L.length * sz
 | [],_ => by simp
 | x :: r,h => by
  obtain ⟨cs,rfl,hc⟩ := h x (List.mem_cons_self ..)
  rw [List.flatMap_cons,List.length_append,flatG fun y hy => h y (List.mem_cons_of_mem _ hy),cells_g,hc,List.length_cons]
  rw [Nat.add_mul];omega
theorem chunkG {sz : Nat} (hz : sz ≠ 1) : ∀ {L : List AV},(∀ x ∈ L,ItG sz x) → chunk sz L.length (L.flatMap AV.cells) = L
 | [],_ => rfl
 | x :: r,h => by
  obtain ⟨cs,rfl,hc⟩ := h x (List.mem_cons_self ..)
  have ih := chunkG hz (L := r) fun y hy => h y (List.mem_cons_of_mem _ hy)
  rw [List.flatMap_cons,cells_g,List.length_cons,chunk,if_neg hz,List.take_left' hc,List.drop_left' hc,ih]
theorem frzG {H : Heap} (hk : H.lock = 0) {b n e sz : Nat} {L : List AV} (hz : 0 < sz) (hz1 : sz ≠ 1) (hL : L.length = n + 1) (hc : ∀ x ∈ L,ItG sz x) (hr : H.row b n = some (0,e,sz,true,L.flatMap AV.cells)) (k : Nat) : freezeV H (k + 1) (.sl b n 0 (n + 1) none) = some (.vs sz L none) := by
 have h1 := flatG hc
 have h4 := chunkG hz1 hc
 have h2 : 0 + (n + 1) * sz ≤ (L.flatMap AV.cells).length := by rw [h1,hL];omega
 unfold freezeV
 simp only [hr]
 rw [if_neg (by omega),if_pos ⟨h2,hz⟩,if_pos trivial,List.drop_zero,List.take_of_length_le (by rw [h1,hL];omega),← hL,h4]
theorem appG2 (B0 B1 : Option AObj) (e sz b' n : Nat) (cs : List AV) (hz : 0 < sz) (hl : cs.length = (n + 1) * sz) (hf : fitsA b' (n + 1 + 1) = true) (new : List AV) (hn : boundL new = 0) (slot : Nat) : appTo e sz b' ⟨[B0,B1,some (.cells n 0 e sz true cs)],0⟩ slot 1 new (.sl 2 n 0 (n + 1) none) = some (.sl 2 (n + 1) 0 (n + 1 + 1) none,⟨[B0,B1,some (.cells (n + 1) 0 e sz true (cs ++ new))],0⟩) := by
 have := appTo_own (e := e) (sz := sz) (b' := b') (H := ⟨[B0,B1,some (.cells n 0 e sz true cs)],0⟩) (slot := slot) (b := 2) (v := n) (len := n + 1) (n := 1) (new := new) (m := 0) (e' := e) (cs := cs) (by unfold Heap.row Heap.get;simp) (by omega) (Nat.zero_le _) hf (by omega) hz
 rw [this,hn];rfl
def runV (w sd : Int) (a : Nat) (cp : Chap) : AV := .agg [intA w,.v (.int .u8 sd),.vs 1 (wds (wordsC a 0 cp.2)) none,.vs 3 (pls (wordsC a 0 cp.2)) none]
def runsV (w sd : Int) : Nat → Txt → List AV
 | _,[] => []
 | a,cp :: r => runV w sd a cp :: runsV w sd (a + 1) r
theorem runsV_len (w sd : Int) : ∀ (t : Txt) (a : Nat),(runsV w sd a t).length = t.length
 | [],_ => rfl
 | cp :: r,a => by show (runsV w sd (a + 1) r).length + 1 = _;rw [runsV_len w sd r (a + 1)];rfl
theorem runsV_it (w sd : Int) : ∀ (t : Txt) (a : Nat),∀ x ∈ runsV w sd a t,ItG 4 x
 | cp :: r,a,x,h => by
  rcases List.mem_cons.1 h with rfl | h
  ·exact ⟨_,rfl,rfl⟩
  ·exact runsV_it w sd r (a + 1) x h
theorem runsV_get (w sd : Int) : ∀ (t : Txt) (a j : Nat) (cp : Chap),t[j]? = some cp → (runsV w sd a t)[j]? = some (runV w sd (a + j) cp)
 | c :: r,a,0,cp,h => by simp at h;subst h;rfl
 | c :: r,a,j + 1,cp,h => by
  have := runsV_get w sd r (a + 1) j cp (by simpa using h)
  rw [show a + (j + 1) = a + 1 + j by omega];exact this
theorem runsV_take (w sd : Int) (t : Txt) (j : Nat) (cp : Chap) (h : t[j]? = some cp) : (runsV w sd 0 t).take (j + 1) = (runsV w sd 0 t).take j ++ [runV w sd j cp] := by
 rw [List.take_add_one,runsV_get w sd t 0 j cp h,Nat.zero_add];rfl
theorem wordsC_ne {t : Txt} (hs : Small t) {cp : Chap} (h : cp ∈ t) {a : Nat} : wordsC a 0 cp.2 ≠ [] := by
 have h1 := hs.lines cp h
 obtain ⟨ln,hl⟩ := at_lt cp.2 0 (by omega)
 have h2 := hs.words cp h ln (List.mem_of_getElem? hl)
 obtain ⟨s,hx⟩ := at_lt ln 0 (by omega)
 exact fun he => by have := wordsC_in a cp.2 0 0 0 ln s hl hx;rw [he] at this;cases this
def h69 (ch : AV) (w sd : Int) : List AV → Heap
 | [] => ⟨[some (.cells 0 0 24 1 false [ch]),some (.cells 0 0 26 1 false [intA w,.v (.int .u8 sd)])],0⟩
 | x :: L => ⟨[some (.cells 0 0 24 1 false [ch]),some (.cells 0 0 26 1 false [intA w,.v (.int .u8 sd)]),some (.cells L.length 0 121 4 true ((x :: L).flatMap AV.cells))],0⟩
theorem ansS69 {e : Exts} (he : Quiet e) (t : Txt) (ht : Fits t) (hT : textB t = true) (ch : AV) (xs : List AV) (hch : SlOf 2 xs ch) (hall : All2 ChapA t xs) (w sd : Int) : Ans (Cx e) 69 [.agg [ch],.agg [intA w,.v (.int .u8 sd)]] (.vs 4 (runsV w sd 0 t) none) := by
 have hsm := small_of hT
 have hx1 := hall.1
 have hlen := runsV_len w sd t 0
 have hits := runsV_it w sd t 0
 have ht10 := hsm.chs
 unfold Ans
 rw [fn_step (fn_69 e) (show Tryz.f69.body = some _ from rfl)]
 have hcl := hch.len
 rw [← hx1] at hcl
 simp -implicitDefEqProofs only [Tryz.f69,go_sem,↓reduceIte,Int.reduceEq,Int.reduceLT,Int.reduceLE,List.reduceReplicate,intA,setT_nil,setT_cons,hch.cells,hch.flat,hch.bound,hcl,↓boolP_bool,↓iteB_true,↓iteB_false]
 refine Lp_ruleQ (P := fun μ a H => ∃ j,j + μ = t.length ∧ a = ⟨22,[(0,.agg [ch]),(1,.agg [intA w,.v (.int .u8 sd)]),(2,.ptr 0 0 0),(3,.ptr 1 0 0),(4,.v (.slice none 0 0)),(5,sG 2 ((runsV w sd 0 t).take j)),(9,intA t.length),(10,intA j)],[]⟩ ∧ H = h69 ch w sd ((runsV w sd 0 t).take j)) ?_ t.length _ _ ⟨0,by omega,rfl,rfl⟩
 rintro Q KK hQ hKK μ _ _ ⟨j,hj,rfl,rfl⟩
 cases μ with
 | zero =>
  obtain rfl : j = t.length := by omega
  have hnj : ¬ (t.length : Int) < (t.length : Int) := by omega
  rw [List.take_of_length_le (by omega)]
  generalize hR : runsV w sd 0 t = R at *
  rcases R with _ | ⟨x,R⟩
  ·rw [List.length_nil] at hlen;omega
  ·simp -implicitDefEqProofs only [h69,sG,go_sem,↓reduceIte,Int.reduceEq,Int.reduceLT,Int.reduceLE,List.reduceReplicate,intA,setT_nil,setT_cons,hnj,↓boolP_bool,↓iteB_true,↓iteB_false]
   refine hKK _ _ _ ?_
   simp -implicitDefEqProofs only [go_sem,↓reduceIte,Int.reduceEq,Int.reduceLT,Int.reduceLE,List.reduceReplicate,intA,setT_nil,setT_cons,↓boolP_bool,↓iteB_true,↓iteB_false]
   exact frzG (e := 121) rfl (by omega) (by omega) rfl hits (by unfold Heap.row Heap.get;simp) _
 | succ μ =>
  obtain ⟨cp,hcp⟩ := at_lt t j (by omega)
  have hlt : (j : Int) < ((t.length : Nat) : Int) := by omega
  have hw := wrap_succ j (by omega)
  have hcm := List.mem_of_getElem? hcp
  have hcl2 := (hsm.lines cp hcm).2
  have hZl := wordsC_small j cp.2 0 fun l hl => (hsm.words cp hcm l hl).2
  have a100 := ansS100 he t ht ch xs hch hall w sd j cp hcp (by omega) (fun l hl => by have := (hsm.words cp hcm l hl).2;omega) (wordsC_ne hsm hcm) (by omega)
  have c100 := fun me d H => a100.call (me := me) (d := d) (ext_100 he) (pure_100 _ _ _) (by simp only [boundL_cons,bound_agg,hch.bound,boundL_nil];rfl) H
  unfold intA at c100
  have htk := runsV_take w sd t j cp hcp
  have hf1 : fitsA 64 1 = true := by decide
  have hRl : ((runsV w sd 0 t).take j).length = j := by rw [List.length_take];omega
  have hRi : ∀ x ∈ (runsV w sd 0 t).take j,ItG 4 x := fun x hx => hits x (List.mem_of_mem_take hx)
  generalize (runsV w sd 0 t).take j = R at *
  rcases R with _ | ⟨x,R⟩
  ·simp -implicitDefEqProofs only [h69,sG,go_sem,↓reduceIte,Int.reduceEq,Int.reduceLT,Int.reduceLE,List.reduceReplicate,intA,setT_nil,setT_cons,hlt,hw,c100,hf1,hch.bound,cells_g,bound_vs,List.flatMap_cons,List.flatMap_nil,List.append_nil,List.all_cons,List.all_nil,↓boolP_bool,↓iteB_true,↓iteB_false]
   rw [trim_big (fun h => absurd (boundL_le.1 h (.sl 2 0 0 1 none) (by simp)) (by show ¬ 2 + 1 ≤ 2;omega))]
   exact Again.mk' μ (by omega) (hQ _ _ _ ⟨j + 1,by omega,by rw [htk];rfl,by rw [htk];rfl⟩)
  ·have hl9 : R.length + 1 = j := hRl
   have hj6 : j < 6 := by have := hsm.chs;omega
   have hf3 : fitsA 64 (R.length + 1 + 1) = true := by unfold fitsA;exact decide_eq_true (by omega)
   have hfl := flatG hRi
   have hcl3 : (AV.agg [intA w,.v (.int .u8 sd),.vs 1 (wds (wordsC j 0 cp.2)) none,.vs 3 (pls (wordsC j 0 cp.2)) none]).cells = [intA w,.v (.int .u8 sd),.vs 1 (wds (wordsC j 0 cp.2)) none,.vs 3 (pls (wordsC j 0 cp.2)) none] := rfl
   have hsn : (x :: (R ++ [runV w sd j cp])).flatMap AV.cells = (x :: R).flatMap AV.cells ++ [intA w,.v (.int .u8 sd),.vs 1 (wds (wordsC j 0 cp.2)) none,.vs 3 (pls (wordsC j 0 cp.2)) none] := by
    rw [← List.cons_append,List.flatMap_append];rfl
   have htk2 : List.take (j + 1) (runsV w sd 0 t) = x :: (R ++ [runV w sd j cp]) := htk
   have ha := fun B0 B1 slot => appG2 B0 B1 121 4 64 R.length ((x :: R).flatMap AV.cells) (by omega) (by rw [hfl];rfl) hf3 [.v (.int .i64 w),.v (.int .u8 sd),.vs 1 (wds (wordsC j 0 cp.2)) none,.vs 3 (pls (wordsC j 0 cp.2)) none] rfl slot
   unfold intA at hsn
   simp -implicitDefEqProofs only [h69,sG,go_sem,↓reduceIte,Int.reduceEq,Int.reduceLT,Int.reduceLE,List.reduceReplicate,intA,setT_nil,setT_cons,hlt,hw]
   generalize (x :: R).flatMap AV.cells = cs at *
   simp -implicitDefEqProofs only [go_sem,↓reduceIte,Int.reduceEq,Int.reduceLT,Int.reduceLE,List.reduceReplicate,intA,setT_nil,setT_cons,hlt,hw,c100,ha,hch.bound,cells_g,bound_vs,boundL_cons,bound_v,boundL_nil,List.flatMap_cons,List.flatMap_nil,List.append_nil,List.all_cons,List.all_nil,↓boolP_bool,↓iteB_true,↓iteB_false]
   refine Again.mk' μ (by omega) (hQ _ _ _ ⟨j + 1,by omega, ?_, ?_⟩)
   ·rw [htk2];simp only [sG,List.length_append,List.length_cons,List.length_nil];rfl
   ·rw [htk2];simp only [h69,hsn,List.length_append,List.length_cons,List.length_nil];rfl
end Go.Ev
namespace Go.Ev
open Go.Proofs
attribute [local irreducible] Wp WpS
theorem trim4 {a0 a1 a2 a3 : AObj} {q : Option AObj} {vs : List AV} (h0 : a0.bound ≤ 4) (h1 : a1.bound ≤ 4) (h2 : a2.bound ≤ 4) (h3 : a3.bound ≤ 4) (hv : boundL vs ≤ 4) : (Heap.mk [some a0,some a1,some a2,some a3,q] 0).trim 4 vs [] = ⟨[some a0,some a1,some a2,some a3],0⟩ := by
 unfold Heap.trim
 rw [if_pos]
 ·rfl
 ·simp [boundsOk,Nat.ble_eq,hv,h0,h1,h2,h3]
def t75 (ch : AV) (w sd : Nat) (R : List AV) (n : Nat) (L : List AV) (j : Nat) : List (Tmp × AV) := [(0,.agg [ch]),(1,.agg [intA w,.v (.int .u8 sd)]),(2,.ptr 0 0 0),(3,.ptr 1 0 0),(4,.v (.slice none 0 0)),(5,sG 3 L),(11,.vs 4 R none),(12,intA n),(13,intA j)]
end Go.Ev
namespace Go.Ev
open Go.Proofs
attribute [local irreducible] Wp WpS
theorem call_kept {C : Cfg} {f : FuncId} {args : List AV} {H H' : Heap} {v : AV} {me : FuncId} {d : Option Tmp} (hx : C.ext f = none) (hk : callKind C me f d args = 0) (h : Fn' C f args H (fun x X => x = v ∧ X = H')) (hh : C.exh f = none := by rfl) : callA C (lim C) me f d args H = some (v,H'.trim H.size [v] []) := by
 unfold Fn' at h
 rw [bindO_iff] at h
 obtain ⟨o,h1,h2⟩ := h
 cases o with
 | go => exact h2.elim
 | ret x X =>
  obtain ⟨rfl,rfl⟩ := h2
  unfold callA standA standH
  rw [hx];simp only;rw [hh];simp only
  unfold callB
  rw [hk]
  simp only [h1]
theorem trim_up {H : Heap} {n : Nat} {vs : List AV} {ms : List Nat} (h : n < boundL vs) : H.trim n vs ms = H := by
 unfold Heap.trim
 rw [if_neg]
 have : Nat.ble (boundL vs) n = false := by
  cases hb : Nat.ble (boundL vs) n with
  | false => rfl
  | true => have := Nat.le_of_ble_eq_true hb;omega
 simp only [this,Bool.false_and,Bool.false_eq_true,not_false_eq_true]
def rowO (l : List ByteArray) : AObj := .cells 0 0 9 1 true (strs l)
theorem settle_live {H : Heap} {n b : Nat} {o : AObj} (hb : n ≤ b) (h : H.get b = some o) : settleH n H = H := by
 unfold settleH
 rw [if_neg]
 intro hall
 have hx : H.objs[b]? = some (some o) := by
  unfold Heap.get at h
  cases hq : H.objs[b]? with
  | none => rw [hq] at h;exact nomatch h
  | some y => rw [hq] at h;cases y with
   | none => exact nomatch h
   | some z => rw [show z = o from Option.some.inj h]
 have hm : some o ∈ H.objs.drop n := by
  refine List.mem_of_getElem? (i := b - n) ?_
  rw [List.getElem?_drop,show n + (b - n) = b by omega,hx]
 have := List.all_eq_true.1 hall _ hm
 exact nomatch this
theorem und22s : sizeT Tryz.prog 9 = some 1 := by kernel_rfl
theorem strs_take (l : List ByteArray) (j : Nat) : (strs l).take j = strs (l.take j) := by unfold strs;rw [List.map_take]
theorem strs_drop (l : List ByteArray) (j : Nat) : (strs l).drop j = strs (l.drop j) := by unfold strs;rw [List.map_drop]
theorem take_next {α : Type} {l : List α} {j : Nat} {x : α} (h : l[j]? = some x) : l.take (j + 1) = l.take j ++ [x] := by
 rw [List.take_add_one,h];rfl
theorem SlOf.frz {sz : Nat} {xs : List AV} {x : AV} (h : SlOf sz xs x) (H : Heap) : freezeV H 1000000 x = some x := by
 rcases h with ⟨rfl, -⟩ | ⟨cap,rfl⟩
 ·exact freeze_v _ _
 ·exact freeze_vs _ _ _ _
theorem chunk1 : ∀ l : List AV,chunk 1 l.length l = l
 | [] => rfl
 | x :: r => by
  show (if 1 = 1 then (x :: r).headD undefA else _) :: chunk 1 r.length ((x :: r).drop 1) = _
  rw [if_pos rfl]
  show x :: chunk 1 r.length r = _
  rw [chunk1 r]
theorem frzRow {H : Heap} (hk : H.lock = 0) {b v e n : Nat} {cs : List AV} (hr : H.row b v = some (0,e,1,true,cs)) (hn : n = cs.length) (k : Nat) : freezeV H (k + 1) (.sl b v 0 n none) = some (.vs 1 cs none) := by
 subst hn
 unfold freezeV
 simp only [hr]
 rw [if_neg (by omega),if_pos ⟨by omega,by omega⟩,if_pos trivial,List.drop_zero,List.take_of_length_le (by omega),chunk1]
end Go.Ev
namespace Go.Ev
open Go.Proofs
attribute [local irreducible] Wp WpS
theorem cap87 : capA Tryz.prog [87] [.v (.slice none 0 0)] = some (.v (.int .i64 0)) := by kernel_rfl
theorem sliceN (H : Heap) : sliceA Tryz.prog H 87 (.v (.slice none 0 0)) none (some (.v (.int .i64 0))) none = some (.v (.slice none 0 0)) := by
 unfold sliceA
 simp only [und_87,und22s]
 rfl
theorem repStr : ∀ n : Nat,repeatCells [AV.v (.string ⟨#[]⟩)] n = strs (List.replicate n ⟨#[]⟩)
 | 0 => rfl
 | n + 1 => by
  show AV.v (.string ⟨#[]⟩) :: repeatCells [AV.v (.string ⟨#[]⟩)] n = _
  rw [repStr n];rfl
theorem grow87 (H : Heap) (slot n : Nat) (h0 : 0 < n) (hn : n < 100000) : appendA Tryz.prog H slot [87,3] [.v (.slice none 0 0),.v (.int .i64 n)] = some (.sl slot 0 0 n none,H.put slot (rowO (List.replicate n ⟨#[]⟩))) := by
 have hi : (Tryz.prog.info? 9).map (fun i => (i.size,i.bytes)) = some (1,16) := by kernel_rfl
 obtain ⟨i,hi1,hi2⟩ := Option.map_eq_some_iff.1 hi
 simp only [Prod.mk.injEq] at hi2
 obtain ⟨hs,hb⟩ := hi2
 have hu3 : Tryz.prog.underlying 3 = some (.int .i64) := by kernel_rfl
 have hint : isIntT Tryz.prog 3 = true := by kernel_rfl
 have hf : fitsA 16 n = true := by unfold fitsA;exact decide_eq_true (by omega)
 unfold appendA
 simp only [hint,if_true]
 unfold growA
 simp only [und_87,hu3,hi1,zero_9,hs,hb]
 rw [if_pos ⟨by omega,by omega,by omega,rfl,rfl⟩,Int.toNat_natCast]
 unfold madeA
 rw [hb,hf]
 show some (AV.sl slot 0 0 n none,H.put slot (.cells 0 (Nat.max (boundL []) (boundL (repeatCells [AV.v (.string ⟨#[]⟩)] n))) 9 i.size true ([] ++ repeatCells [AV.v (.string ⟨#[]⟩)] n))) = _
 rw [hs,List.nil_append,repStr,strs_bd]
 rfl
theorem sliceR {X : Heap} {N n : Nat} {l : List ByteArray} (hr : X.row N 0 = some (0,9,1,true,strs l)) (hn : 0 < n) : sliceA Tryz.prog X 87 (.sl N 0 0 n none) none (some (.v (.int .i64 0))) none = some (.sl N 0 0 0 none) := by
 have b1 : boundA (some (.v (.int .i64 0))) n n = some 0 := by
  unfold boundA
  simp only []
  rw [if_pos (by omega)];rfl
 have b2 : boundA none 0 0 = some 0 := rfl
 unfold sliceA
 simp only [und_87,und22s,b1,b2,hr]
 rw [if_neg (by simp),if_neg (by omega)]
 rfl
theorem fn130Z {e : Exts} (_he : Quiet e) {X : Heap} {N : Nat} (hN : X.size = N) : Fn' (Cx e) 130 [.v (.slice none 0 0),.v (.int .i64 0)] X (fun v Y => v = .v (.slice none 0 0) ∧ Y = X) := by
 rw [fn_step (fn_130 e) (show Tryz.f130.body = some _ from rfl)]
 simp -implicitDefEqProofs only [Tryz.f130,go_sem,↓reduceIte,Int.reduceEq,Int.reduceLT,Int.reduceLE,List.reduceReplicate,intA,setT_nil,setT_cons,hN,settle_eqN hN,cap87,slLen_none,Int.sub_zero,show IntKind.i64.wrap 0 = 0 from rfl,↓boolP_bool,↓iteB_true,↓iteB_false]
 exact ⟨rfl,rfl⟩
theorem fn130 {e : Exts} (_he : Quiet e) {X : Heap} {N : Nat} (hN : X.size = N) (n : Nat) (h0 : 0 < n) (hn : n < 100000) : Fn' (Cx e) 130 [.v (.slice none 0 0),.v (.int .i64 n)] X (fun v Y => v = .sl N 0 0 0 none ∧ Y = X.plus [some (rowO (List.replicate n ⟨#[]⟩))]) := by
 rw [fn_step (fn_130 e) (show Tryz.f130.body = some _ from rfl)]
 have h1 : ¬ (n : Int) < 0 := by omega
 have h2 : (n : Int) > 0 := by omega
 have w1 : IntKind.i64.wrap ((n : Int) - 0) = (n : Int) := by rw [Int.sub_zero,wrap_in _ (by omega) (by omega)]
 have hput : X.put N (rowO (List.replicate n ⟨#[]⟩)) = X.plus [some (rowO (List.replicate n ⟨#[]⟩))] := by rw [← hN];exact put_push _
 have hget : (X.plus [some (rowO (List.replicate n ⟨#[]⟩))]).get N = some (rowO (List.replicate n ⟨#[]⟩)) := by rw [← hput];exact put_get_eq _ (by omega)
 have hset := settle_live (Nat.le_refl N) hget
 have hgr := fun slot => grow87 X slot n h0 hn
 have hsl := sliceR (n := n) (get_row hget) h0
 rw [Int.sub_zero] at w1
 simp -implicitDefEqProofs only [Tryz.f130,go_sem,↓reduceIte,Int.reduceEq,Int.reduceLT,Int.reduceLE,List.reduceReplicate,intA,setT_nil,setT_cons,hN,settle_eqN hN,h1,h2,w1,cap87,slLen_none,sliceN,hgr,hput,hsl,hset,Int.sub_zero,show IntKind.i64.wrap 0 = 0 from rfl,decide_true,decide_false,↓boolP_bool,↓iteB_true,↓iteB_false]
 exact ⟨rfl,rfl⟩
theorem callG0 {e : Exts} (he : Quiet e) (X : Heap) (me : FuncId) (d : Option Tmp) : callA (Cx e) (lim (Cx e)) me 130 d [.v (.slice none 0 0),.v (.int .i64 0)] X = some (.v (.slice none 0 0),X) := by
 rw [call_kept (ext_130 he) (by unfold callKind;rfl) (fn130Z he rfl),trim_size]
theorem callG1 {e : Exts} (he : Quiet e) (X : Heap) (n : Nat) (h0 : 0 < n) (hn : n < 100000) (me : FuncId) (d : Option Tmp) : callA (Cx e) (lim (Cx e)) me 130 d [.v (.slice none 0 0),.v (.int .i64 n)] X = some (.sl X.size 0 0 0 none,X.plus [some (rowO (List.replicate n ⟨#[]⟩))]) := by
 rw [call_kept (ext_130 he) (by unfold callKind;rfl) (fn130 he rfl n h0 hn),trim_up]
 rw [boundL_cons,bound_sl]
 exact Nat.lt_of_lt_of_le (Nat.lt_succ_self _) (Nat.le_max_left _ _)
end Go.Ev
namespace Go.Ev
open Go.Proofs
attribute [local irreducible] Wp WpS
def lens : List (List ByteArray) → Nat
 | [] => 0
 | p :: r => p.length + lens r
theorem lens_flat : ∀ ps : List (List ByteArray),ps.flatten.length = lens ps
 | [] => rfl
 | p :: r => by rw [List.flatten_cons,List.length_append,lens_flat r];rfl
theorem lens_app : ∀ a b : List (List ByteArray),lens (a ++ b) = lens a + lens b
 | [],b => by simp [lens]
 | p :: a,b => by
  show p.length + lens (a ++ b) = p.length + lens a + lens b
  rw [lens_app a b];omega
theorem lens_take (ps : List (List ByteArray)) (j : Nat) (p : List ByteArray) (h : ps[j]? = some p) : lens (ps.take (j + 1)) = lens (ps.take j) + p.length := by
 rw [take_next h,lens_app];simp [lens]
theorem lens_le (ps : List (List ByteArray)) (j : Nat) : lens (ps.take j) ≤ lens ps := by
 have := lens_app (ps.take j) (ps.drop j)
 rw [List.take_append_drop] at this;omega
theorem cells_SlOf {H : Heap} {p : List ByteArray} {y : AV} (h : SlOf 1 (strs p) y) : cellsFrom H 1 y = some (p.length,strs p) := by
 rcases h with ⟨rfl,hp⟩ | ⟨cap,rfl⟩
 ·have : p = [] := by cases p with
   | nil => rfl
   | cons a r => exact nomatch hp
  subst this;rfl
 ·rw [cells_vs',if_pos rfl,strs_len,strs_cells]
def rowG (A : List ByteArray) (r : Nat) : Heap := ⟨[some (.cells 0 0 9 1 true (strs (A ++ List.replicate r ⟨#[]⟩)))],0⟩
theorem appIn (A p : List ByteArray) (r slot : Nat) (hr : p.length ≤ r) : appTo 9 1 16 (rowG A r) slot p.length (strs p) (.sl 0 0 0 A.length none) = some (.sl 0 0 0 (A.length + p.length) none,rowG (A ++ p) (r - p.length)) := by
 by_cases h0 : p.length = 0
 ·have : p = [] := List.length_eq_zero_iff.1 h0
  subst this
  rw [List.length_nil,appTo_none,List.append_nil];rfl
 ·have hrow : (rowG A r).row 0 0 = some (0,9,1,true,strs (A ++ List.replicate r ⟨#[]⟩)) := by unfold rowG Heap.row Heap.get;simp
  have hlen : (strs (A ++ List.replicate r (⟨#[]⟩ : ByteArray))).length = A.length + r := by rw [strs_len];simp
  have hst : storeCells (rowG A r) 0 0 (0 + A.length * 1) (strs p) = some (rowG (A ++ p) (r - p.length)) := by
   unfold storeCells
   rw [hrow]
   simp only []
   rw [if_pos ⟨Nat.zero_le _,by rw [hlen,strs_len];omega,strs_flat p⟩,strs_bd]
   have hsp : splice (0 + A.length * 1) (strs p) (strs (A ++ List.replicate r (⟨#[]⟩ : ByteArray))) = strs (A ++ p ++ List.replicate (r - p.length) ⟨#[]⟩) := by
    unfold splice
    rw [show 0 + A.length * 1 = A.length by omega,strs_len,strs_take,strs_drop,List.take_left' rfl,← List.drop_drop,List.drop_left' rfl,List.drop_replicate]
    unfold strs
    rw [List.map_append,List.map_append]
   rw [hsp];rfl
  unfold appTo
  simp only [hrow]
  rw [if_neg h0,if_neg (by simp),if_pos (by rw [hlen];omega),hst]
theorem ansS108V {e : Exts} (he : Quiet e) (ps : List (List ByteArray)) (hps : ps.length < 1000) (htot : lens ps < 100000) (xs : List AV) (hxl : xs.length = ps.length) (hxs : ∀ (j : Nat) (p : List ByteArray),ps[j]? = some p → ∃ y,xs[j]? = some y ∧ SlOf 1 (strs p) y) (x : AV) (hx : SlOf 1 xs x) (V : AV) (hV : (lens ps = 0 ∧ V = .v (.slice none 0 0)) ∨ (0 < lens ps ∧ V = .vs 1 (strs ps.flatten) none)) : Ans (Cx e) 108 [x] V := by
 have hlx := hx.len
 rw [hxl] at hlx
 unfold Ans
 rw [fn_step (fn_108 e) (show Tryz.f108.body = some _ from rfl)]
 simp -implicitDefEqProofs only [Tryz.f108,go_sem,↓reduceIte,Int.reduceEq,Int.reduceLT,Int.reduceLE,List.reduceReplicate,intA,setT_nil,setT_cons,hx.cells,hx.flat,hx.bound,hlx,↓boolP_bool,↓iteB_true,↓iteB_false]
 refine Lp_ruleQ (P := fun μ a H => ∃ j,j + μ = ps.length ∧ a = ⟨36,[(0,x),(2,.v (.slice none 0 0)),(3,intA (lens (ps.take j) : Nat)),(9,x),(10,intA ps.length),(11,intA (j : Nat))],[]⟩ ∧ H = ⟨[],0⟩) ?_ ps.length _ _ ⟨0,by omega,rfl,rfl⟩
 rintro Q KK hQ hKK μ _ _ ⟨j,hj,rfl,rfl⟩
 cases μ with
 | succ μ =>
  obtain ⟨p,hp⟩ := at_lt ps j (by omega)
  obtain ⟨y,hy1,hy2⟩ := hxs j p hp
  have hlt : (j : Int) < (ps.length : Int) := by omega
  have hix := hx.idx hy1
  have hly := hy2.len
  rw [strs_len] at hly
  have hw := wrap_succ j (by omega)
  have hle := lens_le ps j
  have hle2 := lens_le ps (j + 1)
  have hlt2 := lens_take ps j p hp
  have w1 : IntKind.i64.wrap (((lens (ps.take j) : Nat) : Int) + (p.length : Int)) = ((lens (ps.take (j + 1)) : Nat) : Int) := by rw [wrap_in _ (by omega) (by omega)];omega
  have hneg : ¬ ((lens (ps.take (j + 1)) : Nat) : Int) < 0 := by omega
  simp -implicitDefEqProofs only [go_sem,↓reduceIte,Int.reduceEq,Int.reduceLT,Int.reduceLE,List.reduceReplicate,intA,setT_nil,setT_cons,hlt,hix,hy2.cells,hy2.flat,hly,w1,hneg,hw,hx.cells,hx.flat,hx.bound,↓boolP_bool,↓iteB_true,↓iteB_false]
  exact Again.mk' μ (by omega) (hQ _ _ _ ⟨j + 1,by omega,rfl,rfl⟩)
 | zero =>
  obtain rfl : j = ps.length := by omega
  have hlt : ¬ (ps.length : Int) < (ps.length : Int) := by omega
  rw [List.take_length]
  simp -implicitDefEqProofs only [go_sem,↓reduceIte,Int.reduceEq,Int.reduceLT,Int.reduceLE,List.reduceReplicate,intA,setT_nil,setT_cons,hlt,↓boolP_bool,↓iteB_true,↓iteB_false]
  refine hKK _ _ _ ?_
  rcases hV with ⟨h0,rfl⟩ | ⟨h0,rfl⟩
  ·have c100 := fun X me d => callG0 he X me d
   have hz : ((lens ps : Nat) : Int) = 0 := by omega
   simp -implicitDefEqProofs only [go_sem,↓reduceIte,Int.reduceEq,Int.reduceLT,Int.reduceLE,List.reduceReplicate,intA,setT_nil,setT_cons,hz,c100,hx.cells,hx.flat,hx.bound,hlx,↓boolP_bool,↓iteB_true,↓iteB_false]
   refine Lp_ruleQ (P := fun μ a H => ∃ j,j + μ = ps.length ∧ a = ⟨36,[(0,x),(2,.v (.slice none 0 0)),(3,intA 0),(9,x),(10,intA ps.length),(11,intA ps.length),(6,.v (.slice none 0 0)),(25,x),(26,intA ps.length),(27,intA (j : Nat))],[]⟩ ∧ H = ⟨[],0⟩) ?_ ps.length _ _ ⟨0,by omega,rfl,rfl⟩
   rintro Q2 K2 hQ2 hK2 μ2 _ _ ⟨j,hj,rfl,rfl⟩
   cases μ2 with
   | zero =>
    obtain rfl : j = ps.length := by omega
    simp -implicitDefEqProofs only [go_sem,↓reduceIte,Int.reduceEq,Int.reduceLT,Int.reduceLE,List.reduceReplicate,intA,setT_nil,setT_cons,hlt,↓boolP_bool,↓iteB_true,↓iteB_false]
    refine hK2 _ _ _ ?_
    simp -implicitDefEqProofs only [go_sem,↓reduceIte,Int.reduceEq,Int.reduceLT,Int.reduceLE,List.reduceReplicate,intA,setT_nil,setT_cons,↓boolP_bool,↓iteB_true,↓iteB_false]
   | succ μ2 =>
    obtain ⟨p,hp⟩ := at_lt ps j (by omega)
    obtain ⟨y,hy1,hy2⟩ := hxs j p hp
    have hltj : (j : Int) < (ps.length : Int) := by omega
    have hix := hx.idx hy1
    have hw := wrap_succ j (by omega)
    have hp0 : p = [] := List.length_eq_zero_iff.1 (by
     have h1 := lens_take ps j p hp
     have h2 := lens_le ps (j + 1)
     omega)
    subst hp0
    have hcl := fun H => cells_SlOf (H := H) hy2
    simp only [List.length_nil,show strs [] = [] from rfl] at hcl
    simp -implicitDefEqProofs only [go_sem,↓reduceIte,Int.reduceEq,Int.reduceLT,Int.reduceLE,List.reduceReplicate,intA,setT_nil,setT_cons,hltj,hix,hy2.cells,hy2.flat,hcl,hw,hx.cells,hx.flat,hx.bound,List.all_nil,↓boolP_bool,↓iteB_true,↓iteB_false]
    exact Again.mk' μ2 (by omega) (hQ2 _ _ _ ⟨j + 1,by omega,rfl,rfl⟩)
  ·have c100 := fun X me d => callG1 he X (lens ps) h0 htot me d
   simp -implicitDefEqProofs only [go_sem,↓reduceIte,Int.reduceEq,Int.reduceLT,Int.reduceLE,List.reduceReplicate,intA,setT_nil,setT_cons,c100,hx.cells,hx.flat,hx.bound,hlx,↓boolP_bool,↓iteB_true,↓iteB_false]
   refine Lp_ruleQ (P := fun μ a H => ∃ j,j + μ = ps.length ∧ a = ⟨36,[(0,x),(2,.v (.slice none 0 0)),(3,intA (lens ps)),(9,x),(10,intA ps.length),(11,intA ps.length),(6,.sl 0 0 0 (lens (ps.take j)) none),(25,x),(26,intA ps.length),(27,intA (j : Nat))],[]⟩ ∧ H = rowG (ps.take j).flatten (lens ps - lens (ps.take j))) ?_ ps.length _ _ ⟨0,by omega,rfl,rfl⟩
   rintro Q2 K2 hQ2 hK2 μ2 _ _ ⟨j,hj,rfl,rfl⟩
   cases μ2 with
   | zero =>
    obtain rfl : j = ps.length := by omega
    rw [List.take_length,Nat.sub_self]
    have hrg : rowG ps.flatten 0 = ⟨[some (.cells 0 0 9 1 true (strs ps.flatten))],0⟩ := by unfold rowG;simp
    rw [hrg]
    simp -implicitDefEqProofs only [go_sem,↓reduceIte,Int.reduceEq,Int.reduceLT,Int.reduceLE,List.reduceReplicate,intA,setT_nil,setT_cons,hlt,↓boolP_bool,↓iteB_true,↓iteB_false]
    refine hK2 _ _ _ ?_
    simp -implicitDefEqProofs only [go_sem,↓reduceIte,Int.reduceEq,Int.reduceLT,Int.reduceLE,List.reduceReplicate,intA,setT_nil,setT_cons,↓boolP_bool,↓iteB_true,↓iteB_false]
    exact frzRow (k := 999999) rfl (by unfold Heap.row Heap.get;simp;rfl) (by rw [strs_len,lens_flat])
   | succ μ2 =>
    obtain ⟨p,hp⟩ := at_lt ps j (by omega)
    obtain ⟨y,hy1,hy2⟩ := hxs j p hp
    have hltj : (j : Int) < (ps.length : Int) := by omega
    have hix := hx.idx hy1
    have hw := wrap_succ j (by omega)
    have hcl := fun H => cells_SlOf (H := H) hy2
    have h1 := lens_take ps j p hp
    have h2 := lens_le ps (j + 1)
    have hA : (ps.take j).flatten.length = lens (ps.take j) := lens_flat _
    have hap := fun slot => appIn (ps.take j).flatten p (lens ps - lens (ps.take j)) slot (by omega)
    rw [hA] at hap
    have hB : rowG ((ps.take j).flatten ++ p) (lens ps - lens (ps.take j) - p.length) = rowG (ps.take (j + 1)).flatten (lens ps - lens (ps.take (j + 1))) := by
     rw [take_next hp,List.flatten_append,lens_app,show lens [p] = p.length by simp [lens]]
     congr 1
     ·simp
     ·omega
    rw [hB,← h1] at hap
    obtain ⟨c1,hc1⟩ : ∃ c,rowG (ps.take j).flatten (lens ps - lens (ps.take j)) = ⟨[some (.cells 0 0 9 1 true c)],0⟩ := ⟨_,rfl⟩
    obtain ⟨c2,hc2⟩ : ∃ c,rowG (ps.take (j + 1)).flatten (lens ps - lens (ps.take (j + 1))) = ⟨[some (.cells 0 0 9 1 true c)],0⟩ := ⟨_,rfl⟩
    rw [hc1,hc2] at hap
    rw [hc1]
    simp -implicitDefEqProofs only [go_sem,↓reduceIte,Int.reduceEq,Int.reduceLT,Int.reduceLE,List.reduceReplicate,intA,setT_nil,setT_cons,hltj,hix,hy2.cells,hy2.flat,hcl,strs_flat,hap,hw,hx.cells,hx.flat,hx.bound,↓boolP_bool,↓iteB_true,↓iteB_false]
    exact Again.mk' μ2 (by omega) (hQ2 _ _ _ ⟨j + 1,by omega,rfl,hc2.symm⟩)
theorem ansS108 {e : Exts} (he : Quiet e) (ps : List (List ByteArray)) (hps : ps.length < 1000) (htot : lens ps < 100000) (xs : List AV) (hxl : xs.length = ps.length) (hxs : ∀ (j : Nat) (p : List ByteArray),ps[j]? = some p → ∃ y,xs[j]? = some y ∧ SlOf 1 (strs p) y) (x : AV) (hx : SlOf 1 xs x) : ∃ v,SlOf 1 (strs ps.flatten) v ∧ Ans (Cx e) 108 [x] v := by
 by_cases h0 : lens ps = 0
 ·refine ⟨.v (.slice none 0 0),Or.inl ⟨rfl, ?_⟩,ansS108V he ps hps htot xs hxl hxs x hx _ (Or.inl ⟨h0,rfl⟩)⟩
  have : ps.flatten = [] := List.length_eq_zero_iff.1 (by rw [lens_flat];exact h0)
  rw [this];rfl
 ·exact ⟨_,Or.inr ⟨_,rfl⟩,ansS108V he ps hps htot xs hxl hxs x hx _ (Or.inr ⟨by omega,rfl⟩)⟩
end Go.Ev
namespace Go.Ev
open Go.Proofs
attribute [local irreducible] Wp WpS
theorem ansS109 {e : Exts} (l m : List ByteArray) (hl : l.length < 2 ^ 63) (x y : AV) (hx : SlOf 1 (strs l) x) (hy : SlOf 1 (strs m) y) : Ans (Cx e) 109 [x,y] (.v (.bool (decide (l = m)))) := by
 unfold Ans
 rw [fn_step (fn_109 e) (show Tryz.f109.body = some _ from rfl)]
 have hlx := hx.len
 have hly := hy.len
 rw [strs_len] at hlx hly
 by_cases hlen : l.length = m.length
 ·have hli : ((l.length : Int) = (m.length : Int)) := by omega
  simp -implicitDefEqProofs only [Tryz.f109,go_sem,↓reduceIte,Int.reduceEq,Int.reduceLT,Int.reduceLE,List.reduceReplicate,intA,setT_nil,setT_cons,hx.cells,hx.flat,hx.bound,hy.cells,hy.flat,hy.bound,hlx,hly,hli,decide_true,Bool.not_true,↓boolP_bool,↓iteB_true,↓iteB_false]
  refine Lp_ruleQ (P := fun μ a H => ∃ j,j + μ = l.length ∧ decide (l = m) = decide (l.drop j = m.drop j) ∧ a = ⟨26,[(0,x),(1,y),(4,.v (.bool false)),(10,.v (.bool false)),(12,intA m.length),(13,intA (j : Nat))],[]⟩ ∧ H = ⟨[],0⟩) ?_ l.length _ _ ⟨0,by omega,rfl,rfl,rfl⟩
  rintro Q KK hQ hKK μ _ _ ⟨j,hj,hall,rfl,rfl⟩
  cases μ with
  | zero =>
   obtain rfl : j = l.length := by omega
   have hlt : ¬ (m.length : Int) < (m.length : Int) := by omega
   have hd : decide (l = m) = true := by rw [hall,List.drop_length,hlen,List.drop_length];rfl
   simp -implicitDefEqProofs only [go_sem,↓reduceIte,Int.reduceEq,Int.reduceLT,Int.reduceLE,List.reduceReplicate,intA,setT_nil,setT_cons,hx.cells,hx.flat,hx.bound,hlx,hli,hlt,↓boolP_bool,↓iteB_true,↓iteB_false]
   refine hKK _ _ _ ?_
   simp -implicitDefEqProofs only [go_sem,↓reduceIte,Int.reduceEq,Int.reduceLT,Int.reduceLE,List.reduceReplicate,intA,setT_nil,setT_cons,hd,↓boolP_bool,↓iteB_true,↓iteB_false]
  | succ μ =>
   obtain ⟨r,hr⟩ := at_lt l j (by omega)
   obtain ⟨s,hs⟩ := at_lt m j (by omega)
   have hlt : (j : Int) < (m.length : Int) := by omega
   have hix := hx.idx (strs_get hr)
   have hiy := hy.idx (strs_get hs)
   have hw := wrap_succ j (by omega)
   rw [drop_eq_cons hr,drop_eq_cons hs] at hall
   simp -implicitDefEqProofs only [go_sem,↓reduceIte,Int.reduceEq,Int.reduceLT,Int.reduceLE,List.reduceReplicate,intA,setT_nil,setT_cons,hx.cells,hx.flat,hx.bound,hlx,hli,hlt,↓boolP_bool,↓iteB_true,↓iteB_false]
   refine wp_drawX [([],[],false),([],[],false),([],[],false),([],[],false),([],[],false),([],[],false),([],[],false),([3],[],false),([],[],false)] (by kernel_rfl) (by kernel_rfl) ?_
   by_cases hd : r = s
   ·subst hd
    simp -implicitDefEqProofs only [go_sem,↓reduceIte,Int.reduceEq,Int.reduceLT,Int.reduceLE,List.reduceReplicate,intA,setT_nil,setT_cons,hix,hiy,hw,decide_true,Bool.not_true,↓boolP_bool,↓iteB_true,↓iteB_false]
    exact Again.mk' μ (by omega) (hQ _ _ _ ⟨j + 1,by omega,by rw [hall];simp,rfl,rfl⟩)
   ·have h0 : decide (l = m) = false := by rw [hall];simp [hd]
    simp -implicitDefEqProofs only [go_sem,↓reduceIte,Int.reduceEq,Int.reduceLT,Int.reduceLE,List.reduceReplicate,intA,setT_nil,setT_cons,hix,hiy,hw,decide_eq_false hd,Bool.not_false,↓boolP_bool,↓iteB_true,↓iteB_false]
    refine hKK _ _ _ ?_
    simp -implicitDefEqProofs only [go_sem,↓reduceIte,Int.reduceEq,Int.reduceLT,Int.reduceLE,List.reduceReplicate,intA,setT_nil,setT_cons,h0,↓boolP_bool,↓iteB_true,↓iteB_false]
 ·have hli : ¬ ((l.length : Int) = (m.length : Int)) := by omega
  have h0 : decide (l = m) = false := decide_eq_false fun h => hlen (congrArg _ h)
  simp -implicitDefEqProofs only [Tryz.f109,go_sem,↓reduceIte,Int.reduceEq,Int.reduceLT,Int.reduceLE,List.reduceReplicate,intA,setT_nil,setT_cons,hx.cells,hx.flat,hx.bound,hy.cells,hy.flat,hy.bound,hlx,hly,hli,h0,decide_false,Bool.not_false,↓boolP_bool,↓iteB_true,↓iteB_false]
theorem call109 {e : Exts} (he : Quiet e) (l m : List ByteArray) (hl : l.length < 2 ^ 63) (x y : AV) (hx : SlOf 1 (strs l) x) (hy : SlOf 1 (strs m) y) (me : FuncId) (d : Option Tmp) (H : Heap) : callA (Cx e) (lim (Cx e)) me 109 d [x,y] H = some (.v (.bool (decide (l = m))),H) :=
 (ansS109 l m hl x y hx hy).call (ext_109 he) (pure_109 _ _ _) (by simp only [boundL_cons,hx.bound,hy.bound,boundL_nil];rfl) H
end Go.Ev
namespace Go.Ev
open Go.Proofs
attribute [local irreducible] Wp WpS
theorem slice_midA {P : Program} {t et sz : Nat} (hu : P.underlying t = some (.slice et)) (hs : sizeT P et = some sz) (xs : List AV) (cap : Option Nat) (i j : Nat) (hij : i ≤ j) (hj : j ≤ xs.length) : ∃ cap',∀ H : Heap,sliceA P H t (.vs sz xs cap) (some (.v (.int .i64 i))) (some (.v (.int .i64 j))) none = some (.vs sz ((xs.take j).drop i) cap') := by
 have h1 : (0 : Int) ≤ (j : Int) ∧ (j : Int) ≤ (xs.length : Int) := by omega
 have h2 : (0 : Int) ≤ (i : Int) ∧ (i : Int) ≤ (j : Int) := by omega
 refine ⟨capOf none xs.length i cap, ?_⟩
 intro H
 unfold sliceA
 simp [hu,hs,boundA,h1,h2]
end Go.Ev
namespace Go.Ev
open Go.Proofs
attribute [local irreducible] Wp WpS
end Go.Ev
namespace Go.Ev
open Go.Proofs
attribute [local irreducible] Wp WpS
def tabJ (j : Nat) : List AV := (List.range 256).map fun i => .v (.bool (decide (97 ≤ i ∧ i < 97 + j)))
theorem tabJ_len (j : Nat) : (tabJ j).length = 256 := by unfold tabJ;rw [List.length_map,List.length_range]
theorem tabJ_get (j i : Nat) (h : i < 256) : (tabJ j)[i]? = some (.v (.bool (decide (97 ≤ i ∧ i < 97 + j)))) := by
 unfold tabJ
 rw [List.getElem?_map,List.getElem?_range h];rfl
theorem dj {i j : Nat} (h : i ≠ 97 + j) : decide (97 ≤ i ∧ i < 97 + j) = decide (97 ≤ i ∧ i < 97 + (j + 1)) := by rw [decide_eq_decide];omega
theorem tabJ_set (j : Nat) (h : j < 26) : List.take (97 + j) (tabJ j) ++ [AV.v (.bool true)] ++ List.drop (97 + j + 1) (tabJ j) = tabJ (j + 1) := by
 apply List.ext_getElem?
 intro i
 rcases Nat.lt_trichotomy i (97 + j) with h1 | h1 | h1
 ·rw [List.append_assoc,List.getElem?_append_left (by rw [List.length_take,tabJ_len];omega),List.getElem?_take,if_pos h1,tabJ_get j i (by omega),tabJ_get (j + 1) i (by omega)]
  rw [dj (by omega)]
 ·subst h1
  rw [List.append_assoc,List.getElem?_append_right (by rw [List.length_take,tabJ_len];omega),tabJ_get (j + 1) _ (by omega),List.length_take,tabJ_len,show 97 + j - min (97 + j) 256 = 0 by omega]
  simp
 ·rw [List.getElem?_append_right (by rw [List.length_append,List.length_take,tabJ_len];simp;omega),List.getElem?_drop,List.length_append,List.length_take,tabJ_len]
  simp only [List.length_cons,List.length_nil]
  rw [show 97 + j + 1 + (i - (min (97 + j) 256 + (0 + 1))) = i by omega]
  rcases Nat.lt_or_ge i 256 with h2 | h2
  ·rw [tabJ_get j i h2,tabJ_get (j + 1) i h2,dj (by omega)]
  ·rw [List.getElem?_eq_none (by rw [tabJ_len];omega),List.getElem?_eq_none (by rw [tabJ_len];omega)]
theorem tabJ_zero : tabJ 0 = List.replicate 256 (AV.v (.bool false)) := by
 apply List.ext_getElem?
 intro i
 rcases Nat.lt_or_ge i 256 with h | h
 ·rw [tabJ_get 0 i h,List.getElem?_replicate,if_pos h]
  rw [show decide (97 ≤ i ∧ i < 97 + 0) = false from decide_eq_false (by omega)]
 ·rw [List.getElem?_eq_none (by rw [tabJ_len];omega),List.getElem?_replicate,if_neg (by omega)]
theorem tabJ_flat (j : Nat) : (tabJ j).all AV.flat = true := by
 rw [List.all_eq_true]
 intro x hx
 obtain ⟨i, -,rfl⟩ := List.mem_map.1 hx;rfl
theorem tabJ_bd (j : Nat) : boundL (tabJ j) = 0 := by
 refine Nat.le_zero.1 (boundL_le.2 fun x hx => ?_)
 obtain ⟨i, -,rfl⟩ := List.mem_map.1 hx;exact Nat.le_refl _
def alph : ByteArray := ⟨#[97,98,99,100,101,102,103,104,105,106,107,108,109,110,111,112,113,114,115,116,117,118,119,120,121,122]⟩
theorem freezeL_vals (H : Heap) : ∀ (l : List AV),(∀ x ∈ l,∃ v,x = .v v) → ∀ k,l.length + 2 ≤ k → freezeL H k l = some l
 | [],_,k,hk => by obtain ⟨k',rfl⟩ : ∃ k',k = k' + 1 := ⟨k - 1,by omega⟩;rfl
 | x :: r,h,k,hk => by
  obtain ⟨k',rfl⟩ : ∃ k',k = k' + 2 := ⟨k - 2,by omega⟩
  obtain ⟨v,rfl⟩ := h x (List.mem_cons_self ..)
  simp only [List.length_cons] at hk
  have ih := freezeL_vals H r (fun y hy => h y (List.mem_cons_of_mem _ hy)) (k' + 1) (by omega)
  show (match freezeV H (k' + 1) (.v v),freezeL H (k' + 1) r with | some y,some ys => some (y :: ys) | _,_ => none) = _
  rw [ih];rfl
theorem alph_at : ∀ j < 26,strAt alph j = some (UInt8.ofNat (97 + j)) := by decide
theorem ansS145 {e : Exts} : Ans (Cx e) 145 [.v (.string alph)] (.tup [.agg (tabJ 26),.v (.bool true)]) := by
 have hz : zeroT Tryz.prog 209 = some (.agg (tabJ 0)) := by rw [tabJ_zero];kernel_rfl
 have hsz : alph.size = 26 := rfl
 unfold Ans
 rw [fn_step (fn_145 e) (show Tryz.f145.body = some _ from rfl)]
 simp -implicitDefEqProofs only [Tryz.f145,go_sem,↓reduceIte,Int.reduceEq,Int.reduceLT,Int.reduceLE,List.reduceReplicate,intA,setT_nil,setT_cons,hz,tabJ_flat,↓boolP_bool,↓iteB_true,↓iteB_false]
 refine Lp_ruleQ (P := fun μ a H => ∃ j,j + μ = 26 ∧ a = ⟨21,[(0,.v (.string alph)),(2,.ptr 0 0 0),(3,.v (.bool false)),(4,intA j)],[]⟩ ∧ H = ⟨[some (.cells 0 0 209 1 false (tabJ j))],0⟩) ?_ 26 _ _ ⟨0,by omega,rfl,rfl⟩
 rintro Q KK hQ hKK μ _ _ ⟨j,hj,rfl,rfl⟩
 cases μ with
 | zero =>
  obtain rfl : j = 26 := by omega
  have hlt : ¬ ((26 : Nat) : Int) < ((26 : Nat) : Int) := by decide
  have htl := tabJ_len 26
  have htt : (tabJ 26).take 256 = tabJ 26 := List.take_of_length_le (by omega)
  have htd : (tabJ 26).drop 256 = [] := List.drop_of_length_le (by omega)
  have hfl := tabJ_flat 26
  have hbd := tabJ_bd 26
  simp -implicitDefEqProofs only [go_sem,↓reduceIte,Int.reduceEq,Int.reduceLT,Int.reduceLE,List.reduceReplicate,intA,setT_nil,setT_cons,hsz,hlt,↓boolP_bool,↓iteB_true,↓iteB_false]
  refine hKK _ _ _ ?_
  have hvl : ∀ x ∈ tabJ 26,∃ v,x = AV.v v := fun x hx => by obtain ⟨i, -,rfl⟩ := List.mem_map.1 hx;exact ⟨_,rfl⟩
  simp -implicitDefEqProofs only [go_sem,↓reduceIte,Int.reduceEq,Int.reduceLT,Int.reduceLE,List.reduceReplicate,intA,setT_nil,setT_cons,htl,htt,htd,hfl,hbd,↓boolP_bool,↓iteB_true,↓iteB_false]
  have e1 : ∀ H k,freezeV H (k + 300) (.agg (tabJ 26)) = some (.agg (tabJ 26)) := fun H k => by
   show (freezeL H (k + 299) (tabJ 26)).map AV.agg = _
   rw [freezeL_vals H _ hvl (k + 299) (by omega)];rfl
  have e3 : ∀ H k,freezeL H (k + 301) [.agg (tabJ 26),.v (.bool true)] = some [.agg (tabJ 26),.v (.bool true)] := fun H k => by
   show (match freezeV H (k + 300) (.agg (tabJ 26)),freezeL H (k + 300) [.v (.bool true)] with | some y,some ys => some (y :: ys) | _,_ => none) = _
   rw [e1];rfl
  have e4 : ∀ H k,freezeV H (k + 302) (.tup [.agg (tabJ 26),.v (.bool true)]) = some (.tup [.agg (tabJ 26),.v (.bool true)]) := fun H k => by
   show (freezeL H (k + 301) [.agg (tabJ 26),.v (.bool true)]).map AV.tup = _
   rw [e3];rfl
  exact e4 _ 999698
 | succ μ =>
  have hlt : (j : Int) < ((26 : Nat) : Int) := by omega
  have hw := wrap_succ j (by omega)
  have hj0 : (0 : Int) ≤ (j : Int) := by omega
  have hst := alph_at j (by omega)
  have hu : (UInt8.ofNat (97 + j)).toNat = 97 + j := by simp;omega
  have hge : ¬ (128 : Int) ≤ ((97 + j : Nat) : Int) := by omega
  have hin : (0 : Int) ≤ ((97 + j : Nat) : Int) ∧ ((97 + j : Nat) : Int) < ((256 : Nat) : Int) := by omega
  have har : arIdx 256 1 (.ptr 0 0 0) (.v (.int .u8 ((97 + j : Nat) : Int))) = some (.ptr 0 0 (97 + j)) := by
   unfold arIdx
   simp only [hin,and_self,if_true,Int.toNat_natCast]
   simp
  have hts := tabJ_set j (by omega)
  have htl := tabJ_len j
  have hbd := tabJ_bd j
  have hfl := tabJ_flat j
  have hks : 97 + j + 1 ≤ 256 := by omega
  generalize hT2 : tabJ (j + 1) = T2 at *
  generalize hT1 : tabJ j = T at *
  simp -implicitDefEqProofs only [go_sem,↓reduceIte,Int.reduceEq,Int.reduceLT,Int.reduceLE,List.reduceReplicate,intA,setT_nil,setT_cons,hsz,hlt,hw,hj0,Int.toNat_natCast,hst,hu,hge,hin,htl,hbd,hks,hts,↓boolP_bool,↓iteB_true,↓iteB_false]
  exact Again.mk' μ (by omega) (hQ _ _ _ ⟨j + 1,by omega,rfl,by rw [hT2]⟩)
theorem letter_tab (c : UInt8) : (tabJ 26)[c.toNat]? = some (.v (.bool (letter c))) := by
 have := c.toNat_lt
 rw [tabJ_get 26 _ (by omega)]
 unfold letter
 rw [show decide (97 ≤ c.toNat ∧ c.toNat < 97 + 26) = (decide (97 ≤ (c.toNat : Int)) && decide ((c.toNat : Int) ≤ 122)) by
  rw [Bool.eq_iff_iff];simp;omega]
theorem fn168 {e : Exts} {X : Heap} {N : Nat} (_hN : X.size = N) (b : Nat) (_hb : b < N) (hr : X.row b 0 = some (0,209,1,false,tabJ 26)) (c : UInt8) : Fn' (Cx e) 168 [.ptr b 0 0,.v (.int .u8 c.toNat)] X (fun v _ => v = .v (.bool (letter c))) := by
 have h256 := c.toNat_lt
 have hin : ((c.toNat : Int) < ((256 : Nat) : Int)) = True := eq_true (by omega)
 have hin0 : ((0 : Int) ≤ (c.toNat : Int)) = True := eq_true (by omega)
 have hg := letter_tab c
 have hnc : nilCk (.ptr b 0 0) = some (.ptr b 0 0) := rfl
 rw [fn_step (fn_168 e) (show Tryz.f168.body = some _ from rfl)]
 generalize tabJ 26 = T at *
 simp -implicitDefEqProofs only [Tryz.f168,go_sem,↓reduceIte,Int.reduceEq,Int.reduceLT,Int.reduceLE,List.reduceReplicate,intA,setT_nil,setT_cons,hnc,hr,hin,hin0,Int.toNat_natCast,hg,↓boolP_bool,↓iteB_true,↓iteB_false]
 rfl
theorem call168 {e : Exts} (he : Quiet e) {X : Heap} (b : Nat) (hb : b < X.size) (hr : X.row b 0 = some (0,209,1,false,tabJ 26)) (c : UInt8) (me : FuncId) (d : Option Tmp) : callA (Cx e) (lim (Cx e)) me 168 d [.ptr b 0 0,.v (.int .u8 c.toNat)] X = some (.v (.bool (letter c)),X) := by
 refine callA_still (ext_168 he) (pure_168 _ _ _) rfl (fun h0 => ?_) (fn168 (X := { X with lock := X.size }) rfl b hb hr c)
 have h9 := boundL_le.1 (Nat.le_of_eq h0) (.ptr b 0 0) (by simp)
 exact absurd h9 (by show ¬ b + 1 ≤ 0;omega)
def tR (s : ByteArray) : Nat → Nat
 | 0 => 0
 | k + 1 => if letter (s.data.toList.getD k 0) then tR s k else k + 1
def tL (s : ByteArray) : Nat → Nat → Nat
 | 0,k => k
 | m + 1,k => if letter (s.data.toList.getD k 0) then tL s m (k + 1) else k
theorem strAt_getD {s : ByteArray} {k : Nat} (h : k < s.size) : strAt s k = some (s.data.toList.getD k 0) := by
 unfold strAt
 rw [List.getD_eq_getElem?_getD]
 have : k < s.data.toList.length := by simpa using h
 rw [List.getElem?_eq_getElem this];rfl
theorem ext_at {s : ByteArray} {a b k : Nat} (hb : b ≤ s.size) (hk : a + k < b) : strAt (s.extract a b) k = some (s.data.toList.getD (a + k) 0) := by
 rw [← strAt_getD (by omega)]
 unfold strAt
 simp only [ByteArray.data_extract,Array.toList_extract]
 rw [List.extract_eq_take_drop,List.getElem?_take,if_pos (by omega),List.getElem?_drop]
theorem ext_size {s : ByteArray} {a b : Nat} (hb : b ≤ s.size) : (s.extract a b).size = b - a := by rw [ByteArray.size_extract];omega
theorem ext_ext {s : ByteArray} {a b c d : Nat} (h1 : a ≤ b) (_h2 : b ≤ s.size) (h3 : d ≤ b - a) : (s.extract a b).extract c d = s.extract (a + c) (a + d) := by
 apply ByteArray.ext
 apply Array.toList_inj.1
 simp only [ByteArray.data_extract,Array.toList_extract]
 simp only [Array.toList_extract,List.extract_eq_take_drop]
 rw [List.drop_take,List.take_take,List.drop_drop,show min (d - c) (b - a - c) = a + d - (a + c) by omega]
theorem fn147 {e : Exts} (he : Quiet e) {X : Heap} {N : Nat} (hN : X.size = N) (b : Nat) (hb : b < N) (hr : X.row b 0 = some (0,209,1,false,tabJ 26)) (s : ByteArray) (hs : s.size < 2 ^ 40) : Fn' (Cx e) 147 [.v (.string s),.ptr b 0 0] X (fun v _ => v = .v (.string (s.extract 0 (tR s s.size)))) := by
 have c168 := fun c me d => call168 he (X := X) b (by omega) hr c me d
 have h0 : s.extract 0 s.size = s := by
  apply ByteArray.ext
  apply Array.toList_inj.1
  simp only [ByteArray.data_extract,Array.toList_extract]
  rw [List.extract_eq_take_drop,List.drop_zero,Nat.sub_zero]
  exact List.take_of_length_le (by simp)
 rw [fn_step (fn_147 e) (show Tryz.f147.body = some _ from rfl)]
 simp -implicitDefEqProofs only [Tryz.f147,go_sem,↓reduceIte,Int.reduceEq,Int.reduceLT,Int.reduceLE,List.reduceReplicate,intA,setT_nil,setT_cons,↓boolP_bool,↓iteB_true,↓iteB_false]
 refine Lp_ruleQ (P := fun μ a H => μ ≤ s.size ∧ tR s μ = tR s s.size ∧ a = ⟨22,[(0,.v (.string (s.extract 0 μ))),(1,.ptr b 0 0),(4,.v (.string emp))],[]⟩ ∧ X = H) ?_ s.size _ _ ⟨Nat.le_refl _,rfl,by rw [h0];rfl,rfl⟩
 rintro Q KK hQ hKK μ _ _ ⟨hm,htr,rfl,rfl⟩
 have hez := ext_size (a := 0) hm
 rw [Nat.sub_zero] at hez
 cases μ with
 | zero =>
  have hlt : ¬ (0 : Int) < ((0 : Nat) : Int) := by decide
  simp -implicitDefEqProofs only [go_sem,↓reduceIte,Int.reduceEq,Int.reduceLT,Int.reduceLE,List.reduceReplicate,intA,setT_nil,setT_cons,hez,hlt,↓boolP_bool,↓iteB_true,↓iteB_false]
  refine hKK _ _ _ ?_
  simp -implicitDefEqProofs only [go_sem,↓reduceIte,Int.reduceEq,Int.reduceLT,Int.reduceLE,List.reduceReplicate,intA,setT_nil,setT_cons,↓boolP_bool,↓iteB_true,↓iteB_false]
  show AV.v (.string (s.extract 0 0)) = .v (.string (s.extract 0 (tR s s.size)))
  rw [← htr,tR]
 | succ k =>
  have hlt : (0 : Int) < ((k + 1 : Nat) : Int) := by omega
  have hw : IntKind.i64.wrap (((k + 1 : Nat) : Int) - 1) = (k : Int) := by rw [show ((k + 1 : Nat) : Int) - 1 = (k : Int) by omega];exact wrap_nat _ (by omega)
  have hk0 : (0 : Int) ≤ (k : Int) := by omega
  have hat := ext_at (s := s) (a := 0) (b := k + 1) (k := k) hm (by omega)
  rw [Nat.zero_add] at hat
  have hc := c168 (s.data.toList.getD k 0)
  rw [tR] at htr
  have hsl : ∀ H : Heap,sliceA Tryz.prog H 9 (.v (.string (s.extract 0 (k + 1)))) none (some (.v (.int .i64 k))) none = some (.v (.string (s.extract 0 k))) := fun H => by
   unfold sliceA
   rw [und_9]
   have h1 : (k : Int) ≤ ((k + 1 : Nat) : Int) := by omega
   have h2 := ext_ext (s := s) (a := 0) (b := k + 1) (c := 0) (d := k) (by omega) hm (by omega)
   simp only [Nat.zero_add] at h2
   have h3 : (k : Int) ≤ (k : Int) + 1 := by omega
   simp only [boundA,hez]
   simp [h2,h3]
  cases hl : letter (s.data.toList.getD k 0) with
  | false =>
   rw [hl] at hc
   rw [hl] at htr
   simp only [Bool.false_eq_true,if_false] at htr
   simp -implicitDefEqProofs only [go_sem,↓reduceIte,Int.reduceEq,Int.reduceLT,Int.reduceLE,List.reduceReplicate,intA,setT_nil,setT_cons,hez,hlt,hw,hk0,Int.toNat_natCast,hat,hc,Bool.not_false,↓boolP_bool,↓iteB_true,↓iteB_false]
   refine hKK _ _ _ ?_
   simp -implicitDefEqProofs only [go_sem,↓reduceIte,Int.reduceEq,Int.reduceLT,Int.reduceLE,List.reduceReplicate,intA,setT_nil,setT_cons,↓boolP_bool,↓iteB_true,↓iteB_false]
   show AV.v (.string (s.extract 0 (k + 1))) = .v (.string (s.extract 0 (tR s s.size)))
   rw [← htr]
  | true =>
   rw [hl] at hc
   rw [hl] at htr
   simp only [if_true] at htr
   simp -implicitDefEqProofs only [go_sem,↓reduceIte,Int.reduceEq,Int.reduceLT,Int.reduceLE,List.reduceReplicate,intA,setT_nil,setT_cons,hez,hlt,hw,hk0,Int.toNat_natCast,hat,hc,hsl,Bool.not_true,↓boolP_bool,↓iteB_true,↓iteB_false]
   exact Again.mk' k (by omega) (hQ _ _ _ ⟨by omega,htr,rfl,rfl⟩)
theorem call147 {e : Exts} (he : Quiet e) {X : Heap} (b : Nat) (hb : b < X.size) (hr : X.row b 0 = some (0,209,1,false,tabJ 26)) (s : ByteArray) (hs : s.size < 2 ^ 40) (me : FuncId) (d : Option Tmp) : callA (Cx e) (lim (Cx e)) me 147 d [.v (.string s),.ptr b 0 0] X = some (.v (.string (s.extract 0 (tR s s.size))),X) := by
 refine callA_still (ext_147 he) (pure_147 _ _ _) rfl (fun h0 => ?_) (fn147 he (X := { X with lock := X.size }) rfl b hb hr s hs)
 have h9 := boundL_le.1 (Nat.le_of_eq h0) (.ptr b 0 0) (by simp)
 exact absurd h9 (by show ¬ b + 1 ≤ 0;omega)
theorem fn146 {e : Exts} (he : Quiet e) {X : Heap} {N : Nat} (hN : X.size = N) (b : Nat) (hb : b < N) (hr : X.row b 0 = some (0,209,1,false,tabJ 26)) (s : ByteArray) (_hs : s.size < 2 ^ 40) : Fn' (Cx e) 146 [.v (.string s),.ptr b 0 0] X (fun v _ => v = .v (.string (s.extract (tL s s.size 0) s.size))) := by
 have c168 := fun c me d => call168 he (X := X) b (by omega) hr c me d
 have h0 : s.extract 0 s.size = s := by
  apply ByteArray.ext
  apply Array.toList_inj.1
  simp only [ByteArray.data_extract,Array.toList_extract]
  rw [List.extract_eq_take_drop,List.drop_zero,Nat.sub_zero]
  exact List.take_of_length_le (by simp)
 rw [fn_step (fn_146 e) (show Tryz.f146.body = some _ from rfl)]
 simp -implicitDefEqProofs only [Tryz.f146,go_sem,↓reduceIte,Int.reduceEq,Int.reduceLT,Int.reduceLE,List.reduceReplicate,intA,setT_nil,setT_cons,↓boolP_bool,↓iteB_true,↓iteB_false]
 refine Lp_ruleQ (P := fun μ a H => ∃ k,k + μ = s.size ∧ tL s μ k = tL s s.size 0 ∧ a = ⟨16,[(0,.v (.string (s.extract k s.size))),(1,.ptr b 0 0),(4,.v (.string emp))],[]⟩ ∧ X = H) ?_ s.size _ _ ⟨0,by omega,rfl,by rw [h0];rfl,rfl⟩
 rintro Q KK hQ hKK μ _ _ ⟨k,hm,htr,rfl,rfl⟩
 have hez := ext_size (s := s) (a := k) (Nat.le_refl s.size)
 rw [show s.size - k = μ by omega] at hez
 cases μ with
 | zero =>
  have hlt : ¬ (0 : Int) < ((0 : Nat) : Int) := by decide
  simp -implicitDefEqProofs only [go_sem,↓reduceIte,Int.reduceEq,Int.reduceLT,Int.reduceLE,List.reduceReplicate,intA,setT_nil,setT_cons,hez,hlt,↓boolP_bool,↓iteB_true,↓iteB_false]
  refine hKK _ _ _ ?_
  simp -implicitDefEqProofs only [go_sem,↓reduceIte,Int.reduceEq,Int.reduceLT,Int.reduceLE,List.reduceReplicate,intA,setT_nil,setT_cons,↓boolP_bool,↓iteB_true,↓iteB_false]
  show AV.v (.string (s.extract k s.size)) = .v (.string (s.extract (tL s s.size 0) s.size))
  rw [← htr,tL]
 | succ μ =>
  have hlt : (0 : Int) < ((μ + 1 : Nat) : Int) := by omega
  have hat := ext_at (s := s) (a := k) (b := s.size) (k := 0) (Nat.le_refl _) (by omega)
  rw [Nat.add_zero] at hat
  have hc := c168 (s.data.toList.getD k 0)
  rw [tL] at htr
  have hsl : ∀ H : Heap,sliceA Tryz.prog H 9 (.v (.string (s.extract k s.size))) (some (.v (.int .i64 1))) none none = some (.v (.string (s.extract (k + 1) s.size))) := fun H => by
   unfold sliceA
   rw [und_9]
   have h2 := ext_ext (s := s) (a := k) (b := s.size) (c := 1) (d := μ + 1) (by omega) (Nat.le_refl _) (by omega)
   rw [show k + (μ + 1) = s.size by omega] at h2
   have h3 : (1 : Int) ≤ (μ : Int) + 1 := by omega
   simp only [boundA,hez]
   simp [h2,h3]
  cases hl : letter (s.data.toList.getD k 0) with
  | false =>
   rw [hl] at hc
   rw [hl] at htr
   simp only [Bool.false_eq_true,if_false] at htr
   simp -implicitDefEqProofs only [go_sem,↓reduceIte,Int.reduceEq,Int.reduceLT,Int.reduceLE,List.reduceReplicate,intA,setT_nil,setT_cons,hez,hlt,Int.toNat_zero,hat,hc,Bool.not_false,↓boolP_bool,↓iteB_true,↓iteB_false]
   refine hKK _ _ _ ?_
   simp -implicitDefEqProofs only [go_sem,↓reduceIte,Int.reduceEq,Int.reduceLT,Int.reduceLE,List.reduceReplicate,intA,setT_nil,setT_cons,↓boolP_bool,↓iteB_true,↓iteB_false]
   show AV.v (.string (s.extract k s.size)) = .v (.string (s.extract (tL s s.size 0) s.size))
   rw [← htr]
  | true =>
   rw [hl] at hc
   rw [hl] at htr
   simp only [if_true] at htr
   simp -implicitDefEqProofs only [go_sem,↓reduceIte,Int.reduceEq,Int.reduceLT,Int.reduceLE,List.reduceReplicate,intA,setT_nil,setT_cons,hez,hlt,Int.toNat_zero,hat,hc,hsl,Bool.not_true,↓boolP_bool,↓iteB_true,↓iteB_false]
   exact Again.mk' μ (by omega) (hQ _ _ _ ⟨k + 1,by omega,htr,rfl,rfl⟩)
theorem call146 {e : Exts} (he : Quiet e) {X : Heap} (b : Nat) (hb : b < X.size) (hr : X.row b 0 = some (0,209,1,false,tabJ 26)) (s : ByteArray) (hs : s.size < 2 ^ 40) (me : FuncId) (d : Option Tmp) : callA (Cx e) (lim (Cx e)) me 146 d [.v (.string s),.ptr b 0 0] X = some (.v (.string (s.extract (tL s s.size 0) s.size)),X) := by
 refine callA_still (ext_146 he) (pure_146 _ _ _) rfl (fun h0 => ?_) (fn146 he (X := { X with lock := X.size }) rfl b hb hr s hs)
 have h9 := boundL_le.1 (Nat.le_of_eq h0) (.ptr b 0 0) (by simp)
 exact absurd h9 (by show ¬ b + 1 ≤ 0;omega)
end Go.Ev
namespace Go.Ev
open Go.Proofs
attribute [local irreducible] Wp WpS
theorem ext_00 (s : ByteArray) : s.extract 0 0 = emp := by
 apply ByteArray.ext
 apply Array.toList_inj.1
 simp [emp]
theorem word_letters {s : ByteArray} (h : wordB s = true) : ∀ i < s.size,letter (s.data.toList.getD i 0) = true := fun i hi => by
 unfold wordB lettersB at h
 rw [Bool.and_eq_true,List.drop_zero] at h
 refine List.all_eq_true.1 h.2 _ ?_
 have hl : i < s.data.toList.length := by simpa using hi
 rw [List.getD_eq_getElem?_getD,List.getElem?_eq_getElem hl]
 exact List.getElem_mem hl
end Go.Ev
namespace Go.Ev
open Go.Proofs
attribute [local irreducible] Wp WpS
def addB (s : ByteArray) (b : UInt8) : ByteArray := ⟨(s.data.toList ++ [b]).toArray⟩
theorem add_one {s x : ByteArray} {j : Nat} {b : UInt8} (h : x.data.toList[j]? = some b) : s ++ x.extract j (j + 1) = addB s b := by
 have hlt := (List.getElem?_eq_some_iff.1 h).1
 apply ByteArray.ext
 apply Array.toList_inj.1
 unfold addB
 simp only [ByteArray.data_append,Array.toList_append,ByteArray.data_extract,Array.toList_extract]
 have : List.extract x.data.toList j (j + 1) = [b] := by
  rw [List.extract_eq_take_drop]
  rw [show j + 1 - j = 1 by omega,List.drop_eq_getElem_cons hlt,List.take_succ_cons,List.take_zero,(List.getElem?_eq_some_iff.1 h).2]
 rw [this]
def splR : List UInt8 → Line → ByteArray → Line
 | [],L,s => L ++ [s]
 | b :: r,L,s => if b.toNat = 32 then splR r (L ++ [s]) emp else splR r L (addB s b)
def splB (s : ByteArray) : Line := splR s.data.toList [] emp
theorem strs_snoc (L : Line) (s : ByteArray) : strs (L ++ [s]) = strs L ++ [.v (.string s)] := by unfold strs;simp
theorem addB_size (s : ByteArray) (b : UInt8) : (addB s b).size = s.size + 1 := by
 unfold addB
 show ((s.data.toList ++ [b]).toArray).size = s.data.size + 1
 simp
theorem frz1 {H : Heap} (hk : H.lock = 0) {b n e len : Nat} {g : Bool} {L : Line} (hL : L.length = len) (hr : H.row b n = some (0,e,1,g,strs L)) (cap : Option Nat) (k : Nat) : freezeV H (k + 1) (.sl b n 0 len cap) = some (.vs 1 (strs L) none) := by
 have h1 := strs_len L
 have h4 := chunk_one (strs L)
 unfold freezeV
 simp only [hr]
 rw [if_neg (by omega),if_pos ⟨by omega,by omega⟩,if_pos trivial,List.drop_zero,List.take_of_length_le (by omega),← hL,← h1,h4]
def o72 : Line → AV
 | [] => .sl 0 0 0 1 (some 1)
 | _ :: L => .sl 2 L.length 0 (L.length + 2) none
def h72 (c0 s : ByteArray) : Line → Heap
 | [] => ⟨[some (.cells 0 0 9 1 false [.v (.string s)])],0⟩
 | x :: L => ⟨[some (.cells 0 0 9 1 false [.v (.string c0)]),some (.cells 0 0 9 1 false [.v (.string emp)]),some (.cells L.length 0 9 1 true (strs (x :: L) ++ [.v (.string s)]))],0⟩
theorem lenI_sl (b v o n : Nat) (c : Option Nat) : lenI Tryz.prog [87] [.sl b v o n c] = some (.v (.int .i64 n)) := by
 unfold lenI lenA
 simp [und_87]
theorem slIdx_sl (b v n : Nat) (c : Option Nat) (i : Nat) (h : i < n) : slIdx 1 (.sl b v 0 n c) (.v (.int .i64 (i : Int))) = some (.ptr b v i) := by
 unfold slIdx
 simp;omega
theorem appTo_full {e sz b' : Nat} {H : Heap} {slot b v len n : Nat} {new : List AV} {m e' : Nat} {g : Bool} {cs : List AV} (hr : H.row b v = some (m,e',sz,g,cs)) (hl : len * sz = cs.length) (hf : fitsA b' (len + n) = true) (hc : cs.all AV.flat = true) (hb : boundL cs = 0) (hb2 : boundL new = 0) (hn : 0 < n) :
  appTo e sz b' H slot n new (.sl b v 0 len (some len)) = some (.sl slot 0 0 (len + n) none,H.put slot (.cells 0 0 e sz true (cs ++ new))) := by
 unfold appTo
 simp only [hr]
 rw [if_neg (by omega),if_neg (by omega),if_pos (by omega),List.drop_zero,List.take_of_length_le (by omega),hf,hc,hb,hb2]
 rfl
theorem trim3 {a0 a1 a2 : AObj} {q : Option AObj} {vs : List AV} (h0 : a0.bound ≤ 3) (h1 : a1.bound ≤ 3) (h2 : a2.bound ≤ 3) (hv : boundL vs ≤ 3) : (Heap.mk [some a0,some a1,some a2,q] 0).trim 3 vs [] = ⟨[some a0,some a1,some a2],0⟩ := by
 unfold Heap.trim
 rw [if_pos]
 ·rfl
 ·simp [boundsOk,Nat.ble_eq,hv,h0,h1,h2]
theorem splR_word : ∀ (x r : List UInt8) (L : Line) (c : ByteArray),(∀ b ∈ x,b.toNat ≠ 32) → splR (x ++ r) L c = splR r L ⟨(c.data.toList ++ x).toArray⟩
 | [],r,L,c,_ => by simp
 | b :: x,r,L,c,h => by
  rw [List.cons_append,splR,if_neg (h b (List.mem_cons_self ..)),splR_word x r L _ fun d hd => h d (List.mem_cons_of_mem _ hd)]
  unfold addB
  simp
theorem splR_join : ∀ (l : Line) (x : ByteArray) (L : Line),(∀ s ∈ x :: l,∀ b ∈ s.data.toList,b.toNat ≠ 32) → splR (Lib.join ((x :: l).map (·.data.toList)) [32]) L emp = L ++ x :: l
 | [],x,L,h => by
  simp only [List.map_cons,List.map_nil,join_one]
  have := splR_word x.data.toList [] L emp (h x (by simp))
  rw [List.append_nil] at this
  rw [this,splR]
  simp [emp]
 | y :: l,x,L,h => by
  have ih := splR_join l y (L ++ [x]) fun s hs => h s (List.mem_cons_of_mem _ hs)
  simp only [List.map_cons] at ih ⊢
  rw [join_cons2,splR_word _ _ _ _ (h x (by simp)),splR,if_pos (show UInt8.toNat 32 = 32 from rfl)]
  rw [show (⟨(emp.data.toList ++ x.data.toList).toArray⟩ : ByteArray) = x by simp [emp],ih]
  simp
theorem splB_join {l : Line} (hl : l ≠ []) (hp : ∀ s ∈ l,plainW s) : splB (joinB l) = l := by
 unfold splB
 rw [joinB_data]
 cases l with
 | nil => exact absurd rfl hl
 | cons x r => exact splR_join r x [] fun s hs b hb => ((hp s hs).2 b hb).2
end Go.Ev
namespace Go.Ev
def Yields2S (C : Cfg) (f : FuncId) (cap : List AV) (items : List (List AV)) (q : Nat) (o : AObj) (cst : Fm) : Prop :=
 ∀ (l : Nat) (S : Type) (R : S → Fm → Prop) (stp : S → List AV → Bool × S) (ok : S → List AV → Prop) (live : S → Prop) (n0 k : Nat),Src2 C l S R stp ok live n0 k → (∀ s m,R s m → ∀ p ∈ cst,p ∈ m) → (∀ s m,R s m → ¬ keyIn q m) → q < n0 → k ≤ q →
  ∀ s m H,okRun stp ok items s → live s → R s m → Has m H → H.lock = k → n0 ≤ H.size → H.get q = some o → ∃ H' m' o2,lim C (.call f ([.yld l] ++ cap) H) = some (.ret (.tup []) H') ∧ R (runIt stp items s).2 m' ∧ Has m' H' ∧ H'.get q = some o2 ∧ Moves ((q,o) :: m) H ((q,o2) :: m') H'
section
variable {C : Cfg} {me : FuncId} {S : Type} {R : S → Fm → Prop} {stp : S → List AV → AExit × S} {lv : S → Prop} {ok : S → List AV → Prop} {n0 k d : Nat}
theorem wp_range2S {f : FuncId} {cap : List AV} {items : List (List AV)} {q : Nat} {o : AObj} {cst : Fm} (hy : Yields2S C f cap items q o cst) {g : Operand} {ps : Array Tmp} {asg body : Code} {a : AAct} {H : Heap} {K : Post} (hg : a.eval g = some (.fn (.func f) [] cap))
  (R : S → Fm → Prop) (stp : S → List AV → AExit × S) (lv : S → Prop) (ok : S → List AV → Prop) {n0 k : Nat} (hn0 : n0 ≤ H.size) (hk : k ≤ H.size) (hlen : ∀ x ∈ items,x.length = ps.size)
  (hq : H.get q = some o) (hqk : k ≤ q) (hRc : ∀ s m,R s m → ∀ p ∈ cst,p ∈ m) (hRq : ∀ s m,R s m → ¬ keyIn q m) (hanch : ∀ s m,R s m → Anch n0 m) (hdm : ∀ s m,R s m → ¬ keyIn H.size m ∧ ¬ keyIn (H.size + 1) m)
  (hlv : ∀ s x,lv s → ok s x → (stp s x).1 = .normal → lv (stp s x).2)
  (hbody : ∀ (L L' : ALoop) s m x H',L'.dfr = H.size → lv s → ok s x → x.length = ps.size → R s m → Has m H' → H'.get H.size = some .dfr → loopObj H' (H.size + 1) = some L → H'.lock = k → H.size + 2 ≤ H'.size →
   Wp C me (some (H.size + 1)) asg ⟨a.size,setTmps a.size a.tmps (ps.toList.zip x),[]⟩ H' (as2K C me R H.size body L L' m H' (stp s x)))
  (s0 : S) (m0 : Fm) (hok : okRun (fun s x => (isGo (stp s x).1,(stp s x).2)) ok items s0) (h0 : lv s0) (hR0 : R s0 m0) (hH0 : Has m0 H) (hlk : H.lock = k)
  (hK : ∀ m' H' o2,R (foldE stp items s0).2 m' → Has m' H' → H'.get q = some o2 → H'.get H.size = some .dfr → H'.get (H.size + 1) = some .dead → Moves ((q,o) :: m0) H ((q,o2) :: (H.size + 1,.dead) :: m') H' → H.size + 2 ≤ H'.size → AtK K (foldE stp items s0).1 ⟨a.size,a.tmps,H.size :: a.marks⟩ H') :
  Wp C me none (.rangeFunc g ps asg body) a H K := by
 have hqd : q < H.size := Heap.get_lt hq
 generalize hd : H.size = d at *
 have hsrc := src2_range (C := C) (me := me) (R := R) (stp := stp) (lv := lv) (ok := ok) (sz := a.size) (ts := a.tmps) (ps := ps) (asg := asg) (body := body) hn0 hk hanch hdm hlv hbody
 have hbeg : (H.put d .dfr).put (d + 1) (.loop (busyL me a.size a.tmps ps asg body d .ready none)) = H.plus [some .dfr,some (.loop (busyL me a.size a.tmps ps asg body d .ready none))] := by
  have h1 : H.put d .dfr = H.plus [some .dfr] := by rw [← hd];exact put_push _
  rw [h1]
  exact plus_put_end hd [some .dfr] (.loop (busyL me a.size a.tmps ps asg body d .ready none))
 generalize hHb : H.plus [some AObj.dfr,some (.loop (busyL me a.size a.tmps ps asg body d .ready none))] = Hb at hbeg
 have hsb : Hb.size = d + 2 := by rw [← hHb,plus_size,hd];rfl
 have hg0 : Hb.get d = some .dfr := by
  rw [← hHb];exact plus_mid_get hd [] _ _
 have hg1 : Hb.get (d + 1) = some (.loop (busyL me a.size a.tmps ps asg body d .ready none)) := by
  rw [← hHb];exact plus_mid_get hd [some .dfr] [] _
 have hHasB : Has ((d,.dfr) :: (d + 1,.loop (busyL me a.size a.tmps ps asg body d .ready none)) :: m0) Hb := by
  intro p hp
  rcases List.mem_cons.1 hp with rfl | hp
  ·exact hg0
  ·rcases List.mem_cons.1 hp with rfl | hp
   ·exact hg1
   ·rw [← hHb];exact hH0.plus _ p hp
 have hgq : Hb.get q = some o := by rw [← hHb];rw [plus_get _ (by omega)];exact hq
 obtain ⟨H1,m1,o2,hc1,⟨m',hm',rfl⟩,hH1,hq1,hmv⟩ := hy (d + 1) (S × AExit) _ _ _ _ _ _ hsrc (fun s m hm p hp => by
  obtain ⟨m2,hm2,rfl⟩ := hm
  exact List.mem_cons_of_mem _ (List.mem_cons_of_mem _ (hRc _ _ hm2 p hp))) (fun s m hm => by
  obtain ⟨m2,hm2,rfl⟩ := hm
  rintro ⟨p,hp,he⟩
  rcases List.mem_cons.1 hp with rfl | hp
  ·simp only at he;omega
  ·rcases List.mem_cons.1 hp with rfl | hp
   ·simp only at he;omega
   ·exact hRq _ _ hm2 ⟨p,hp,he⟩) (by omega) hqk (s0,.normal) _ Hb (okRun_q items s0 .normal hok hlen) ⟨h0,rfl⟩ ⟨m0,hR0,rfl⟩ hHasB (by rw [← hHb];exact hlk) (by omega) hgq
 have hanch1 := hsrc.anch _ _ ⟨m',hm',rfl⟩
 rw [run_range] at hm' hH1 hmv hanch1
 simp only at hm' hH1 hmv hanch1
 generalize hp : foldE stp items s0 = p at *
 have hcb := callB_yld (C := C) (me := me) (d := none) (l := d + 1) (by simp) hc1
 have hH2 := hH1.trim hanch1 (Nat.le_of_eq hsb.symm) [AV.tup []] []
 have hmv2 := hmv.trim [AV.tup []] [] (n := Hb.size) rfl
 have hq2 : (H1.trim Hb.size [AV.tup []] []).get q = some o2 := by
  unfold Heap.trim
  split
  ·unfold Heap.get at hq1 ⊢
   simp only
   rw [List.getElem?_take,if_pos (by omega)];exact hq1
  ·exact hq1
 generalize hT : H1.trim Hb.size [AV.tup []] [] = H2 at *
 have hl2 : H2.get (d + 1) = some (.loop (busyL me a.size a.tmps ps asg body d (stateOf p.1) (pend p.1))) := hH2 (d + 1,_) (by simp)
 have hd2 : H2.get d = some .dfr := hH2 (d,_) (by simp)
 have hs2 : d + 2 ≤ H2.size := by have := hmv2.size;omega
 have hfin : AtK K p.1 ⟨a.size,a.tmps,d :: a.marks⟩ (H2.put (d + 1) .dead) := by
  have hmd := hdm _ _ hm'
  refine hK m' (H2.put (d + 1) .dead) o2 hm' ?_ ?_ ?_ ?_ ?_ ?_
  ·intro q hq
   rw [put_get_ne _ (by omega) (fun e => hmd.2 ⟨q,hq,e⟩)]
   exact hH2 q (List.mem_cons_of_mem _ (List.mem_cons_of_mem _ hq))
  ·rw [put_get_ne _ (by omega) (by omega)];exact hq2
  ·rw [put_get_ne _ (by omega) (by omega)];exact hd2
  ·exact put_get_eq _ (by omega)
  ·refine ⟨?_, ?_,fun b hb hnb => ?_,fun q' hq => ?_⟩
   ·show H2.lock = H.lock
    rw [hmv2.lock,← hHb];rfl
   ·rw [put_sizeI _ (by omega)];omega
   ·rw [put_get_ne _ (by omega) (by omega),hmv2.same b (by omega) ?_,← hHb]
    ·exact plus_get _ hb
    ·rintro ⟨r,hr,he⟩
     rcases List.mem_cons.1 hr with rfl | hr
     ·exact hnb ⟨(q,o),List.mem_cons_self,he⟩
     ·rcases List.mem_cons.1 hr with rfl | hr
      ·simp only at he;omega
      ·rcases List.mem_cons.1 hr with rfl | hr
       ·simp only at he;omega
       ·exact hnb ⟨r,List.mem_cons_of_mem _ hr,he⟩
   ·rcases List.mem_cons.1 hq with rfl | hq
    ·exact Or.inl ⟨(q,o),List.mem_cons_self,rfl⟩
    ·rcases List.mem_cons.1 hq with rfl | hq
     ·exact Or.inr (by simp only;omega)
     ·rcases hmv2.keys _ (List.mem_cons_of_mem _ (List.mem_cons_of_mem _ (List.mem_cons_of_mem _ hq))) with ⟨r,hr,he⟩ | h
      ·rcases List.mem_cons.1 hr with rfl | hr
       ·exact Or.inl ⟨(q,o),List.mem_cons_self,he⟩
       ·rcases List.mem_cons.1 hr with rfl | hr
        ·exact absurd ⟨_,hq,he.symm⟩ hmd.1
        ·rcases List.mem_cons.1 hr with rfl | hr
         ·exact absurd ⟨_,hq,he.symm⟩ hmd.2
         ·exact Or.inl ⟨r,List.mem_cons_of_mem _ hr,he⟩
      ·exact Or.inr (by omega)
  ·rw [put_sizeI _ (by omega)];exact hs2
 refine wp_range0 (f := f) (first := []) (cap := cap) hg (v := .tup []) (H2 := H2) ?_ (r := busyL me a.size a.tmps ps asg body d (stateOf p.1) (pend p.1)) ?_ ?_ ?_ ?_
 ·rw [hd]
  rw [← hbeg] at hcb
  exact hcb
 ·rw [hd];exact get_loopObj hl2
 ·unfold busyL stateOf;cases p.1 <;> simp [pend]
 ·rw [hd];rfl
 ·rw [hd]
  obtain ⟨e,s⟩ := p
  cases e with
  | normal => exact hfin
  | ret => exact hfin
  | exit i => exact hfin
end
end Go.Ev
namespace Go.Ev
open Go.Proofs
attribute [local irreducible] Wp WpS
theorem idxB_spec : ∀ (l : List UInt8) (j : Int),(idxB 32 j l = -1 ∧ ∀ b ∈ l,b.toNat ≠ 32) ∨ ∃ x b r,l = x ++ b :: r ∧ b.toNat = 32 ∧ idxB 32 j l = j + x.length ∧ ∀ b ∈ x,b.toNat ≠ 32
 | [],j => Or.inl ⟨rfl,fun _ h => nomatch h⟩
 | b :: l,j => by
  rw [idxB]
  by_cases h : b.toNat = 32
  ·refine Or.inr ⟨[],b,l,rfl,h, ?_,fun _ h => nomatch h⟩
   rw [h,if_pos (show Nat.beq 32 32 = true from rfl)];exact (Int.add_zero j).symm
  ·have h1 : Nat.beq b.toNat 32 = false := by
    cases hb : Nat.beq b.toNat 32
    ·rfl
    ·exact absurd (Nat.eq_of_beq_eq_true hb) h
   rw [h1]
   simp only [Bool.false_eq_true,if_false]
   rcases idxB_spec l (j + 1) with ⟨h2,h3⟩ | ⟨x,c,r,h2,h3,h4,h5⟩
   ·exact Or.inl ⟨h2,fun d hd => by rcases List.mem_cons.1 hd with rfl | hd;exact h;exact h3 d hd⟩
   ·refine Or.inr ⟨b :: x,c,r,by rw [h2];rfl,h3,by rw [h4];simp only [List.length_cons];omega,fun d hd => by rcases List.mem_cons.1 hd with rfl | hd;exact h;exact h5 d hd⟩
theorem splR_pre : ∀ (r : List UInt8) (L : Line) (c : ByteArray),splR r L c = L ++ splR r [] c
 | [],L,c => rfl
 | b :: r,L,c => by
  rw [splR,splR]
  by_cases h : b.toNat = 32
  ·rw [if_pos h,if_pos h,splR_pre r (L ++ [c]),splR_pre r ([] ++ [c])];simp
  ·rw [if_neg h,if_neg h,splR_pre r L]
theorem ba_list {s : ByteArray} {l : List UInt8} (h : s.data.toList = l) : s = ⟨l.toArray⟩ := by
 subst h;rfl
theorem splB_idx (t : ByteArray) : (idxB 32 0 t.data.toList = -1 ∧ splB t = [t]) ∨ ∃ i : Nat,i < t.size ∧ idxB 32 0 t.data.toList = (i : Int) ∧ splB t = t.extract 0 i :: splB (t.extract (i + 1) t.size) := by
 have hsz : t.size = t.data.toList.length := (Array.length_toList (xs := t.data)).symm
 rcases idxB_spec t.data.toList 0 with ⟨h1,h2⟩ | ⟨x,b,r,h1,h2,h3,h4⟩
 ·refine Or.inl ⟨h1, ?_⟩
  unfold splB
  have := splR_word t.data.toList [] [] emp h2
  rw [List.append_nil] at this
  rw [this,splR]
  have : (⟨(emp.data.toList ++ t.data.toList).toArray⟩ : ByteArray) = t := by simp [emp]
  rw [this];rfl
 ·refine Or.inr ⟨x.length,by rw [hsz,h1];simp,by rw [h3];simp, ?_⟩
  have e1 : t.extract 0 x.length = ⟨x.toArray⟩ := by
   refine ba_list ?_
   rw [ByteArray.data_extract,Array.toList_extract,h1,List.extract_eq_take_drop]
   simp
  have e2 : (t.extract (x.length + 1) t.size).data.toList = r := by
   rw [ByteArray.data_extract,Array.toList_extract,hsz,h1,List.extract_eq_take_drop]
   rw [show x ++ b :: r = (x ++ [b]) ++ r by simp,show x.length + 1 = (x ++ [b]).length by simp,List.drop_left]
   rw [List.take_of_length_le (by simp;omega)]
  unfold splB
  rw [e1,e2,h1,splR_word x (b :: r) [] emp h4,splR,if_pos h2,splR_pre]
  simp [emp]
theorem ansS195 {e : Exts} (hx : e.x 197 = some idxStr) (s : ByteArray) : Ans (Cx e) 195 [.v (.string s),.v (.int .u8 32)] (.v (.int .i64 (idxB 32 0 s.data.toList))) := by
 have c197 : ∀ me d H,callA (Cx e) (lim (Cx e)) me 197 d [.v (.string s),.v (.int .u8 32)] H = some (.v (.int .i64 (idxB 32 0 s.data.toList)),H) := fun me d H => by
  have h1 : idxStr [.v (.string s),.v (.int .u8 32)] = some (.v (.int .i64 (idxB 32 0 s.data.toList))) := by unfold idxStr;exact if_pos (by decide)
  unfold callA standA
  rw [show (Cx e).ext 197 = some idxStr from hx]
  simp only [h1]
 unfold Ans
 rw [fn_step (fn_195 e) (show Tryz.f195.body = some _ from rfl)]
 simp -implicitDefEqProofs only [Tryz.f195,go_sem,↓reduceIte,Int.reduceEq,Int.reduceLT,Int.reduceLE,List.reduceReplicate,intA,setT_nil,setT_cons,c197,↓boolP_bool,↓iteB_true,↓iteB_false]
theorem ansS188 {e : Exts} (he : Quiet e) (hx : e.x 197 = some idxStr) (s : ByteArray) : Ans (Cx e) 188 [.v (.string s),.v (.string spc)] (.v (.int .i64 (idxB 32 0 s.data.toList))) := by
 have c195 := fun me d H => (ansS195 hx s).call (me := me) (d := d) (ext_195 he) (pure_195 _ _ _) rfl H
 have hss : spc.size = 1 := rfl
 have h0 : strAt spc 0 = some 32 := rfl
 have h01 : ¬ ((1 : Nat) : Int) = 0 := by decide
 have h11 : decide (((1 : Nat) : Int) = 1) = true := rfl
 have h00 : strAt spc (Int.toNat 0) = some 32 := rfl
 have h32 : ((32 : UInt8).toNat : Int) = 32 := rfl
 have hz : idxB 32 0 spc.data.toList = 0 := rfl
 unfold Ans
 rw [fn_step (fn_188 e) (show Tryz.f188.body = some _ from rfl)]
 cases hd : decide (spc = s)
 ·simp -implicitDefEqProofs only [Tryz.f188,go_sem,↓reduceIte,Int.reduceEq,Int.reduceLT,Int.reduceLE,List.reduceReplicate,intA,setT_nil,setT_cons,hss,h0,h01,h11,h00,h32,hd,c195,↓boolP_bool,↓iteB_true,↓iteB_false]
 ·obtain rfl : spc = s := of_decide_eq_true hd
  simp -implicitDefEqProofs only [Tryz.f188,go_sem,↓reduceIte,Int.reduceEq,Int.reduceLT,Int.reduceLE,List.reduceReplicate,intA,setT_nil,setT_cons,hss,h0,h01,h11,h00,h32,hd,hz,c195,↓boolP_bool,↓iteB_true,↓iteB_false]
theorem ansS173 {e : Exts} (he : Quiet e) (hx : e.x 197 = some idxStr) (s : ByteArray) : Ans (Cx e) 173 [.v (.string s),.v (.string spc)] (.v (.int .i64 (idxB 32 0 s.data.toList))) := by
 have c188 := fun me d H => (ansS188 he hx s).call (me := me) (d := d) (ext_188 he) (pure_188 _ _ _) rfl H
 unfold Ans
 rw [fn_step (fn_173 e) (show Tryz.f173.body = some _ from rfl)]
 simp -implicitDefEqProofs only [Tryz.f173,go_sem,↓reduceIte,Int.reduceEq,Int.reduceLT,Int.reduceLE,List.reduceReplicate,intA,setT_nil,setT_cons,c188,↓boolP_bool,↓iteB_true,↓iteB_false]
end Go.Ev
namespace Go.Ev
open Go.Proofs
attribute [local irreducible] Wp WpS
def oS (s : ByteArray) : AObj := .cells 0 0 9 1 false [.v (.string s)]
def oZ : AObj := .cells 0 0 3 1 false [intA 0]
theorem Moves.cons {m m' : Fm} {H H' : Heap} (h : Moves m H m' H') (q : Nat) (o o' : AObj) : Moves ((q,o) :: m) H ((q,o') :: m') H' :=
 ⟨h.lock,h.size,fun b hb hn => h.same b hb fun ⟨p,hp,he⟩ => hn ⟨p,List.mem_cons_of_mem _ hp,he⟩,fun p hp => by
  rcases List.mem_cons.1 hp with rfl | hp
  ·exact Or.inl ⟨(q,o),List.mem_cons_self,rfl⟩
  ·rcases h.keys p hp with ⟨r,hr,he⟩ | h
   ·exact Or.inl ⟨r,List.mem_cons_of_mem _ hr,he⟩
   ·exact Or.inr h⟩
theorem Moves.putq {m m' : Fm} {H H' : Heap} {q : Nat} {o : AObj} (h : Moves ((q,o) :: m) H m' H') (o2 : AObj) (hq : q < H'.size) : Moves ((q,o) :: m) H m' (H'.put q o2) :=
 ⟨h.lock,by rw [put_sizeI _ hq];exact h.size,fun b hb hn => by
  rw [put_get_ne _ (by omega) fun e => hn ⟨(q,o),List.mem_cons_self,e.symm⟩];exact h.same b hb hn,h.keys⟩
def itS (x : ByteArray) : List AV := [.v (.string x)]
theorem yields2S_172 {e : Exts} (he : Quiet e) (hx : e.x 197 = some idxStr) (s : ByteArray) (hs : s.size < 1000) (q qs qv : Nat) : Yields2S (Cx e) 172 [.ptr qs 0 0,.ptr q 0 0,.ptr qv 0 0] ((splB s).map itS) q (oS s) [(qs,oS spc),(qv,oZ)] := by
 intro l S R stp ok live n0 k hsrc hRc hRq hqn hkq s0 m H hok hlv hR hH hlk hsz hq
 have key : Fn' (Cx e) 172 [.yld l,.ptr qs 0 0,.ptr q 0 0,.ptr qv 0 0] H fun v H' => v = .tup [] ∧ ∃ m' o2,R (runIt stp ((splB s).map itS) s0).2 m' ∧ Has m' H' ∧ H'.get q = some o2 ∧ Moves ((q,oS s) :: m) H ((q,o2) :: m') H' := by
  have rs : ∀ (m1 : Fm) (H1 : Heap) (s1 : S),R s1 m1 → Has m1 H1 → H1.row qs 0 = some (0,9,1,false,[.v (.string spc)]) := fun m1 H1 s1 h1 h2 => get_row (h2 (qs,oS spc) (hRc s1 m1 h1 _ (by simp)))
  have rv : ∀ (m1 : Fm) (H1 : Heap) (s1 : S),R s1 m1 → Has m1 H1 → H1.row qv 0 = some (0,3,1,false,[intA 0]) := fun m1 H1 s1 h1 h2 => get_row (h2 (qv,oZ) (hRc s1 m1 h1 _ (by simp)))
  have hss : spc.size = 1 := rfl
  have h01 : ¬ ((1 : Nat) : Int) = 0 := by decide
  have rs0 := rs m H s0 hR hH
  have ls0 : loadA Tryz.prog H 9 (.ptr qs 0 0) = some (.v (.string spc)) := by unfold loadA;simp only [rs0];rfl
  rw [fn_step (fn_172 e) (show Tryz.f172.body = some _ from rfl)]
  generalize hN : H.size = N at *
  simp -implicitDefEqProofs only [Tryz.f172,go_sem,↓reduceIte,Int.reduceEq,Int.reduceLT,Int.reduceLE,List.reduceReplicate,intA,setT_nil,setT_cons,hN,settle_eqN hN,ls0,hss,h01,↓boolP_bool,↓iteB_true,↓iteB_false]
  refine Lp_rule (P := fun μ a H1 => ∃ t s1 m1,t.size = μ ∧ t.size ≤ s.size ∧ a = ⟨52,[(0,.yld l),(1,.ptr qs 0 0),(2,.ptr q 0 0),(3,.ptr qv 0 0),(11,.v (.bool false))],[]⟩ ∧ live s1 ∧ R s1 m1 ∧ Has m1 H1 ∧ H1.get q = some (oS t) ∧ Moves ((q,oS s) :: m) H ((q,oS t) :: m1) H1 ∧ runIt stp ((splB s).map itS) s0 = runIt stp ((splB t).map itS) s1 ∧ okRun stp ok ((splB t).map itS) s1) ?_ s.size _ _ ⟨s,s0,m,rfl,Nat.le_refl _,rfl,hlv,hR,hH,hq,Moves.refl _ _,rfl,hok⟩
  rintro μ _ H1 ⟨t,s1,m1,htm,hts,rfl,hlv1,hR1,hH1,hq1,hmv1,hrun1,hok1⟩
  have hlk1 : H1.lock = k := hmv1.lock.trans hlk
  have hsz1 : n0 ≤ H1.size := by have := hmv1.size;omega
  have rq1 := get_row hq1
  have rs1 := rs m1 H1 s1 hR1 hH1
  have rv1 := rv m1 H1 s1 hR1 hH1
  have ls1 : loadA Tryz.prog H1 9 (.ptr qs 0 0) = some (.v (.string spc)) := by unfold loadA;simp only [rs1];rfl
  have lq1 : loadA Tryz.prog H1 9 (.ptr q 0 0) = some (.v (.string t)) := by unfold loadA;simp only [rq1];rfl
  have lv1 : loadA Tryz.prog H1 3 (.ptr qv 0 0) = some (intA 0) := by unfold loadA;simp only [rv1];rfl
  have c173 := fun me d H => (ansS173 he hx t).call (me := me) (d := d) (ext_173 he) (pure_173 _ _ _) rfl H
  generalize hN1 : H1.size = N1 at *
  rcases splB_idx t with ⟨hi,hsp⟩ | ⟨i,hi,hidx,hsp⟩
  ·rw [hi] at c173
   rw [hsp,List.map_cons,List.map_nil] at hok1
   rw [hsp,List.map_cons,List.map_nil,runIt_cons] at hrun1
   obtain ⟨H3,H4,m4,hr3,hr4,hR4,hH4,hmv4⟩ := hsrc.round' s1 m1 (itS t) H1 hlv1 hok1.1 hR1 hH1 hlk1 (by omega)
   rw [hN1] at hr4
   have hm1 : ((-1 : Int) < 0) := by decide
   have hfin : ∃ m' o2,R (runIt stp ((splB s).map itS) s0).2 m' ∧ Has m' H4 ∧ H4.get q = some o2 ∧ Moves ((q,oS s) :: m) H ((q,o2) :: m') H4 := by
    refine ⟨m4,oS t, ?_,hH4, ?_,hmv1.trans (hmv4.cons q _ _)⟩
    ·rw [hrun1]
     split
     ·exact hR4
     ·exact hR4
    ·rw [hmv4.same q (Heap.get_lt hq1) (hRq _ _ hR1)];exact hq1
   simp only [itS] at hr3
   simp -implicitDefEqProofs only [go_sem,↓reduceIte,Int.reduceEq,Int.reduceLT,Int.reduceLE,List.reduceReplicate,intA,setT_nil,setT_cons,ls1,lq1,lv1,c173,hm1,hN1,settle_eqN hN1,trim_eqN hN1,hr3,hr4,decide_true,↓boolP_bool,↓iteB_true,↓iteB_false]
   exact ⟨rfl,hfin⟩
  ·rw [hidx] at c173
   rw [hsp,List.map_cons] at hok1
   rw [hsp,List.map_cons,runIt_cons] at hrun1
   obtain ⟨H3,H4,m4,hr3,hr4,hR4,hH4,hmv4⟩ := hsrc.round' s1 m1 (itS (t.extract 0 i)) H1 hlv1 hok1.1 hR1 hH1 hlk1 (by omega)
   rw [hN1] at hr4
   have hst := hsrc.step s1 (itS (t.extract 0 i)) hlv1 hok1.1
   have hm1 : ¬ ((i : Int) < 0) := by omega
   have hq4 : H4.get q = some (oS t) := by rw [hmv4.same q (Heap.get_lt hq1) (hRq _ _ hR1)];exact hq1
   have hs4 : N1 ≤ H4.size := by have := hmv4.size;omega
   have hqN : q < N1 := by have := Heap.get_lt hq1;omega
   have hsl1 : ∀ H : Heap,sliceA Tryz.prog H 9 (.v (.string t)) none (some (.v (.int .i64 (i : Int)))) none = some (.v (.string (t.extract 0 i))) := fun H => by
    unfold sliceA
    rw [und_9]
    have h3 : i ≤ t.size := by omega
    simp only [boundA]
    simp [h3]
   have hsl2 : ∀ H : Heap,sliceA Tryz.prog H 9 (.v (.string t)) (some (.v (.int .i64 ((i + 1 : Nat) : Int)))) none none = some (.v (.string (t.extract (i + 1) t.size))) := fun H => by
    unfold sliceA
    rw [und_9]
    have h3 : (0 : Int) ≤ ((i + 1 : Nat) : Int) ∧ ((i + 1 : Nat) : Int) ≤ (t.size : Int) := by omega
    simp only [boundA,if_pos h3,Int.toNat_natCast,Option.isSome_none,Bool.false_and,Bool.false_eq_true,if_false]
   have rq4 := get_row hq4
   have rs4 := rs m4 H4 _ hR4 hH4
   have ls4 : loadA Tryz.prog H4 9 (.ptr qs 0 0) = some (.v (.string spc)) := by unfold loadA;simp only [rs4];rfl
   have lq4 : loadA Tryz.prog H4 9 (.ptr q 0 0) = some (.v (.string t)) := by unfold loadA;simp only [rq4];rfl
   have hk4 : H4.lock ≤ q := by have := hmv4.lock;omega
   have st4 : ∀ u,storeA Tryz.prog H4 9 (.ptr q 0 0) (.v (.string u)) = some (H4.put q (oS u)) := fun u => by
    rw [store_9]
    unfold storeCells
    simp only [rq4]
    rw [if_pos (show (AV.v (.string u)).cells.length = 1 from rfl),if_pos ⟨hk4,Nat.le_refl _,rfl⟩]
    rfl
   have hsz4 : ∀ u,(H4.put q (oS u)).size = H4.size := fun u => put_sizeI _ (by omega)
   have hwi0 : IntKind.i64.wrap ((i : Int) + 0) = (i : Int) := by rw [Int.add_zero];exact wrap_nat _ (by omega)
   have hwi1 : IntKind.i64.wrap ((i : Int) + ((1 : Nat) : Int)) = ((i + 1 : Nat) : Int) := wrap_nat (i + 1) (by omega)
   cases hb : (stp s1 (itS (t.extract 0 i))).1
   ·rw [hb] at hr3 hrun1
    simp only [Bool.false_eq_true,if_false] at hrun1
    simp only [itS] at hr3
    simp -implicitDefEqProofs only [go_sem,↓reduceIte,Int.reduceEq,Int.reduceLT,Int.reduceLE,List.reduceReplicate,intA,setT_nil,setT_cons,ls1,lq1,lv1,c173,hm1,hsl1,hwi0,hN1,settle_eqN hN1,trim_eqN hN1,hr3,hr4,decide_false,Bool.not_false,↓boolP_bool,↓iteB_true,↓iteB_false]
    rw [hrun1]
    exact ⟨rfl,m4,oS t,hR4,hH4,hq4,hmv1.trans (hmv4.cons q _ _)⟩
   ·rw [hb] at hr3 hrun1
    simp only [if_true] at hrun1
    simp only [itS] at hr3
    simp -implicitDefEqProofs only [go_sem,↓reduceIte,Int.reduceEq,Int.reduceLT,Int.reduceLE,List.reduceReplicate,intA,setT_nil,setT_cons,ls1,lq1,lv1,c173,hm1,hsl1,hsl2,ls4,lq4,st4,hss,hwi0,hwi1,hN1,settle_eqN hN1,trim_eqN hN1,hr3,hr4,decide_false,Bool.not_true,↓boolP_bool,↓iteB_true,↓iteB_false]
    have hx2 : (t.extract (i + 1) t.size).size = t.size - (i + 1) := by rw [ByteArray.size_extract];omega
    have hmv5 : Moves ((q,oS t) :: m1) H1 ((q,oS (t.extract (i + 1) t.size)) :: m4) (H4.put q (oS (t.extract (i + 1) t.size))) := (hmv4.cons q _ _).putq _ (by omega)
    rw [settle_eqN (hsz4 _)]
    refine Again.mk' (t.size - (i + 1)) (by omega) ⟨t.extract (i + 1) t.size,_,m4,hx2,by omega,rfl,hst hb,hR4, ?_, ?_,hmv1.trans (hmv5.trim _ _ hN1.symm),hrun1,hok1.2 hb⟩
    ·exact (hH4.put _ (by omega) (hRq _ _ hR4)).trim (hsrc.anch _ _ hR4) (by omega) _ _
    ·rw [trim_getT hqN];exact put_get_eq _ (by omega)
 obtain ⟨v,H',h1,rfl,m',o2,h2,h3,h4,h5⟩ := fn_ex key
 exact ⟨H',m',o2,h1,h2,h3,h4,h5⟩
end Go.Ev
namespace Go.Ev
open Go.Proofs
attribute [local irreducible] Wp WpS
def oB : AObj := .cells 0 0 4 1 false [.v (.bool false)]
def fnS : AV := .fn (.func 172) [] [.ptr 2 0 0,.ptr 1 0 0,.ptr 3 0 0]
def hpS (s : ByteArray) : Heap := ⟨[some (.cells 0 0 4 1 false [.v (.bool false)]),some (.cells 0 0 9 1 false [.v (.string s)]),some (.cells 0 0 9 1 false [.v (.string spc)]),some (.cells 0 0 3 1 false [.v (.int .i64 0)])],0⟩
theorem callA_lit {C : Cfg} {me f : FuncId} {d : Option Tmp} {args : List AV} {H Y : Heap} {w : AV} (hx : C.ext f = none) (hp : C.pure me f d = false) (h : Fn' C f args H (fun v H' => v = w ∧ H' = Y)) (ht : Y.trim H.size [w] [] = Y) (hh : C.exh f = none := by rfl) : callA C (lim C) me f d args H = some (w,Y) := by
 unfold Fn' at h
 rw [bindO_iff] at h
 obtain ⟨o,h1,h2⟩ := h
 have hk : callKind C me f d args = 0 := by unfold callKind;rw [hp];rfl
 cases o with
 | ret v H' =>
  obtain ⟨rfl,rfl⟩ := h2
  rw [callA_none hx hh];unfold callB
  simp only [hk,h1,ht]
 | _ => exact h2.elim
theorem fn150 {e : Exts} (s : ByteArray) : Fn' (Cx e) 150 [.v (.string s),.v (.string spc),.v (.int .i64 0)] ⟨[some (.cells 0 0 4 1 false [.v (.bool false)])],0⟩ (fun v H' => v = fnS ∧ H' = hpS s) := by
 rw [fn_step (fn_150 e) (show Tryz.f150.body = some _ from rfl)]
 simp -implicitDefEqProofs only [Tryz.f150,go_sem,↓reduceIte,Int.reduceEq,Int.reduceLT,Int.reduceLE,List.reduceReplicate,intA,setT_nil,setT_cons,↓boolP_bool,↓iteB_true,↓iteB_false]
 exact ⟨rfl,rfl⟩
theorem call150 {e : Exts} (he : Quiet e) (s : ByteArray) (d : Option Tmp) : callA (Cx e) (lim (Cx e)) 125 150 d [.v (.string s),.v (.string spc),.v (.int .i64 0)] ⟨[some (.cells 0 0 4 1 false [.v (.bool false)])],0⟩ = some (fnS,hpS s) :=
 callA_lit (ext_150 he) rfl (fn150 s) rfl
theorem fn125 {e : Exts} (he : Quiet e) (s : ByteArray) : Fn' (Cx e) 125 [.v (.string s),.v (.string spc)] ⟨[some (.cells 0 0 4 1 false [.v (.bool false)])],0⟩ (fun v H' => v = fnS ∧ H' = hpS s) := by
 have c150 := call150 he s
 unfold fnS hpS at *
 rw [fn_step (fn_125 e) (show Tryz.f125.body = some _ from rfl)]
 simp -implicitDefEqProofs only [Tryz.f125,go_sem,↓reduceIte,Int.reduceEq,Int.reduceLT,Int.reduceLE,List.reduceReplicate,intA,setT_nil,setT_cons,c150,↓boolP_bool,↓iteB_true,↓iteB_false]
 exact ⟨rfl,rfl⟩
theorem call125 {e : Exts} (he : Quiet e) (s : ByteArray) (d : Option Tmp) : callA (Cx e) (lim (Cx e)) 99 125 d [.v (.string s),.v (.string spc)] ⟨[some (.cells 0 0 4 1 false [.v (.bool false)])],0⟩ = some (fnS,hpS s) :=
 callA_lit (ext_125 he) rfl (fn125 he s) rfl
end Go.Ev
namespace Go.Ev
open Go.Proofs
attribute [local irreducible] Wp WpS
theorem ansS114F {e : Exts} (lo hi n : Int) (h : ¬ (lo ≤ n ∧ n ≤ hi)) (cap : Option Nat) : Ans (Cx e) 114 [.agg [intA lo,intA hi],.vs 1 [intA n] cap] (.v (.bool false)) := by
 unfold Ans
 rw [fn_step (fn_114 e) (show Tryz.f114.body = some _ from rfl)]
 have hsl : SlOf 1 [intA n] (.vs 1 [intA n] cap) := Or.inr ⟨cap,rfl⟩
 have hlen := hsl.len
 simp -implicitDefEqProofs only [Tryz.f114,go_sem,↓reduceIte,Int.reduceEq,Int.reduceLT,Int.reduceLE,List.reduceReplicate,intA,setT_nil,setT_cons,hlen,↓boolP_bool,↓iteB_true,↓iteB_false]
 refine Lp_ruleQ (P := fun μ a H => μ = 1 ∧ a = ⟨24,[(0,.agg [intA lo,intA hi]),(1,.vs 1 [intA n] cap),(2,.ptr 0 0 0),(4,.v (.bool false)),(7,.vs 1 [intA n] cap),(8,intA 1),(9,intA (0 : Nat))],[]⟩ ∧ H = ⟨[some (.cells 0 0 170 1 false [intA lo,intA hi])],0⟩) ?_ 1 _ _ ⟨rfl,rfl,rfl⟩
 rintro Q KK hQ hKK μ _ _ ⟨rfl,rfl,rfl⟩
 have hlt : ((0 : Nat) : Int) < 1 := by omega
 have hix := hsl.idx (show ([intA n] : List AV)[0]? = some (intA n) from rfl)
 have hw := wrap_succ 0 (by omega)
 simp only [intA] at hix
 by_cases hn1 : n < lo
 ·simp -implicitDefEqProofs only [go_sem,↓reduceIte,Int.reduceEq,Int.reduceLT,Int.reduceLE,List.reduceReplicate,intA,setT_nil,setT_cons,hlt,hn1,hix,hw,decide_true,↓boolP_bool,↓iteB_true,↓iteB_false]
  refine hKK _ _ _ ?_
  simp -implicitDefEqProofs only [go_sem,↓reduceIte,Int.reduceEq,Int.reduceLT,Int.reduceLE,List.reduceReplicate,intA,setT_nil,setT_cons,↓boolP_bool,↓iteB_true,↓iteB_false]
 ·have hn2 : n > hi := by omega
  simp -implicitDefEqProofs only [go_sem,↓reduceIte,Int.reduceEq,Int.reduceLT,Int.reduceLE,List.reduceReplicate,intA,setT_nil,setT_cons,hlt,hn1,hn2,hix,hw,decide_true,decide_false,↓boolP_bool,↓iteB_true,↓iteB_false]
  refine hKK _ _ _ ?_
  simp -implicitDefEqProofs only [go_sem,↓reduceIte,Int.reduceEq,Int.reduceLT,Int.reduceLE,List.reduceReplicate,intA,setT_nil,setT_cons,↓boolP_bool,↓iteB_true,↓iteB_false]
def trimB (s : ByteArray) : ByteArray := (s.extract 0 (tR s s.size)).extract (tL (s.extract 0 (tR s s.size)) (s.extract 0 (tR s s.size)).size 0) (s.extract 0 (tR s s.size)).size
theorem tR_le (s : ByteArray) : ∀ k,tR s k ≤ k
 | 0 => Nat.le_refl _
 | k + 1 => by
  have := tR_le s k
  rw [tR];split <;> omega
theorem tR_last (s : ByteArray) : ∀ k,tR s k = 0 ∧ (∀ i < k,letter (s.data.toList.getD i 0) = true) ∨ ∃ j,tR s k = j + 1 ∧ j < k ∧ letter (s.data.toList.getD j 0) = false
 | 0 => Or.inl ⟨rfl,fun i h => by omega⟩
 | k + 1 => by
  rw [tR]
  cases h : letter (s.data.toList.getD k 0) with
  | false => exact Or.inr ⟨k,by simp,by omega,h⟩
  | true =>
   simp only [if_true]
   rcases tR_last s k with ⟨h1,h2⟩ | ⟨j,h1,h2,h3⟩
   ·exact Or.inl ⟨h1,fun i hi => by
     rcases Nat.lt_or_ge i k with h4 | h4
     ·exact h2 i h4
     ·rw [show i = k by omega];exact h⟩
   ·exact Or.inr ⟨j,h1,by omega,h3⟩
theorem tL_stop (s : ByteArray) (j : Nat) (hj : letter (s.data.toList.getD j 0) = false) : ∀ m k,k ≤ j → tL s m k ≤ j
 | 0,k,h => h
 | m + 1,k,h => by
  rw [tL]
  split
  ·rename_i h1
   refine tL_stop s j hj m (k + 1) ?_
   rcases Nat.lt_or_ge k j with h2 | h2
   ·exact h2
   ·obtain rfl : k = j := by omega
    rw [hj] at h1;cases h1
  ·exact h
theorem trimB_emp {s : ByteArray} : decide (trimB s = emp) = lettersB s 0 := by
 have hsz : s.size = s.data.toList.length := (Array.length_toList (xs := s.data)).symm
 unfold trimB
 rcases tR_last s s.size with ⟨h1,h2⟩ | ⟨j,h1,h2,h3⟩
 ·have hl : lettersB s 0 = true := by
   unfold lettersB
   rw [List.drop_zero,List.all_eq_true]
   intro b hb
   obtain ⟨i,hi,rfl⟩ := List.mem_iff_getElem.1 hb
   have := h2 i (by omega)
   rwa [List.getD_eq_getElem?_getD,List.getElem?_eq_getElem hi] at this
  rw [hl,h1,ext_00]
  exact decide_eq_true rfl
 ·have hl : lettersB s 0 = false := by
   unfold lettersB
   rw [List.drop_zero,List.all_eq_false]
   have hj : j < s.data.toList.length := by omega
   refine ⟨_,List.getElem_mem hj, ?_⟩
   rw [List.getD_eq_getElem?_getD,List.getElem?_eq_getElem hj] at h3
   simp only [Option.getD_some] at h3
   rw [h3];decide
  rw [hl,h1]
  refine decide_eq_false fun h => ?_
  have hu : (s.extract 0 (j + 1)).size = j + 1 := by rw [ByteArray.size_extract];omega
  have hd : (s.extract 0 (j + 1)).data.toList.getD j 0 = s.data.toList.getD j 0 := by
   rw [ByteArray.data_extract,Array.toList_extract,List.extract_eq_take_drop,List.getD_eq_getElem?_getD,List.getD_eq_getElem?_getD]
   simp
  have ht := tL_stop (s.extract 0 (j + 1)) j (by rw [hd];exact h3) (j + 1) 0 (by omega)
  rw [hu] at h
  have := congrArg ByteArray.size h
  rw [ByteArray.size_extract,hu] at this
  have he : emp.size = 0 := rfl
  omega
theorem ansS124T {e : Exts} (he : Quiet e) (s : ByteArray) (h1 : 1 ≤ s.size) (h2 : s.size ≤ 1000) : Ans (Cx e) 124 [.v (.string s),.v (.string alph)] (.v (.string (trimB s))) := by
 have c145 := fun me d H => (ansS145 (e := e)).call (me := me) (d := d) (ext_145 he) (pure_145 _ _ _) rfl H
 have hne : decide (s = (⟨#[]⟩ : ByteArray)) = false := decide_eq_false fun h => by rw [h] at h1;exact absurd h1 (by decide)
 have hna : decide (alph = (⟨#[]⟩ : ByteArray)) = false := decide_eq_false fun h => by have := congrArg ByteArray.size h;exact absurd this (by decide)
 have has : alph.size = 26 := rfl
 have h26 : ¬ ((26 : Nat) : Int) = 1 := by decide
 have hz : zeroT Tryz.prog 209 = some (.agg (tabJ 0)) := by rw [tabJ_zero];kernel_rfl
 have htl := tabJ_len 26
 have hfl := tabJ_flat 26
 have hbd := tabJ_bd 26
 have hfl0 := tabJ_flat 0
 have htl0 := tabJ_len 0
 have hbd0 := tabJ_bd 0
 have hdr : (tabJ 0).drop 256 = [] := List.drop_of_length_le (by omega)
 have c147 := fun me d => call147 he (X := ⟨[some (.cells 0 0 209 1 false (tabJ 26))],0⟩) 0 (by decide) rfl s (by omega) me d
 have hu : (s.extract 0 (tR s s.size)).size ≤ 1000 := by rw [ByteArray.size_extract];omega
 have c146 := fun me d => call146 he (X := ⟨[some (.cells 0 0 209 1 false (tabJ 26))],0⟩) 0 (by decide) rfl (s.extract 0 (tR s s.size)) (by omega) me d
 unfold trimB
 generalize s.extract 0 (tR s s.size) = u at *
 unfold Ans
 rw [fn_step (fn_124 e) (show Tryz.f124.body = some _ from rfl)]
 generalize tabJ 26 = T at *
 generalize tabJ 0 = T0 at *
 simp -implicitDefEqProofs only [Tryz.f124,go_sem,↓reduceIte,Int.reduceEq,Int.reduceLT,Int.reduceLE,List.reduceReplicate,intA,setT_nil,setT_cons,bin_seq,hne,hna,has,h26,decide_false,c145,hz,hfl,hfl0,hbd,hbd0,htl,htl0,hdr,c147,c146,↓boolP_bool,↓iteB_true,↓iteB_false]
theorem ansS98A {e : Exts} (he : Quiet e) (s : ByteArray) (hs : s.size < 1000) : Ans (Cx e) 98 [.v (.string s)] (.v (.bool (wordB s))) := by
 by_cases h : (1 : Int) ≤ (s.size : Int) ∧ (s.size : Int) ≤ 12
 ·have c124 := fun me d H => (ansS124T he s (by omega) (by omega)).call (me := me) (d := d) (ext_124 he) (pure_124 _ _ _) rfl H
  have cw := fun cap me d H => (ansS114 (e := e) 1 12 s.size h.1 h.2 cap).call (me := me) (d := d) (ext_114 he) (pure_114 _ _ _) rfl H
  have hwb : wordB s = decide (trimB s = (⟨#[]⟩ : ByteArray)) := by
   rw [show (⟨#[]⟩ : ByteArray) = emp from rfl,trimB_emp]
   unfold wordB
   rw [range1,decide_eq_true h.1,decide_eq_true h.2];rfl
  rw [hwb]
  generalize trimB s = u at *
  unfold intA at cw
  unfold alph at c124
  unfold Ans
  rw [fn_step (fn_98 e) (show Tryz.f98.body = some _ from rfl)]
  simp -implicitDefEqProofs only [Tryz.f98,go_sem,↓reduceIte,Int.reduceEq,Int.reduceLT,Int.reduceLE,List.reduceReplicate,intA,setT_nil,setT_cons,cw,c124,bin_seq,↓boolP_bool,↓iteB_true,↓iteB_false]
 ·have cw := fun cap me d H => (ansS114F (e := e) 1 12 s.size h cap).call (me := me) (d := d) (ext_114 he) (pure_114 _ _ _) rfl H
  have hwb : wordB s = false := by
   unfold wordB
   rw [range1,← Bool.decide_and,decide_eq_false h];rfl
  rw [hwb]
  unfold intA at cw
  unfold Ans
  rw [fn_step (fn_98 e) (show Tryz.f98.body = some _ from rfl)]
  simp -implicitDefEqProofs only [Tryz.f98,go_sem,↓reduceIte,Int.reduceEq,Int.reduceLT,Int.reduceLE,List.reduceReplicate,intA,setT_nil,setT_cons,cw,↓boolP_bool,↓iteB_true,↓iteB_false]
end Go.Ev
namespace Go.Ev
open Go.Proofs
attribute [local irreducible] Wp WpS
def sideB (s : ByteArray) : Bool := decide (s = emp) || (decide (s.size ≤ 80) && (splB s).all wordB)
def R99 (_ : Unit) (m : Fm) : Prop := m = [(0,oB),(2,oS spc),(3,oZ)]
def stp99 (_ : Unit) (x : List AV) : AExit × Unit := match x with
 | [.v (.string w)] => (if wordB w then .normal else .ret,())
 | _ => (.normal,())
def ok99 (_ : Unit) (x : List AV) : Prop := ∃ w : ByteArray,x = itS w ∧ w.size < 1000
theorem stp99_it (w : ByteArray) : stp99 () (itS w) = (if wordB w then .normal else .ret,()) := rfl
theorem fold99 : ∀ l : Line,foldE stp99 (l.map itS) () = (if l.all wordB then .normal else .ret,())
 | [] => rfl
 | w :: r => by
  rw [List.map_cons]
  cases h : wordB w with
  | true =>
   rw [foldE_go (by rw [stp99_it,h];rfl),stp99_it,fold99 r]
   simp [h]
  | false =>
   rw [foldE_out (by rw [stp99_it,h];simp),stp99_it]
   simp [h]
theorem okRun99 : ∀ l : Line,(∀ w ∈ l,w.size < 1000) → okRun (fun s x => (isGo (stp99 s x).1,(stp99 s x).2)) ok99 (l.map itS) ()
 | [],_ => trivial
 | w :: r,h => ⟨⟨w,rfl,h w (List.mem_cons_self ..)⟩,fun _ => okRun99 r fun y hy => h y (List.mem_cons_of_mem _ hy)⟩
theorem splB_small : ∀ (n : Nat) (s : ByteArray),s.size ≤ n → s.size < 1000 → ∀ x ∈ splB s,x.size < 1000
 | n,s,hn,h,x,hx => by
  rcases splB_idx s with ⟨-,h2⟩ | ⟨i,hi, -,h2⟩
  ·rw [h2] at hx
   rcases List.mem_cons.1 hx with rfl | hx
   ·exact h
   ·cases hx
  ·rw [h2] at hx
   have hz : (s.extract (i + 1) s.size).size = s.size - (i + 1) := by rw [ByteArray.size_extract];omega
   rcases List.mem_cons.1 hx with rfl | hx
   ·rw [ByteArray.size_extract];omega
   ·cases n with
    | zero => omega
    | succ n => exact splB_small n _ (by omega) (by omega) x hx
theorem ansS99 {e : Exts} (he : Quiet e) (hx : e.x 197 = some idxStr) (s : ByteArray) (hs : s.size < 1000) : Ans (Cx e) 99 [.v (.string s)] (.v (.bool (sideB s))) := by
 have c125 := call125 he s
 unfold fnS hpS at c125
 unfold Ans
 rw [fn_step (fn_99 e) (show Tryz.f99.body = some _ from rfl)]
 by_cases h0 : s = emp
 ·have hb : sideB s = true := by unfold sideB;rw [decide_eq_true h0];rfl
  have h0' : decide (s = (⟨#[]⟩ : ByteArray)) = true := decide_eq_true h0
  rw [hb]
  simp -implicitDefEqProofs only [Tryz.f99,go_sem,↓reduceIte,Int.reduceEq,Int.reduceLT,Int.reduceLE,List.reduceReplicate,intA,setT_nil,setT_cons,bin_seq,h0',↓boolP_bool,↓iteB_true,↓iteB_false]
 have h0' : decide (s = (⟨#[]⟩ : ByteArray)) = false := decide_eq_false h0
 by_cases h80 : (s.size : Int) > 80
 ·have hb : sideB s = false := by unfold sideB;rw [decide_eq_false h0,decide_eq_false (show ¬ s.size ≤ 80 by omega)];rfl
  rw [hb]
  simp -implicitDefEqProofs only [Tryz.f99,go_sem,↓reduceIte,Int.reduceEq,Int.reduceLT,Int.reduceLE,List.reduceReplicate,intA,setT_nil,setT_cons,bin_seq,h0',h80,decide_true,↓boolP_bool,↓iteB_true,↓iteB_false]
 have hb : sideB s = (splB s).all wordB := by unfold sideB;rw [decide_eq_false h0,decide_eq_true (show s.size ≤ 80 by omega)];rfl
 rw [hb]
 unfold spc at c125
 simp -implicitDefEqProofs only [Tryz.f99,go_sem,↓reduceIte,Int.reduceEq,Int.reduceLT,Int.reduceLE,List.reduceReplicate,intA,setT_nil,setT_cons,bin_seq,h0',h80,c125,decide_false,↓boolP_bool,↓iteB_true,↓iteB_false]
 refine wp_range2S (yields2S_172 he hx s hs 1 2 3) rfl R99 stp99 (fun _ => True) ok99 (n0 := 4) (k := 0) (Nat.le_refl _) (Nat.zero_le _) (fun x hx => ?_) rfl (Nat.zero_le _) ?_ ?_ ?_ ?_ (fun _ _ _ _ _ => trivial) ?_ () _ (okRun99 _ (splB_small _ s (Nat.le_refl _) hs)) trivial rfl ?_ rfl ?_
 ·obtain ⟨c, -,rfl⟩ := List.mem_map.1 hx
  rfl
 ·rintro s m rfl p hp
  exact List.mem_cons_of_mem _ hp
 ·rintro s m rfl ⟨p,hp,he⟩
  simp only [List.mem_cons,List.not_mem_nil,or_false] at hp
  rcases hp with rfl | rfl | rfl <;> simp only at he <;> omega
 ·rintro s m rfl n hn ⟨p,hp,hpn⟩
  simp only [List.mem_cons,List.not_mem_nil,or_false] at hp
  rcases hp with rfl | rfl | rfl <;> simp only at hpn <;> omega
 ·rintro s m rfl
  show ¬ keyIn 4 _ ∧ ¬ keyIn 5 _
  constructor
  ·rintro ⟨p,hp,he⟩
   simp only [List.mem_cons,List.not_mem_nil,or_false] at hp
   rcases hp with rfl | rfl | rfl <;> simp only at he <;> omega
  ·rintro ⟨p,hp,he⟩
   simp only [List.mem_cons,List.not_mem_nil,or_false] at hp
   rcases hp with rfl | rfl | rfl <;> simp only at he <;> omega
 ·rintro L L' s1 m x H' - - ⟨w,rfl,hw⟩ - rfl hHm hd0 hlo hlk' hsz'
  have g0 : H'.get 0 = some oB := hHm (0,oB) (by simp)
  have g2 : H'.get 2 = some (oS spc) := hHm (2,oS spc) (by simp)
  have g3 : H'.get 3 = some oZ := hHm (3,oZ) (by simp)
  obtain ⟨N2,hN2⟩ : ∃ N2,H'.size = N2 := ⟨_,rfl⟩
  have c98 := fun me d H => (ansS98A he w hw).call (me := me) (d := d) (ext_98 he) (pure_98 _ _ _) rfl H
  have hlo1 : loopObj H' 5 = some L := hlo
  have h6 : 6 ≤ N2 := by have : 4 + 2 ≤ H'.size := hsz';omega
  simp -implicitDefEqProofs only [go_sem,↓reduceIte,Int.reduceEq,Int.reduceLT,Int.reduceLE,List.reduceReplicate,intA,setT_nil,setT_cons,itS,List.zip_cons_cons,List.zip_nil_right,List.zip_nil_left,hN2,settle_eqN hN2,↓boolP_bool,↓iteB_true,↓iteB_false]
  refine ⟨rfl,hlo1, ?_⟩
  obtain ⟨Y,hY⟩ : ∃ Y,H'.put (4 + 1) (.loop L') = Y := ⟨_,rfl⟩
  have hYs : Y.size = N2 := by rw [← hY,put_sizeI _ (by omega)];exact hN2
  have hYg : ∀ b,b ≠ 5 → Y.get b = H'.get b := fun b hb => by rw [← hY];exact put_get_ne _ (by omega) hb
  have hYl : Y.lock = 0 := by rw [← hY];exact hlk'
  have hY5 : Y.get 5 = some (.loop L') := by rw [← hY];exact put_get_eq _ (by omega)
  have y0 := (hYg 0 (by omega)).trans g0
  have st0 : storeA Tryz.prog Y 4 (.ptr 0 0 0) (.v (.bool false)) = some (Y.put 0 oB) := by
   rw [store_4]
   unfold storeCells
   simp only [get_row y0]
   rw [if_pos (show (AV.v (.bool false)).cells.length = 1 from rfl),if_pos ⟨by omega,Nat.le_refl _,rfl⟩]
   rfl
  have hWs : (Y.put 0 oB).size = N2 := by rw [put_sizeI _ (by omega)];exact hYs
  have hWg : ∀ b,(Y.put 0 oB).get b = Y.get b := fun b => by
   by_cases hb : b = 0
   ·subst hb;rw [put_get_eq _ (by omega),y0]
   ·exact put_get_ne _ (by omega) hb
  have fin : ∀ Z : Heap,Z.size = N2 → Z.lock = 0 → (∀ b,Z.get b = Y.get b) → ∃ m',R99 () m' ∧ Has m' Z ∧ loopObj Z (4 + 1) = some L' ∧ Moves ((4 + 1,.loop L') :: [(0,oB),(2,oS spc),(3,oZ)]) H' ((4 + 1,.loop L') :: m') Z := by
   intro Z z1 z2 z3
   refine ⟨_,rfl,fun p hp => ?_,get_loopObj ((z3 5).trans hY5),by omega,by omega,fun b hb hnb => ?_,fun p hp => ?_⟩
   ·simp only [List.mem_cons,List.not_mem_nil,or_false] at hp
    rw [z3]
    rcases hp with rfl | rfl | rfl
    ·exact y0
    ·exact (hYg 2 (by omega)).trans g2
    ·exact (hYg 3 (by omega)).trans g3
   ·have b1 : b ≠ 5 := fun he => hnb ⟨_,List.mem_cons_self ..,he.symm⟩
    rw [z3 b,hYg b b1]
   ·exact Or.inl ⟨p,hp,rfl⟩
  rw [hY,show stp99 s1 [AV.v (Value.string w)] = (if wordB w then .normal else .ret,()) from rfl]
  cases hwb : wordB w
  ·rw [hwb] at c98
   simp -implicitDefEqProofs only [go_sem,↓reduceIte,Int.reduceEq,Int.reduceLT,Int.reduceLE,List.reduceReplicate,intA,setT_nil,setT_cons,c98,st0,Bool.not_false,hYs,settle_eqN hYs,settle_eqN hWs,↓boolP_bool,↓iteB_true,↓iteB_false,bd2K_at]
   exact fin _ hWs hYl hWg
  ·rw [hwb] at c98
   simp -implicitDefEqProofs only [go_sem,↓reduceIte,Int.reduceEq,Int.reduceLT,Int.reduceLE,List.reduceReplicate,intA,setT_nil,setT_cons,c98,Bool.not_true,hYs,settle_eqN hYs,↓boolP_bool,↓iteB_true,↓iteB_false,bd2K_at]
   exact fin _ hYs hYl fun _ => rfl
 ·intro p hp
  simp only [List.mem_cons,List.not_mem_nil,or_false] at hp
  rcases hp with rfl | rfl | rfl <;> rfl
 ·rw [fold99]
  rintro m' H' o2 rfl hHm hq2 hd hdd hmv hsz'
  generalize (splB s).all wordB = b at *
  have g0 : H'.get 0 = some oB := hHm (0,oB) (by simp)
  obtain ⟨N2,hN2⟩ : ∃ N2,H'.size = N2 := ⟨_,rfl⟩
  have hl' : H'.lock = 0 := hmv.lock
  have h6 : 6 ≤ N2 := by have : 4 + 2 ≤ H'.size := hsz';omega
  have hd4 : H'.get 4 = some .dfr := hd
  have r0 := get_row g0
  have kill : ∀ Z : Heap,Z.get 4 = some .dfr → Z.lock = 0 → killAll [4] Z = some (Z.put 4 .dead) := fun Z h1 h2 => by
   unfold killAll
   rw [h1]
   simp only
   rw [if_pos (by omega)]
   unfold killAll;rfl
  have ld : ∀ (Z : Heap) (c : Bool),Z.size = N2 → Z.get 0 = some (.cells 0 0 4 1 false [.v (.bool c)]) → loadA Tryz.prog (Z.put 4 .dead) 4 (.ptr 0 0 0) = some (.v (.bool c)) := fun Z c h1 h2 => by
   have := get_row ((put_get_ne (H := Z) (b := 4) .dead (by omega) (show (0 : Nat) ≠ 4 by omega)).trans h2)
   unfold loadA
   simp only [this]
   rfl
  have st1 : storeA Tryz.prog H' 4 (.ptr 0 0 0) (.v (.bool true)) = some (H'.put 0 (.cells 0 0 4 1 false [.v (.bool true)])) := by
   rw [store_4]
   unfold storeCells
   simp only [r0]
   rw [if_pos (show (AV.v (.bool true)).cells.length = 1 from rfl),if_pos ⟨by omega,Nat.le_refl _,rfl⟩]
   rfl
  obtain ⟨W,hW⟩ : ∃ W,H'.put 0 (.cells 0 0 4 1 false [.v (.bool true)]) = W := ⟨_,rfl⟩
  rw [hW] at st1
  have hWs : W.size = N2 := by rw [← hW,put_sizeI _ (by omega)];exact hN2
  have hWl : W.lock = 0 := by rw [← hW];exact hl'
  have hW4 : W.get 4 = some .dfr := by rw [← hW,put_get_ne _ (by omega) (by omega)];exact hd4
  have hW0 : W.get 0 = some (.cells 0 0 4 1 false [.v (.bool true)]) := by rw [← hW];exact put_get_eq _ (by omega)
  show AtK _ _ ⟨15,[(0,AV.v (Value.string s)),(2,AV.ptr 0 0 0),(5,AV.v (Value.bool false)),(8,AV.v (Value.bool false)),(10,AV.fn (Fn.func 172) [] [AV.ptr 2 0 0,AV.ptr 1 0 0,AV.ptr 3 0 0])],[4]⟩ H'
  cases b
  ·have k1 := kill H' hd4 hl'
   have l1 := ld H' false hN2 g0
   simp -implicitDefEqProofs only [go_sem,↓reduceIte,Int.reduceEq,Int.reduceLT,Int.reduceLE,List.reduceReplicate,intA,setT_nil,setT_cons,k1,l1,Bool.false_eq_true,if_false,hN2,settle_eqN hN2,↓boolP_bool,↓iteB_true,↓iteB_false]
  ·have k1 := kill W hW4 hWl
   have l1 := ld W true hWs hW0
   simp -implicitDefEqProofs only [go_sem,↓reduceIte,Int.reduceEq,Int.reduceLT,Int.reduceLE,List.reduceReplicate,intA,setT_nil,setT_cons,k1,l1,st1,if_true,hN2,settle_eqN hN2,settle_eqN hWs,↓boolP_bool,↓iteB_true,↓iteB_false]
end Go.Ev
namespace Go.Ev
open Go.Proofs
attribute [local irreducible] Wp WpS
def fldB (s : ByteArray) : Line := (Lib.fields s.data.toList).map fun l => ⟨l.toArray⟩
theorem fld_av (s : ByteArray) : (Lib.fields s.data.toList).map strAV = strs (fldB s) := by unfold strs fldB strAV;rw [List.map_map];rfl
theorem splR_acc : ∀ (l : List UInt8) (L : Line) (c : ByteArray),splR l L c = L ++ splR l [] c
 | [],L,c => by unfold splR;simp
 | b :: r,L,c => by
  unfold splR
  by_cases hb : b.toNat = 32
  ·rw [if_pos hb,if_pos hb,splR_acc r (L ++ [c]),splR_acc r ([] ++ [c])];simp
  ·rw [if_neg hb,if_neg hb,splR_acc r L]
theorem splR_head : ∀ (l : List UInt8) (c : ByteArray),∃ w r,splR l [] c = w :: r ∧ ∃ suf,w.data.toList = c.data.toList ++ suf
 | [],c => ⟨c,[],rfl,[],by simp⟩
 | b :: r,c => by
  unfold splR
  by_cases hb : b.toNat = 32
  ·rw [if_pos hb,splR_acc]
   exact ⟨c,splR r [] emp,rfl,[],by simp⟩
  ·rw [if_neg hb]
   obtain ⟨w,r',h1,suf,h2⟩ := splR_head r (addB c b)
   refine ⟨w,r',h1,b :: suf, ?_⟩
   rw [h2]
   show ((c.data.toList ++ [b]).toArray).toList ++ suf = _
   simp
theorem letter_of {s : ByteArray} (h : wordB s = true) {b : UInt8} (hb : b ∈ s.data.toList) : 97 ≤ b.toNat ∧ b.toNat ≤ 122 := by
 obtain ⟨i,hi⟩ := List.mem_iff_getElem?.1 hb
 have hl := (List.getElem?_eq_some_iff.1 hi).1
 have h1 := word_letters h i (by simpa using hl)
 rw [List.getD_eq_getElem?_getD,hi] at h1
 unfold letter at h1
 rw [Bool.and_eq_true,decide_eq_true_iff,decide_eq_true_iff] at h1
 have h2 : (97 : Int) ≤ ((some b).getD 0).toNat ∧ (((some b).getD 0).toNat : Int) ≤ 122 := h1
 rw [Option.getD_some] at h2
 omega
theorem notSp {b : UInt8} (h : 97 ≤ b.toNat ∧ b.toNat ≤ 122) : Lib.isSp b = false := by
 unfold Lib.isSp
 simp only [Bool.or_eq_false_iff,beq_eq_false_iff_ne]
 have key : ∀ k : UInt8,k.toNat ≤ 32 → b ≠ k := fun k hk e => by rw [e] at h;omega
 exact ⟨⟨⟨⟨⟨key 9 (by decide),key 10 (by decide)⟩,key 11 (by decide)⟩,key 12 (by decide)⟩,key 13 (by decide)⟩,key 32 (by decide)⟩
theorem isSp32 {b : UInt8} (h : b.toNat = 32) : Lib.isSp b = true := by
 have : b = 32 := UInt8.toNat_inj.1 (by rw [h];rfl)
 subst this;rfl
theorem fieldsGo_spl : ∀ (l : List UInt8) (c : ByteArray),(splR l [] c).all wordB = true → (Lib.fieldsGo c.data.toList l).map (fun l => (⟨l.toArray⟩ : ByteArray)) = splR l [] c
 | [],c,h => by
  unfold splR at h ⊢
  simp only [List.nil_append,List.all_cons,List.all_nil,Bool.and_true] at h ⊢
  have hw := word_size h
  unfold Lib.fieldsGo
  have hne : c.data.toList.isEmpty = false := by
   cases hc : c.data.toList with
   | nil => have : c.size = 0 := by rw [show c.size = c.data.toList.length by simp,hc];rfl
            omega
   | cons a r => rfl
  rw [hne]
  simp
 | b :: r,c,h => by
  unfold splR at h ⊢
  by_cases hb : b.toNat = 32
  ·rw [if_pos hb] at h ⊢
   rw [splR_acc] at h ⊢
   simp only [List.nil_append,List.cons_append,List.all_cons,Bool.and_eq_true] at h ⊢
   have hw := word_size h.1
   have ih := fieldsGo_spl r emp h.2
   unfold Lib.fieldsGo
   have hne : c.data.toList.isEmpty = false := by
    cases hc : c.data.toList with
    | nil => have : c.size = 0 := by rw [show c.size = c.data.toList.length by simp,hc];rfl
             omega
    | cons a r => rfl
   rw [if_pos (isSp32 hb),hne]
   have ih2 : (Lib.fieldsGo [] r).map (fun l => (⟨l.toArray⟩ : ByteArray)) = splR r [] emp := ih
   simp [ih2]
  ·rw [if_neg hb] at h ⊢
   obtain ⟨w,r',h1,suf,h2⟩ := splR_head r (addB c b)
   have hw : wordB w = true := by rw [h1] at h;exact (Bool.and_eq_true_iff.1 h).1
   have hbm : b ∈ w.data.toList := by rw [h2];show b ∈ ((c.data.toList ++ [b]).toArray).toList ++ suf;simp
   have ih := fieldsGo_spl r (addB c b) h
   unfold Lib.fieldsGo
   rw [if_neg (by rw [notSp (letter_of hw hbm)];simp)]
   rw [← ih]
   show _ = (Lib.fieldsGo ((c.data.toList ++ [b]).toArray).toList r).map _
   simp
def sideL (s : ByteArray) : Line := if s = emp then [] else splB s
theorem fld_side {s : ByteArray} (h : sideB s = true) : fldB s = sideL s := by
 unfold sideB at h
 unfold sideL
 by_cases h0 : s = emp
 ·rw [if_pos h0,h0];rfl
 ·rw [if_neg h0]
  rw [decide_eq_false h0,Bool.false_or,Bool.and_eq_true] at h
  unfold fldB splB Lib.fields
  exact fieldsGo_spl s.data.toList emp h.2
theorem side_ascii : ∀ (l : List UInt8) (c : ByteArray),(splR l [] c).all wordB = true → asciiB l = true
 | [],_,_ => rfl
 | b :: r,c,h => by
  unfold splR at h
  unfold asciiB
  rw [Bool.and_eq_true]
  by_cases hb : b.toNat = 32
  ·rw [if_pos hb,splR_acc] at h
   simp only [List.nil_append,List.cons_append,List.all_cons,Bool.and_eq_true] at h
   exact ⟨by rw [Nat.blt_eq];omega,side_ascii r emp h.2⟩
  ·rw [if_neg hb] at h
   obtain ⟨w,r',h1,suf,h2⟩ := splR_head r (addB c b)
   have hw : wordB w = true := by rw [h1] at h;exact (Bool.and_eq_true_iff.1 h).1
   have hbm : b ∈ w.data.toList := by rw [h2];show b ∈ ((c.data.toList ++ [b]).toArray).toList ++ suf;simp
   have := letter_of hw hbm
   exact ⟨by rw [Nat.blt_eq];omega,side_ascii r (addB c b) h⟩
theorem fields_side {s : ByteArray} (h : sideB s = true) : fieldsA [.v (.string s)] = some (.vs 1 (strs (sideL s)) (some (sideL s).length)) := by
 have h1 : asciiB s.data.toList = true ∧ s.size < 1000 := by
  unfold sideB at h
  by_cases h0 : s = emp
  ·rw [h0];exact ⟨rfl,by decide⟩
  ·rw [decide_eq_false h0,Bool.false_or,Bool.and_eq_true,decide_eq_true_iff] at h
   exact ⟨side_ascii _ emp h.2,by omega⟩
 show (if (s.data.size.blt 100000 && asciiB s.data.toList) = true then some (AV.vs 1 ((Lib.fields s.data.toList).map strAV) (some (Lib.fields s.data.toList).length)) else none) = _
 rw [if_pos]
 ·have h3 := fld_av s
  rw [fld_side h] at h3
  have h4 : (Lib.fields s.data.toList).length = (sideL s).length := by rw [← fld_side h];unfold fldB;rw [List.length_map]
  rw [h3,h4]
 ·rw [Bool.and_eq_true,Nat.blt_eq]
  exact ⟨by have : s.data.size = s.size := rfl
            omega,h1.1⟩
theorem call107 {e : Exts} (hf : e.x 107 = some fieldsA) {s : ByteArray} (h : sideB s = true) (me : FuncId) (d : Option Tmp) (H : Heap) : callA (Cx e) (lim (Cx e)) me 107 d [.v (.string s)] H = some (.vs 1 (strs (sideL s)) (some (sideL s).length),H) := by
 unfold callA standA
 rw [show (Cx e).ext 107 = some fieldsA from hf]
 simp only [fields_side h]
end Go.Ev
namespace Go.Ev
open Go.Proofs
attribute [local irreducible] Wp WpS
abbrev Sl := (Int × Int × Int) × ByteArray × ByteArray × ByteArray
def slA (x : Sl) : AV := .agg [.v (.int .i64 x.1.1),.v (.int .i64 x.1.2.1),.v (.int .i64 x.1.2.2),.v (.string x.2.1),.v (.string x.2.2.1),.v (.string x.2.2.2)]
def okS (x : Sl) : Bool := wordB x.2.1 && (sideB x.2.2.1 && sideB x.2.2.2)
def smS (x : Sl) : Prop := x.2.1.size < 1000 ∧ x.2.2.1.size < 1000 ∧ x.2.2.2.size < 1000
theorem ansS64 {e : Exts} (he : Quiet e) (hx : e.x 197 = some idxStr) (L : List Sl) (hL : ∀ x ∈ L,smS x) (hn : L.length < 100000) (y : AV) (hy : SlOf 6 (L.map slA) y) : Ans (Cx e) 64 [y] (.v (.int .i64 (if L.all okS then 0 else 31))) := by
 unfold Ans
 rw [fn_step (fn_64 e) (show Tryz.f64.body = some _ from rfl)]
 have hly := hy.len
 rw [List.length_map] at hly
 simp -implicitDefEqProofs only [Tryz.f64,go_sem,↓reduceIte,Int.reduceEq,Int.reduceLT,Int.reduceLE,List.reduceReplicate,intA,setT_nil,setT_cons,hy.cells,hy.flat,hy.bound,hly,↓boolP_bool,↓iteB_true,↓iteB_false]
 refine Lp_ruleQ (P := fun μ a H => ∃ j,j + μ = L.length ∧ L.all okS = (L.drop j).all okS ∧ a = ⟨28,[(0,y),(2,.v (.int .i64 0)),(5,y),(6,.v (.int .i64 L.length)),(7,.v (.int .i64 j))],[]⟩ ∧ H = ⟨[],0⟩) ?_ L.length _ _ ⟨0,by omega,rfl,rfl,rfl⟩
 rintro Q KK hQ hKK μ _ _ ⟨j,hj,hall,rfl,rfl⟩
 cases μ with
 | zero =>
  obtain rfl : j = L.length := by omega
  rw [List.drop_length] at hall
  have hlt : ¬ (L.length : Int) < (L.length : Int) := by omega
  simp -implicitDefEqProofs only [go_sem,↓reduceIte,Int.reduceEq,Int.reduceLT,Int.reduceLE,List.reduceReplicate,intA,setT_nil,setT_cons,hlt,↓boolP_bool,↓iteB_true,↓iteB_false]
  refine hKK _ _ _ ?_
  simp -implicitDefEqProofs only [go_sem,↓reduceIte,Int.reduceEq,Int.reduceLT,Int.reduceLE,List.reduceReplicate,intA,setT_nil,setT_cons,hall,List.all_nil,if_true,↓boolP_bool,↓iteB_true,↓iteB_false]
 | succ μ =>
  obtain ⟨z,hz⟩ := at_lt L j (by omega)
  obtain ⟨hz1,hz2,hz3⟩ := hL z (List.mem_of_getElem? hz)
  have hlt : (j : Int) < ((L.length : Nat) : Int) := by omega
  have hw := wrap_succ j (by omega)
  have hix := hy.idx (show (L.map slA)[j]? = some (slA z) by rw [List.getElem?_map,hz];rfl)
  have c98 := fun me d H => (ansS98A he z.2.1 hz1).call (me := me) (d := d) (ext_98 he) (pure_98 _ _ _) rfl H
  have c99 := fun me d H => (ansS99 he hx z.2.2.1 hz2).call (me := me) (d := d) (ext_99 he) (pure_99 _ _ _) rfl H
  have c99b := fun me d H => (ansS99 he hx z.2.2.2 hz3).call (me := me) (d := d) (ext_99 he) (pure_99 _ _ _) rfl H
  have hdr : L.drop j = z :: L.drop (j + 1) := by
   have hjl := (List.getElem?_eq_some_iff.1 hz).1
   rw [List.drop_eq_getElem_cons hjl,(List.getElem?_eq_some_iff.1 hz).2]
  rw [hdr,List.all_cons,show okS z = (wordB z.2.1 && (sideB z.2.2.1 && sideB z.2.2.2)) from rfl] at hall
  obtain ⟨⟨p1,p2,p3⟩,s1,s2,s3⟩ := z
  unfold slA at hix
  simp only at hix c98 c99 c99b
  simp only at hall
  cases h1 : wordB s1 with
  | false =>
   rw [h1,Bool.false_and,Bool.false_and] at hall
   rw [h1] at c98
   simp -implicitDefEqProofs only [go_sem,↓reduceIte,Int.reduceEq,Int.reduceLT,Int.reduceLE,List.reduceReplicate,intA,setT_nil,setT_cons,hlt,hix,c98,Bool.not_false,↓boolP_bool,↓iteB_true,↓iteB_false]
   refine hKK _ _ _ ?_
   simp -implicitDefEqProofs only [go_sem,↓reduceIte,Int.reduceEq,Int.reduceLT,Int.reduceLE,List.reduceReplicate,intA,setT_nil,setT_cons,hall,Bool.false_eq_true,if_false,↓boolP_bool,↓iteB_true,↓iteB_false]
  | true =>
   rw [h1,Bool.true_and] at hall
   rw [h1] at c98
   cases h2 : sideB s2 with
   | false =>
    rw [h2,Bool.false_and,Bool.false_and] at hall
    rw [h2] at c99
    simp -implicitDefEqProofs only [go_sem,↓reduceIte,Int.reduceEq,Int.reduceLT,Int.reduceLE,List.reduceReplicate,intA,setT_nil,setT_cons,hlt,hix,c98,c99,Bool.not_false,Bool.not_true,↓boolP_bool,↓iteB_true,↓iteB_false]
    refine hKK _ _ _ ?_
    simp -implicitDefEqProofs only [go_sem,↓reduceIte,Int.reduceEq,Int.reduceLT,Int.reduceLE,List.reduceReplicate,intA,setT_nil,setT_cons,hall,Bool.false_eq_true,if_false,↓boolP_bool,↓iteB_true,↓iteB_false]
   | true =>
    rw [h2,Bool.true_and] at hall
    rw [h2] at c99
    cases h3 : sideB s3 with
    | false =>
     rw [h3,Bool.false_and] at hall
     rw [h3] at c99b
     simp -implicitDefEqProofs only [go_sem,↓reduceIte,Int.reduceEq,Int.reduceLT,Int.reduceLE,List.reduceReplicate,intA,setT_nil,setT_cons,hlt,hix,c98,c99,c99b,Bool.not_false,Bool.not_true,↓boolP_bool,↓iteB_true,↓iteB_false]
     refine hKK _ _ _ ?_
     simp -implicitDefEqProofs only [go_sem,↓reduceIte,Int.reduceEq,Int.reduceLT,Int.reduceLE,List.reduceReplicate,intA,setT_nil,setT_cons,hall,Bool.false_eq_true,if_false,↓boolP_bool,↓iteB_true,↓iteB_false]
    | true =>
     rw [h3,Bool.true_and] at hall
     rw [h3] at c99b
     simp -implicitDefEqProofs only [go_sem,↓reduceIte,Int.reduceEq,Int.reduceLT,Int.reduceLE,List.reduceReplicate,intA,setT_nil,setT_cons,hlt,hix,hw,c98,c99,c99b,Bool.not_false,Bool.not_true,↓boolP_bool,↓iteB_true,↓iteB_false]
     refine Again.mk' μ (by omega) (hQ _ _ _ ⟨j + 1,by omega,hall,rfl, ?_⟩)
     unfold Heap.trim
     rw [if_pos]
     ·rfl
     ·simp only [boundL_cons,hy.bound];rfl
end Go.Ev
namespace Go.Ev
open Go.Proofs
attribute [local irreducible] Wp WpS
abbrev Zs := List (Plc × ByteArray)
def hitB (Z : Zs) (W : Line) (b : Nat) : Bool := decide (((Z.map (·.2)).take (b + W.length)).drop b = W)
def fromT (Z : Zs) (W : Line) (nb j : Nat) : List AV := ((List.range j).filter (hitB Z W)).map fun b => plN (Z.getD (b + nb) ((0,0,0),emp)).1
theorem fromT_succ (Z : Zs) (W : Line) (nb j : Nat) : fromT Z W nb (j + 1) = fromT Z W nb j ++ (if hitB Z W j = true then [plN (Z.getD (j + nb) ((0,0,0),emp)).1] else []) := by
 unfold fromT
 rw [List.range_succ,List.filter_append,List.map_append]
 cases h : hitB Z W j with
 | true => simp [List.filter,h]
 | false => simp [List.filter,h]
theorem fromT_it (Z : Zs) (W : Line) (nb j : Nat) : ∀ x ∈ fromT Z W nb j,ItG 3 x := by
 intro x hx
 obtain ⟨b, -,rfl⟩ := List.mem_map.1 hx
 exact ⟨_,rfl,rfl⟩
theorem fromT_len (Z : Zs) (W : Line) (nb j : Nat) : (fromT Z W nb j).length ≤ j := by
 unfold fromT
 rw [List.length_map]
 exact Nat.le_trans (List.length_filter_le _ _) (by rw [List.length_range];exact Nat.le_refl _)
theorem callI107 {e : Exts} (hf : e.x 107 = some fieldsA) {s : ByteArray} (h : sideB s = true) (me : FuncId) (d : Option Tmp) : callI (Cx e) me 107 d [.v (.string s)] = some (.vs 1 (strs (sideL s)) (some (sideL s).length)) :=
 ext_callI (show (Cx e).ext 107 = some fieldsA from hf) (fields_side h)
def h70 (r s : List AV) : List AV → Heap
 | [] => ⟨[some (.cells 0 0 121 1 false r),some (.cells 0 0 30 1 false s)],0⟩
 | x :: L => ⟨[some (.cells 0 0 121 1 false r),some (.cells 0 0 30 1 false s),some (.cells L.length 0 28 3 true ((x :: L).flatMap AV.cells))],0⟩
theorem splR_len : ∀ (l : List UInt8) (c : ByteArray),(splR l [] c).length ≤ l.length + 1
 | [],c => by unfold splR;simp
 | b :: r,c => by
  unfold splR
  by_cases hb : b.toNat = 32
  ·rw [if_pos hb,splR_acc]
   have := splR_len r emp
   simp;omega
  ·rw [if_neg hb]
   have := splR_len r (addB c b)
   simp;omega
theorem sideL_len {s : ByteArray} (h : sideB s = true) : (sideL s).length ≤ 81 := by
 unfold sideB at h
 unfold sideL
 by_cases h0 : s = emp
 ·rw [if_pos h0];exact Nat.zero_le _
 ·rw [if_neg h0]
  rw [decide_eq_false h0,Bool.false_or,Bool.and_eq_true,decide_eq_true_iff] at h
  have := splR_len s.data.toList emp
  unfold splB
  have e : s.data.toList.length = s.size := by simp
  omega
theorem ansS70 {e : Exts} (he : Quiet e) (hf : e.x 107 = some fieldsA) (w sd : Int) (Z : Zs) (hZ : Z.length < 10000) (x : Sl) (h1 : sideB x.2.2.1 = true) (h2 : sideB x.2.2.2 = true) : Ans (Cx e) 70 [.agg [intA w,.v (.int .u8 sd),.vs 1 (wds Z) none,.vs 3 (pls Z) none],slA x] (if fromT Z (sideL x.2.2.1 ++ (x.2.1 :: sideL x.2.2.2)) (sideL x.2.2.1).length (Z.length + 1 - (sideL x.2.2.1 ++ (x.2.1 :: sideL x.2.2.2)).length) = [] then .v (.slice none 0 0) else .vs 3 (fromT Z (sideL x.2.2.1 ++ (x.2.1 :: sideL x.2.2.2)) (sideL x.2.2.1).length (Z.length + 1 - (sideL x.2.2.1 ++ (x.2.1 :: sideL x.2.2.2)).length)) none) := by
 obtain ⟨⟨p1,p2,p3⟩,u,bf,af⟩ := x
 simp only at h1 h2 ⊢
 have lB := sideL_len h1
 have lA := sideL_len h2
 have i1 := fun me d H => call107 hf h1 me d H
 have i2 := fun me d => callI107 hf h2 me d
 generalize sideL bf = B at *
 generalize sideL af = A at *
 have hxs : SlOf 1 [AV.vs 1 (strs B) (some B.length),.vs 1 [.v (.string u)] (some 1),.vs 1 (strs A) (some A.length)] (.vs 1 [.vs 1 (strs B) (some B.length),.vs 1 [.v (.string u)] (some 1),.vs 1 (strs A) (some A.length)] (some 3)) := Or.inr ⟨_,rfl⟩
 obtain ⟨v,hv,hc⟩ := ansS108 he [B,[u],A] (by show 3 < 1000;decide) (by show B.length + (1 + (A.length + 0)) < _;omega) _ rfl (fun j p hp => by
  match j,hp with
  | 0,hp => cases hp;exact ⟨_,rfl,Or.inr ⟨_,rfl⟩⟩
  | 1,hp => cases hp;exact ⟨_,rfl,Or.inr ⟨_,rfl⟩⟩
  | 2,hp => cases hp;exact ⟨_,rfl,Or.inr ⟨_,rfl⟩⟩) _ hxs
 have hW : [B,[u],A].flatten = B ++ (u :: A) := by simp
 rw [hW] at hv
 have i3 := fun me d => hc.callI (me := me) (d := d) (ext_108 he) (pure_108 _ _ _) rfl
 obtain ⟨W,hWd⟩ : ∃ W,B ++ (u :: A) = W := ⟨_,rfl⟩
 have hWl : W.length = B.length + (A.length + 1) := by rw [← hWd];simp
 rw [hWd] at hv ⊢
 have hlv := hv.len
 rw [strs_len] at hlv
 have hlw : slLen (.vs 1 (wds Z) none) = some (.v (.int .i64 (Z.length : Nat))) := by show some (AV.v (.int .i64 ((wds Z).length : Nat))) = _;rw [wds_len]
 have hlB : slLen (.vs 1 (strs B) (some B.length)) = some (.v (.int .i64 (B.length : Nat))) := by show some (AV.v (.int .i64 ((strs B).length : Nat))) = _;rw [strs_len]
 obtain ⟨N,hN⟩ : ∃ N,Z.length + 1 - W.length = N := ⟨_,rfl⟩
 obtain ⟨M,hM⟩ : ∃ M : Int,(Z.length : Int) - (W.length : Int) + 1 = M := ⟨_,rfl⟩
 have w1 : IntKind.i64.wrap ((Z.length : Int) - (W.length : Int)) = (Z.length : Int) - (W.length : Int) := wrap_in _ (by omega) (by omega)
 have w2 : IntKind.i64.wrap ((Z.length : Int) - (W.length : Int) + 1) = M := by rw [wrap_in _ (by omega) (by omega)];exact hM
 rw [hN]
 unfold Ans
 rw [fn_step (fn_70 e) (show Tryz.f70.body = some _ from rfl)]
 simp -implicitDefEqProofs only [Tryz.f70,go_sem,↓reduceIte,Int.reduceEq,Int.reduceLT,Int.reduceLE,List.reduceReplicate,intA,setT_nil,setT_cons,slA,i1,hlB,hlw,hlv,↓boolP_bool,↓iteB_true,↓iteB_false]
 refine wp_drawX [([],[],false),([],[],false),([],[],false),([],[],false),([],[],false),([2,3],[],false),([2,3],[],false),([],[3],false),([],[3,7],false),([],[],false)] (by kernel_rfl) (by kernel_rfl) ?_
 simp -implicitDefEqProofs only [go_sem,↓reduceIte,Int.reduceEq,Int.reduceLT,Int.reduceLE,List.reduceReplicate,intA,setT_nil,setT_cons,i2,i3,hlB,hlw,hlv,w1,w2,Nat.reduceBEq,Bool.not_false,hv.cells,hv.flat,hv.bound,↓boolP_bool,↓iteB_true,↓iteB_false]
 refine Lp_ruleQ (P := fun μ a H => ∃ j,j + μ = N ∧ a = ⟨54,[(0,.agg [.v (.int .i64 w),.v (.int .u8 sd),.vs 1 (wds Z) none,.vs 3 (pls Z) none]),(1,.agg [.v (.int .i64 p1),.v (.int .i64 p2),.v (.int .i64 p3),.v (.string u),.v (.string bf),.v (.string af)]),(2,.ptr 0 0 0),(3,.ptr 1 0 0),(4,.v (.slice none 0 0)),(5,.vs 1 (strs B) (some B.length)),(6,v),(7,sG 2 (fromT Z W B.length j)),(27,.v (.int .i64 M)),(28,intA (j : Nat))],[]⟩ ∧ H = h70 [.v (.int .i64 w),.v (.int .u8 sd),.vs 1 (wds Z) none,.vs 3 (pls Z) none] [.v (.int .i64 p1),.v (.int .i64 p2),.v (.int .i64 p3),.v (.string u),.v (.string bf),.v (.string af)] (fromT Z W B.length j)) ?_ N _ _ ⟨0,by omega,rfl,rfl⟩
 rintro Q KK hQ hKK μ _ _ ⟨j,hj,rfl,rfl⟩
 cases μ with
 | zero =>
  obtain rfl : j = N := by omega
  have hnj : ¬ (j : Int) < M := by omega
  have hits := fromT_it Z W B.length j
  generalize fromT Z W B.length j = R at *
  rcases R with _ | ⟨y,R⟩
  ·simp -implicitDefEqProofs only [h70,sG,go_sem,↓reduceIte,Int.reduceEq,Int.reduceLT,Int.reduceLE,List.reduceReplicate,intA,setT_nil,setT_cons,hnj,↓boolP_bool,↓iteB_true,↓iteB_false]
   refine hKK _ _ _ ?_
   simp -implicitDefEqProofs only [go_sem,↓reduceIte,Int.reduceEq,Int.reduceLT,Int.reduceLE,List.reduceReplicate,intA,setT_nil,setT_cons,↓boolP_bool,↓iteB_true,↓iteB_false]
  ·simp -implicitDefEqProofs only [h70,sG,go_sem,↓reduceIte,Int.reduceEq,Int.reduceLT,Int.reduceLE,List.reduceReplicate,intA,setT_nil,setT_cons,hnj,↓boolP_bool,↓iteB_true,↓iteB_false]
   refine hKK _ _ _ ?_
   simp -implicitDefEqProofs only [go_sem,↓reduceIte,Int.reduceEq,Int.reduceLT,Int.reduceLE,List.reduceReplicate,intA,setT_nil,setT_cons,↓boolP_bool,↓iteB_true,↓iteB_false]
   exact frzG (e := 28) rfl (by omega) (by omega) rfl hits (by unfold Heap.row Heap.get;simp) _
 | succ μ =>
  have hlt : (j : Int) < M := by omega
  have hw := wrap_succ j (by omega)
  have w3 : IntKind.i64.wrap ((j : Int) + (W.length : Int)) = ((j + W.length : Nat) : Int) := by rw [wrap_in _ (by omega) (by omega)];omega
  have w4 : IntKind.i64.wrap ((j : Int) + (B.length : Int)) = ((j + B.length : Nat) : Int) := by rw [wrap_in _ (by omega) (by omega)];omega
  obtain ⟨cap,hsl⟩ := slice_midA (P := Tryz.prog) (t := 87) (et := 9) (sz := 1) und_87 und22s (wds Z) none j (j + W.length) (by omega) (by rw [wds_len];omega)
  have hsm : ((wds Z).take (j + W.length)).drop j = strs (((Z.map (·.2)).take (j + W.length)).drop j) := strs_mid _ _ _
  rw [hsm] at hsl
  have hml : (((Z.map (·.2)).take (j + W.length)).drop j).length = W.length := by rw [List.length_drop,List.length_take,List.length_map];omega
  have c109 := fun me d H => call109 he (((Z.map (·.2)).take (j + W.length)).drop j) W (by omega) (.vs 1 (strs (((Z.map (·.2)).take (j + W.length)).drop j)) cap) v (Or.inr ⟨_,rfl⟩) hv me d H
  have hsc := fromT_succ Z W B.length j
  have hits := fromT_it Z W B.length j
  have hRl := fromT_len Z W B.length j
  obtain ⟨z,hz⟩ := at_lt Z (j + B.length) (by omega)
  have hzg : Z.getD (j + B.length) ((0,0,0),emp) = z := by rw [List.getD_eq_getElem?_getD,hz];rfl
  have hix := (pls_sl Z).idx (pls_get hz)
  rw [hzg] at hsc
  change ∀ me d H,callA (Cx e) (lim (Cx e)) me 109 d _ H = some (.v (.bool (hitB Z W j)),H) at c109
  generalize strs (((Z.map (·.2)).take (j + W.length)).drop j) = ws at *
  generalize fromT Z W B.length j = R at *
  cases hh : hitB Z W j with
  | false =>
   rw [hh] at c109 hsc
   simp only [Bool.false_eq_true,if_false,List.append_nil] at hsc
   rcases R with _ | ⟨y,R⟩
   ·simp -implicitDefEqProofs only [h70,sG,go_sem,↓reduceIte,Int.reduceEq,Int.reduceLT,Int.reduceLE,List.reduceReplicate,intA,setT_nil,setT_cons,hlt,hlv,w3,hsl,c109,hw,↓boolP_bool,↓iteB_true,↓iteB_false]
    exact Again.mk' μ (by omega) (hQ _ _ _ ⟨j + 1,by omega,by rw [hsc];rfl,by rw [hsc];rfl⟩)
   ·simp -implicitDefEqProofs only [h70,sG,go_sem,↓reduceIte,Int.reduceEq,Int.reduceLT,Int.reduceLE,List.reduceReplicate,intA,setT_nil,setT_cons,hlt,hlv,w3,hsl,c109,hw,↓boolP_bool,↓iteB_true,↓iteB_false]
    exact Again.mk' μ (by omega) (hQ _ _ _ ⟨j + 1,by omega,by rw [hsc];rfl,by rw [hsc];rfl⟩)
  | true =>
   rw [hh] at c109 hsc
   simp only [if_true] at hsc
   have hpl : plN z.1 = .agg [.v (.int .i64 z.1.1),.v (.int .i64 z.1.2.1),.v (.int .i64 z.1.2.2)] := rfl
   rw [hpl] at hix hsc
   have hf1 : fitsA 24 1 = true := by decide
   rcases R with _ | ⟨y,R⟩
   ·simp -implicitDefEqProofs only [h70,sG,go_sem,↓reduceIte,Int.reduceEq,Int.reduceLT,Int.reduceLE,List.reduceReplicate,intA,setT_nil,setT_cons,hlt,hlv,hlB,w3,w4,hsl,c109,hix,hw,hf1,cells_g,bound_vs,List.flatMap_cons,List.flatMap_nil,List.append_nil,List.all_cons,List.all_nil,↓boolP_bool,↓iteB_true,↓iteB_false]
    rw [trim_big (fun h => absurd (boundL_le.1 h (.sl 2 0 0 1 none) (by simp)) (by show ¬ 2 + 1 ≤ 2;omega))]
    exact Again.mk' μ (by omega) (hQ _ _ _ ⟨j + 1,by omega,by rw [hsc];rfl,by rw [hsc];rfl⟩)
   ·have hRl2 : R.length + 1 ≤ j := hRl
    have hf3 : fitsA 24 (R.length + 1 + 1) = true := by unfold fitsA;exact decide_eq_true (by omega)
    have hfl := flatG hits
    have hsn : (y :: (R ++ [AV.agg [.v (.int .i64 z.1.1),.v (.int .i64 z.1.2.1),.v (.int .i64 z.1.2.2)]])).flatMap AV.cells = (y :: R).flatMap AV.cells ++ [.v (.int .i64 z.1.1),.v (.int .i64 z.1.2.1),.v (.int .i64 z.1.2.2)] := by
     rw [← List.cons_append,List.flatMap_append];rfl
    have hsc2 : fromT Z W B.length (j + 1) = y :: (R ++ [AV.agg [.v (.int .i64 z.1.1),.v (.int .i64 z.1.2.1),.v (.int .i64 z.1.2.2)]]) := hsc
    have ha := fun B0 B1 slot => appG2 B0 B1 28 3 24 R.length ((y :: R).flatMap AV.cells) (by omega) (by rw [hfl];rfl) hf3 [.v (.int .i64 z.1.1),.v (.int .i64 z.1.2.1),.v (.int .i64 z.1.2.2)] rfl slot
    simp -implicitDefEqProofs only [h70,sG,go_sem,↓reduceIte,Int.reduceEq,Int.reduceLT,Int.reduceLE,List.reduceReplicate,intA,setT_nil,setT_cons,hlt,hw]
    generalize (y :: R).flatMap AV.cells = cs at *
    simp -implicitDefEqProofs only [go_sem,↓reduceIte,Int.reduceEq,Int.reduceLT,Int.reduceLE,List.reduceReplicate,intA,setT_nil,setT_cons,hlt,hlv,hlB,w3,w4,hsl,c109,hix,hw,ha,cells_g,bound_vs,boundL_cons,bound_v,boundL_nil,List.flatMap_cons,List.flatMap_nil,List.append_nil,List.all_cons,List.all_nil,↓boolP_bool,↓iteB_true,↓iteB_false]
    refine Again.mk' μ (by omega) (hQ _ _ _ ⟨j + 1,by omega, ?_, ?_⟩)
    ·rw [hsc2];simp only [sG,List.length_append,List.length_cons,List.length_nil];rfl
    ·rw [hsc2];simp only [h70,hsn,List.length_append,List.length_cons,List.length_nil]
end Go.Ev
namespace Go.Ev
open Go.Proofs
attribute [local irreducible] Wp WpS
theorem ansS46F {e : Exts} (he : Quiet e) (t : Txt) (ht : Fits t) (ch : AV) (xs : List AV) (hch : SlOf 2 xs ch) (hall : All2 ChapA t xs) (hT : textB t = true) (a b c : Int) (hp : placeB' t a b c = false) : Ans (Cx e) 46 [.agg [ch],.agg [intA a,intA b,intA c]] (.tup [.v (.string emp),intA 12]) := by
 have h40 := call40 he t ht ch ⟨xs,hch,hall⟩
 rw [hT] at h40
 have h44 := call44 he t ht ch xs hch hall a b c
 rw [hp] at h44
 unfold Ans
 rw [fn_step (fn_46 e) (show Tryz.f46.body = some _ from rfl)]
 simp -implicitDefEqProofs only [Tryz.f46,go_sem,↓reduceIte,Int.reduceEq,Int.reduceLT,Int.reduceLE,List.reduceReplicate,intA,setT_nil,setT_cons,hch.cells,hch.flat,hch.bound,h40,h44,if_true,Bool.not_false,↓boolP_bool,↓iteB_true,↓iteB_false]
 rfl
def Pl3 (x : AV) : Prop := ∃ a b c : Int,x = .agg [.v (.int .i64 a),.v (.int .i64 b),.v (.int .i64 c)]
theorem Pl3.it {x : AV} (h : Pl3 x) : ItG 3 x := by obtain ⟨a,b,c,rfl⟩ := h;exact ⟨_,rfl,rfl⟩
theorem pl3_flat : ∀ {L : List AV},(∀ x ∈ L,Pl3 x) → (L.flatMap AV.cells).all AV.flat = true ∧ boundL (L.flatMap AV.cells) = 0
 | [],_ => ⟨rfl,rfl⟩
 | x :: r,h => by
  obtain ⟨a,b,c,rfl⟩ := h x (List.mem_cons_self ..)
  obtain ⟨h1,h2⟩ := pl3_flat (L := r) fun y hy => h y (List.mem_cons_of_mem _ hy)
  rw [List.flatMap_cons]
  refine ⟨?_, ?_⟩
  ·rw [List.all_append,h1];rfl
  ·show boundL (AV.v _ :: .v _ :: .v _ :: r.flatMap AV.cells) = 0
   rw [boundL_cons,boundL_cons,boundL_cons,h2];rfl
def whole (x : Sl) : Line := sideL x.2.2.1 ++ (x.2.1 :: sideL x.2.2.2)
def runF (x : Sl) (a : Nat) (cp : Chap) : List AV := fromT (wordsC a 0 cp.2) (whole x) (sideL x.2.2.1).length ((wordsC a 0 cp.2).length + 1 - (whole x).length)
def whT (x : Sl) : Nat → Txt → List AV
 | _,[] => []
 | a,cp :: r => runF x a cp ++ whT x (a + 1) r
theorem whT_take (x : Sl) : ∀ (t : Txt) (a j : Nat) (cp : Chap),t[j]? = some cp → whT x a (t.take (j + 1)) = whT x a (t.take j) ++ runF x (a + j) cp
 | c :: r,a,0,cp,h => by simp at h;subst h;simp [whT]
 | c :: r,a,j + 1,cp,h => by
  have ih := whT_take x r (a + 1) j cp (by simpa using h)
  rw [List.take_succ_cons,List.take_succ_cons]
  show runF x a c ++ whT x (a + 1) (r.take (j + 1)) = (runF x a c ++ whT x (a + 1) (r.take j)) ++ _
  rw [ih,show a + (j + 1) = a + 1 + j by omega,List.append_assoc]
theorem runF_pl (x : Sl) (a : Nat) (cp : Chap) : ∀ y ∈ runF x a cp,Pl3 y := by
 intro y hy
 obtain ⟨b, -,rfl⟩ := List.mem_map.1 hy
 exact ⟨_,_,_,rfl⟩
theorem whT_pl (x : Sl) : ∀ (t : Txt) (a : Nat),∀ y ∈ whT x a t,Pl3 y
 | c :: r,a,y,hy => by
  rcases List.mem_append.1 hy with h | h
  ·exact runF_pl x a c y h
  ·exact whT_pl x r (a + 1) y h
theorem frzV {H : Heap} (hk : H.lock = 0) {b v n e sz : Nat} {L : List AV} (hz : 0 < sz) (hz1 : sz ≠ 1) (hL : L.length = n) (hc : ∀ x ∈ L,ItG sz x) (hr : H.row b v = some (0,e,sz,true,L.flatMap AV.cells)) (k : Nat) : freezeV H (k + 1) (.sl b v 0 n none) = some (.vs sz L none) := by
 have h1 := flatG hc
 have h4 := chunkG hz1 hc
 have h2 : 0 + n * sz ≤ (L.flatMap AV.cells).length := by rw [h1,hL];omega
 unfold freezeV
 simp only [hr]
 rw [if_neg (by omega),if_pos ⟨h2,hz⟩,if_pos trivial,List.drop_zero,List.take_of_length_le (by rw [h1,hL];omega),← hL,h4]
theorem frzV2 {H : Heap} (hk : H.lock = 0) {b v n e sz : Nat} {L : List AV} (hz : 0 < sz) (hz1 : sz ≠ 1) (hL : L.length = n) (hc : ∀ x ∈ L,ItG sz x) (hr : H.row b v = some (0,e,sz,true,L.flatMap AV.cells)) (z : Value) : freezeV H 1000000 (.tup [.sl b v 0 n none,.v z]) = some (.tup [.vs sz L none,.v z]) := by
 have h1 := frzV hk hz hz1 hL hc hr 999997
 show (freezeL H 999999 _).map AV.tup = _
 simp only [freezeL,h1]
 rfl
theorem app_first (H : Heap) (slot : Nat) {F : List AV} (h0 : 0 < F.length) (hl : F.length ≤ 100000) (hF : ∀ x ∈ F,Pl3 x) : appTo 28 3 24 H slot F.length (F.flatMap AV.cells) (.v (.slice none 0 0)) = some (.sl slot 0 0 F.length none,H.put slot (.cells 0 0 28 3 true (F.flatMap AV.cells))) := by
 have hf1 : fitsA 24 F.length = true := by unfold fitsA;exact decide_eq_true (by omega)
 obtain ⟨f1,f2⟩ := pl3_flat hF
 unfold appTo
 simp only []
 rw [if_neg (by omega),hf1,f2]
 rfl
theorem app_more (A B C D : Option AObj) (v slot : Nat) {L F : List AV} (h0 : 0 < F.length) (hl : L.length + F.length ≤ 100000) (hL : ∀ x ∈ L,Pl3 x) (hF : ∀ x ∈ F,Pl3 x) : appTo 28 3 24 ⟨[A,B,C,some (.cells v 0 28 3 true (L.flatMap AV.cells)),D],0⟩ slot F.length (F.flatMap AV.cells) (.sl 3 v 0 L.length none) = some (.sl 3 (v + 1) 0 (L ++ F).length none,⟨[A,B,C,some (.cells (v + 1) 0 28 3 true ((L ++ F).flatMap AV.cells)),D],0⟩) := by
 have hf1 : fitsA 24 (L.length + F.length) = true := by unfold fitsA;exact decide_eq_true (by omega)
 obtain ⟨f1,f2⟩ := pl3_flat hF
 have hfl := flatG (sz := 3) (L := L) fun x hx => (hL x hx).it
 have h := appTo_own (e := 28) (sz := 3) (b' := 24) (H := ⟨[A,B,C,some (.cells v 0 28 3 true (L.flatMap AV.cells)),D],0⟩) (slot := slot) (b := 3) (v := v) (len := L.length) (n := F.length) (new := F.flatMap AV.cells) (m := 0) (e' := 28) (cs := L.flatMap AV.cells) (by unfold Heap.row Heap.get;simp) (by omega) (Nat.zero_le _) hf1 h0 (by omega)
 rw [h,f2,List.length_append,List.flatMap_append];rfl
theorem whT_le (x : Sl) : ∀ (t : Txt) (a : Nat),(∀ c ∈ t,c.2.length ≤ 10) → (∀ c ∈ t,∀ l ∈ c.2,l.length ≤ 10) → (whT x a t).length ≤ t.length * 151
 | [],a,_,_ => Nat.zero_le _
 | c :: r,a,h1,h2 => by
  have ih := whT_le x r (a + 1) (fun c hc => h1 c (List.mem_cons_of_mem _ hc)) (fun c hc => h2 c (List.mem_cons_of_mem _ hc))
  have k1 := h1 c (List.mem_cons_self ..)
  have k2 := wordsC_small a c.2 0 (h2 c (List.mem_cons_self ..))
  have k3 := fromT_len (wordsC a 0 c.2) (whole x) (sideL x.2.2.1).length ((wordsC a 0 c.2).length + 1 - (whole x).length)
  show (runF x a c ++ whT x (a + 1) r).length ≤ _
  rw [List.length_append,List.length_cons]
  have k4 : (runF x a c).length ≤ 151 := by show (fromT _ _ _ _).length ≤ _;omega
  omega
theorem whT_len (x : Sl) {t : Txt} (hs : Small t) (j : Nat) : (whT x 0 (t.take j)).length ≤ 10000 := by
 have h := whT_le x (t.take j) 0 (fun c hc => (hs.lines c (List.mem_of_mem_take hc)).2) (fun c hc l hl => (hs.words c (List.mem_of_mem_take hc) l hl).2)
 have h2 := hs.chs
 have : (t.take j).length ≤ t.length := by rw [List.length_take];omega
 omega
def slG (L : List AV) : AV := if L = [] then .v (.slice none 0 0) else .vs 3 L none
theorem slG_of (L : List AV) : SlOf 3 L (slG L) := by
 unfold slG
 split
 ·rename_i h;rw [h];exact Or.inl ⟨rfl,rfl⟩
 ·exact Or.inr ⟨_,rfl⟩
theorem ansS21 {e : Exts} (he : Quiet e) (hi : e.x 197 = some idxStr) (hf : e.x 107 = some fieldsA) (t : Txt) (ht : Fits t) (ch : AV) (xs : List AV) (hch : SlOf 2 xs ch) (hall : All2 ChapA t xs) (hT : textB t = true) (x : Sl) (hx : smS x) (hok : okS x = true) : Ans (Cx e) 21 [.agg [ch],slA x] (.tup [slG (whT x 0 t),.v (.int .i64 0)]) := by
 have hsm := small_of hT
 have ht10 := hsm.chs
 have b0 : boundL [AV.agg [ch]] = 0 := by simp only [boundL_cons,bound_agg,hch.bound,boundL_nil];rfl
 have c68 := fun me d H => (ansS68 he t ht ch xs hch hall hT).call (me := me) (d := d) (ext_68 he) (pure_68 _ _ _) b0 H
 unfold intA at c68
 have c64 := fun me d H => (ansS64 he hi [x] (fun y hy => by rw [List.mem_singleton.1 hy];exact hx) (by show 1 < 100000;decide) (.vs 6 [slA x] (some 1)) (Or.inr ⟨_,rfl⟩)).call (me := me) (d := d) (ext_64 he) (pure_64 _ _ _) rfl H
 have hall1 : ([x].all okS) = true := by simp [hok]
 rw [hall1] at c64
 simp only [if_true] at c64
 have c69 := fun me d H => (ansS69 he t ht hT ch xs hch hall 0 0).call (me := me) (d := d) (ext_69 he) (pure_69 _ _ _) (by simp only [boundL_cons,bound_agg,hch.bound,boundL_nil];rfl) H
 unfold intA at c69
 have hrl := runsV_len 0 0 t 0
 have hlr : slLen (.vs 4 (runsV 0 0 0 t) none) = some (.v (.int .i64 (t.length : Nat))) := by show some (AV.v (.int .i64 ((runsV 0 0 0 t).length : Nat))) = _;rw [hrl]
 obtain ⟨hw1,hs1⟩ := Bool.and_eq_true_iff.1 hok
 obtain ⟨hs1,hs2⟩ := Bool.and_eq_true_iff.1 hs1
 have hsl : slA x = .agg [.v (.int .i64 x.1.1),.v (.int .i64 x.1.2.1),.v (.int .i64 x.1.2.2),.v (.string x.2.1),.v (.string x.2.2.1),.v (.string x.2.2.2)] := rfl
 unfold Ans
 rw [fn_step (fn_21 e) (show Tryz.f21.body = some _ from rfl),hsl]
 rw [hsl] at c64
 simp -implicitDefEqProofs only [Tryz.f21,go_sem,↓reduceIte,Int.reduceEq,Int.reduceLT,Int.reduceLE,List.reduceReplicate,intA,setT_nil,setT_cons,hch.cells,hch.flat,hch.bound,c68,c64,c69,hlr,↓boolP_bool,↓iteB_true,↓iteB_false]
 refine Lp_ruleQ (P := fun μ a H => ∃ j,j + μ = t.length ∧ ((whT x 0 (t.take j) = [] ∧ a = ⟨37,[(0,.agg [ch]),(1,.agg [.v (.int .i64 x.1.1),.v (.int .i64 x.1.2.1),.v (.int .i64 x.1.2.2),.v (.string x.2.1),.v (.string x.2.2.1),.v (.string x.2.2.2)]),(2,.ptr 0 0 0),(3,.ptr 1 0 0),(4,.v (.slice none 0 0)),(5,.v (.int .i64 0)),(6,.v (.int .i64 0)),(14,.v (.bool false)),(7,.v (.int .i64 0)),(20,.v (.bool false)),(8,.v (.slice none 0 0)),(24,.vs 4 (runsV 0 0 0 t) none),(25,intA t.length),(26,intA (j : Nat))],[]⟩ ∧ H = ⟨[some (.cells 0 0 24 1 false [ch]),some (.cells 0 0 30 1 false [.v (.int .i64 x.1.1),.v (.int .i64 x.1.2.1),.v (.int .i64 x.1.2.2),.v (.string x.2.1),.v (.string x.2.2.1),.v (.string x.2.2.2)])],0⟩) ∨ (∃ v g,0 < (whT x 0 (t.take j)).length ∧ a = ⟨37,[(0,.agg [ch]),(1,.agg [.v (.int .i64 x.1.1),.v (.int .i64 x.1.2.1),.v (.int .i64 x.1.2.2),.v (.string x.2.1),.v (.string x.2.2.1),.v (.string x.2.2.2)]),(2,.ptr 0 0 0),(3,.ptr 1 0 0),(4,.v (.slice none 0 0)),(5,.v (.int .i64 0)),(6,.v (.int .i64 0)),(14,.v (.bool false)),(7,.v (.int .i64 0)),(20,.v (.bool false)),(8,.sl 3 v 0 (whT x 0 (t.take j)).length none),(24,.vs 4 (runsV 0 0 0 t) none),(25,intA t.length),(26,intA (j : Nat))],[]⟩ ∧ H = ⟨[some (.cells 0 0 24 1 false [ch]),some (.cells 0 0 30 1 false [.v (.int .i64 x.1.1),.v (.int .i64 x.1.2.1),.v (.int .i64 x.1.2.2),.v (.string x.2.1),.v (.string x.2.2.1),.v (.string x.2.2.2)]),some (.cells 0 0 121 1 false g),some (.cells v 0 28 3 true ((whT x 0 (t.take j)).flatMap AV.cells))],0⟩))) ?_ t.length _ _ ⟨0,by omega,Or.inl ⟨rfl,rfl,rfl⟩⟩
 rintro Q KK hQ hKK μ _ _ ⟨j,hj,(⟨h0,rfl,rfl⟩ | ⟨v,g,h0,rfl,rfl⟩)⟩
 ·cases μ with
  | zero =>
   obtain rfl : j = t.length := by omega
   have hnj : ¬ (t.length : Int) < (t.length : Int) := by omega
   rw [List.take_length] at h0
   simp -implicitDefEqProofs only [go_sem,↓reduceIte,Int.reduceEq,Int.reduceLT,Int.reduceLE,List.reduceReplicate,intA,setT_nil,setT_cons,hsl,hnj,↓boolP_bool,↓iteB_true,↓iteB_false]
   refine hKK _ _ _ ?_
   rw [h0]
   simp -implicitDefEqProofs only [go_sem,↓reduceIte,Int.reduceEq,Int.reduceLT,Int.reduceLE,List.reduceReplicate,intA,setT_nil,setT_cons,↓boolP_bool,↓iteB_true,↓iteB_false]
   rfl
  | succ μ =>
   obtain ⟨cp,hcp⟩ := at_lt t j (by omega)
   have hlt : (j : Int) < ((t.length : Nat) : Int) := by omega
   have hw := wrap_succ j (by omega)
   have hcm := List.mem_of_getElem? hcp
   have hZl := wordsC_small j cp.2 0 fun l hl => (hsm.words cp hcm l hl).2
   have hcl2 := (hsm.lines cp hcm).2
   have hix := (show SlOf 4 (runsV 0 0 0 t) (.vs 4 (runsV 0 0 0 t) none) from Or.inr ⟨none,rfl⟩).idx (runsV_get 0 0 t 0 j cp hcp)
   rw [Nat.zero_add] at hix
   have hrv : runV 0 0 j cp = .agg [.v (.int .i64 0),.v (.int .u8 0),.vs 1 (wds (wordsC j 0 cp.2)) none,.vs 3 (pls (wordsC j 0 cp.2)) none] := rfl
   rw [hrv] at hix
   have htk := whT_take x t 0 j cp hcp
   rw [Nat.zero_add] at htk
   have a70 : Ans (Cx e) 70 [.agg [.v (.int .i64 0),.v (.int .u8 0),.vs 1 (wds (wordsC j 0 cp.2)) none,.vs 3 (pls (wordsC j 0 cp.2)) none],slA x] (slG (runF x j cp)) := ansS70 he hf 0 0 (wordsC j 0 cp.2) (by omega) x hs1 hs2
   have c70 := fun me d H => a70.call (me := me) (d := d) (ext_70 he) (pure_70 _ _ _) rfl H
   rw [hsl] at c70
   have hfp := runF_pl x j cp
   have hFl : (runF x j cp).length ≤ 1000 := by
    have := fromT_len (wordsC j 0 cp.2) (whole x) (sideL x.2.2.1).length ((wordsC j 0 cp.2).length + 1 - (whole x).length)
    show (fromT _ _ _ _).length ≤ _
    omega
   obtain ⟨f1,f2⟩ := pl3_flat hfp
   generalize runF x j cp = F at *
   rw [h0,List.nil_append] at htk
   by_cases hF : F = []
   ·have hs : slG F = .v (.slice none 0 0) := if_pos hF
    rw [hs] at c70
    simp -implicitDefEqProofs only [go_sem,↓reduceIte,Int.reduceEq,Int.reduceLT,Int.reduceLE,List.reduceReplicate,intA,setT_nil,setT_cons,hlt,hw,hix,c70,List.all_nil,↓boolP_bool,↓iteB_true,↓iteB_false]
    rw [trim_at _ _ _ _ _ (by simp only [boundL_cons,boundL_nil,bound_agg,bound_v,bound_ptr,bound_vs,hch.bound,show ∀ b v o n c,bound (.sl b v o n c) = b + 1 from fun _ _ _ _ _ => rfl];decide) rfl rfl (Nat.zero_le _)]
    exact Again.mk' μ (by omega) (hQ _ _ _ ⟨j + 1,by omega,Or.inl ⟨by rw [htk,hF],rfl,rfl⟩⟩)
   ·have hs : slG F = .vs 3 F none := if_neg hF
    rw [hs] at c70
    have hF0 : 0 < F.length := List.length_pos_iff.2 hF
    have ha := fun H slot => app_first H slot hF0 (by omega) hfp
    simp -implicitDefEqProofs only [go_sem,↓reduceIte,Int.reduceEq,Int.reduceLT,Int.reduceLE,List.reduceReplicate,intA,setT_nil,setT_cons,hlt,hw,hix,c70,ha,f1,f2,List.all_nil,↓boolP_bool,↓iteB_true,↓iteB_false]
    rw [trim_big (fun h => absurd (boundL_le.1 h (.sl 3 0 0 F.length none) (by simp)) (by show ¬ 3 + 1 ≤ 2;omega))]
    exact Again.mk' μ (by omega) (hQ _ _ _ ⟨j + 1,by omega,Or.inr ⟨0,_,by rw [htk];exact hF0,by rw [htk];rfl,by rw [htk]⟩⟩)
 ·cases μ with
  | zero =>
   obtain rfl : j = t.length := by omega
   have hnj : ¬ (t.length : Int) < (t.length : Int) := by omega
   rw [List.take_length] at h0 ⊢
   simp -implicitDefEqProofs only [go_sem,↓reduceIte,Int.reduceEq,Int.reduceLT,Int.reduceLE,List.reduceReplicate,intA,setT_nil,setT_cons,hsl,hnj,↓boolP_bool,↓iteB_true,↓iteB_false]
   refine hKK _ _ _ ?_
   simp -implicitDefEqProofs only [go_sem,↓reduceIte,Int.reduceEq,Int.reduceLT,Int.reduceLE,List.reduceReplicate,intA,setT_nil,setT_cons,↓boolP_bool,↓iteB_true,↓iteB_false]
   rw [show slG (whT x 0 t) = .vs 3 (whT x 0 t) none from if_neg (by intro h;rw [h] at h0;exact absurd h0 (by decide))]
   exact frzV2 (e := 28) rfl (by omega) (by omega) rfl (fun y hy => (whT_pl x t 0 y hy).it) (by unfold Heap.row Heap.get;simp) _
  | succ μ =>
   obtain ⟨cp,hcp⟩ := at_lt t j (by omega)
   have hlt : (j : Int) < ((t.length : Nat) : Int) := by omega
   have hw := wrap_succ j (by omega)
   have hcm := List.mem_of_getElem? hcp
   have hZl := wordsC_small j cp.2 0 fun l hl => (hsm.words cp hcm l hl).2
   have hcl2 := (hsm.lines cp hcm).2
   have hix := (show SlOf 4 (runsV 0 0 0 t) (.vs 4 (runsV 0 0 0 t) none) from Or.inr ⟨none,rfl⟩).idx (runsV_get 0 0 t 0 j cp hcp)
   rw [Nat.zero_add] at hix
   have hrv : runV 0 0 j cp = .agg [.v (.int .i64 0),.v (.int .u8 0),.vs 1 (wds (wordsC j 0 cp.2)) none,.vs 3 (pls (wordsC j 0 cp.2)) none] := rfl
   rw [hrv] at hix
   have htk := whT_take x t 0 j cp hcp
   rw [Nat.zero_add] at htk
   have a70 : Ans (Cx e) 70 [.agg [.v (.int .i64 0),.v (.int .u8 0),.vs 1 (wds (wordsC j 0 cp.2)) none,.vs 3 (pls (wordsC j 0 cp.2)) none],slA x] (slG (runF x j cp)) := ansS70 he hf 0 0 (wordsC j 0 cp.2) (by omega) x hs1 hs2
   have c70 := fun me d H => a70.call (me := me) (d := d) (ext_70 he) (pure_70 _ _ _) rfl H
   rw [hsl] at c70
   have hfp := runF_pl x j cp
   have hFl : (runF x j cp).length ≤ 1000 := by
    have := fromT_len (wordsC j 0 cp.2) (whole x) (sideL x.2.2.1).length ((wordsC j 0 cp.2).length + 1 - (whole x).length)
    show (fromT _ _ _ _).length ≤ _
    omega
   obtain ⟨f1,f2⟩ := pl3_flat hfp
   generalize runF x j cp = F at *
   have hLp := whT_pl x (t.take j) 0
   have hLb : (whT x 0 (t.take j)).length ≤ 10000 := whT_len x hsm j
   generalize whT x 0 (t.take j) = L at *
   by_cases hF : F = []
   ·have hs : slG F = .v (.slice none 0 0) := if_pos hF
    rw [hs] at c70
    have ha : ∀ H slot,appTo 28 3 24 H slot 0 [] (.sl 3 v 0 L.length none) = some (.sl 3 v 0 L.length none,H) := fun H slot => appTo_none ..
    rw [hF,List.append_nil] at htk
    simp -implicitDefEqProofs only [go_sem,↓reduceIte,Int.reduceEq,Int.reduceLT,Int.reduceLE,List.reduceReplicate,intA,setT_nil,setT_cons,hlt,hw,hix,c70,ha,List.all_nil,↓boolP_bool,↓iteB_true,↓iteB_false]
    rw [trim4]
    rotate_left
    ·exact Nat.zero_le _
    ·exact Nat.zero_le _
    ·exact Nat.zero_le _
    ·exact Nat.zero_le _
    ·simp only [boundL_cons,boundL_nil,bound_agg,bound_v,bound_ptr,bound_vs,hch.bound,show ∀ b v o n c,bound (.sl b v o n c) = b + 1 from fun _ _ _ _ _ => rfl];decide
    exact Again.mk' μ (by omega) (hQ _ _ _ ⟨j + 1,by omega,Or.inr ⟨v,_,by rw [htk];exact h0,by rw [htk];rfl,by rw [htk]⟩⟩)
   ·have hs : slG F = .vs 3 F none := if_neg hF
    rw [hs] at c70
    have hF0 : 0 < F.length := List.length_pos_iff.2 hF
    have hLl : L.length ≤ 10000 := hLb
    have ha := fun A B C D slot => app_more A B C D v slot hF0 (by omega) hLp hfp
    simp -implicitDefEqProofs only [go_sem,↓reduceIte,Int.reduceEq,Int.reduceLT,Int.reduceLE,List.reduceReplicate,intA,setT_nil,setT_cons,hlt,hw,hix,c70,ha,f1,f2,List.all_nil,↓boolP_bool,↓iteB_true,↓iteB_false]
    rw [trim4]
    rotate_left
    ·exact Nat.zero_le _
    ·exact Nat.zero_le _
    ·exact Nat.zero_le _
    ·exact Nat.zero_le _
    ·simp only [boundL_cons,boundL_nil,bound_agg,bound_v,bound_ptr,bound_vs,hch.bound,show ∀ b v o n c,bound (.sl b v o n c) = b + 1 from fun _ _ _ _ _ => rfl];decide
    exact Again.mk' μ (by omega) (hQ _ _ _ ⟨j + 1,by omega,Or.inr ⟨v + 1,_,by rw [htk,List.length_append];omega,by rw [htk];rfl,by rw [htk]⟩⟩)
end Go.Ev
namespace Go.Ev
open Go.Proofs
attribute [local irreducible] Wp WpS
end Go.Ev
namespace Go.Ev
open Go.Proofs
attribute [local irreducible] Wp WpS
theorem ansS72e {e : Exts} : Ans (Cx e) 72 [.v (.string emp)] (.tup [.v (.slice none 0 0),.v (.bool true)]) := by
 have d1 : decide (emp = (⟨#[]⟩ : ByteArray)) = true := decide_eq_true rfl
 unfold Ans
 rw [fn_step (fn_72 e) (show Tryz.f72.body = some _ from rfl)]
 simp -implicitDefEqProofs only [Tryz.f72,go_sem,↓reduceIte,Int.reduceEq,Int.reduceLT,Int.reduceLE,List.reduceReplicate,intA,setT_nil,setT_cons,bin_seq,d1,↓boolP_bool,↓iteB_true,↓iteB_false]
 rfl
end Go.Ev
namespace Go.Ev
open Go.Proofs
attribute [local irreducible] Wp WpS
theorem ansS72G {e : Exts} (he : Quiet e) (s : ByteArray) (h0 : s ≠ emp) (h80 : s.size ≤ 80) (R : AV) (hT : (splB s).all wordB = true → R = .tup [.vs 1 (strs (splB s)) none,.v (.bool true)]) (hF : (splB s).all wordB = false → R = .tup [.v (.slice none 0 0),.v (.bool false)]) : Ans (Cx e) 72 [.v (.string s)] R := by
 have hsm : ∀ x ∈ splB s,x.size < 1000 := splB_small s.size s (Nat.le_refl _) (by omega)
 have hsz : s.data.toList.length = s.size := by simp
 have d1 : decide (s = (⟨#[]⟩ : ByteArray)) = false := decide_eq_false h0
 have d2 : ¬ (80 : Int) < (s.size : Int) := by omega
 unfold Ans
 rw [fn_step (fn_72 e) (show Tryz.f72.body = some _ from rfl)]
 simp -implicitDefEqProofs only [Tryz.f72,go_sem,↓reduceIte,Int.reduceEq,Int.reduceLT,Int.reduceLE,List.reduceReplicate,intA,setT_nil,setT_cons,bin_seq,d1,d2,↓boolP_bool,↓iteB_true,↓iteB_false]
 refine Lp_ruleQ (P := fun μ a H => ∃ j L c c0,j + μ = s.size ∧ L.length ≤ j ∧ c.size ≤ j ∧ splR (s.data.toList.drop j) L c = splB s ∧ a = ⟨52,[(0,.v (.string s)),(2,.v (.slice none 0 0)),(3,.v (.bool false)),(8,.v (.bool false)),(11,.v (.bool false)),(4,o72 L),(5,intA j)],[]⟩ ∧ H = h72 c0 c L) ?_ s.size _ _ ⟨0,[],emp,emp,by omega,by simp,by decide,rfl,rfl,rfl⟩
 ·rintro Q KK hQ hKK μ _ _ ⟨j,L,c,c0,hj,hLj,hcj,hspl,rfl,rfl⟩
  cases μ with
  | zero =>
   obtain rfl : j = s.size := by omega
   rw [List.drop_of_length_le (by omega),splR] at hspl
   have hnj : ¬ ((s.size : Nat) : Int) < ((s.size : Nat) : Int) := by omega
   obtain ⟨bb,vv,cap,g,ho,hrow⟩ : ∃ bb vv cap g,o72 L = .sl bb vv 0 (L ++ [c]).length cap ∧ (h72 c0 c L).row bb vv = some (0,9,1,g,strs (L ++ [c])) := by
    rcases L with _ | ⟨x,L⟩
    ·exact ⟨0,0,some 1,false,rfl,rfl⟩
    ·refine ⟨2,L.length,none,true, ?_, ?_⟩
     ·simp only [o72,List.length_append,List.length_cons,List.length_nil]
     ·rw [strs_snoc];unfold h72 Heap.row Heap.get;simp
   have hlk : (h72 c0 c L).lock = 0 := by cases L <;> rfl
   rw [ho]
   generalize h72 c0 c L = X at *
   rw [hspl] at hrow ⊢
   generalize splB s = W at *
   obtain ⟨N,hN⟩ : ∃ N,X.size = N := ⟨_,rfl⟩
   have hWl : W.length < 1000 := by rw [← hspl,List.length_append,List.length_cons,List.length_nil];omega
   have hln : slLen (.sl bb vv 0 W.length cap) = some (.v (.int .i64 W.length)) := rfl
   simp -implicitDefEqProofs only [go_sem,↓reduceIte,Int.reduceEq,Int.reduceLT,Int.reduceLE,List.reduceReplicate,intA,setT_nil,setT_cons,hnj,↓boolP_bool,↓iteB_true,↓iteB_false]
   refine hKK _ _ _ ?_
   simp -implicitDefEqProofs only [go_sem,↓reduceIte,Int.reduceEq,Int.reduceLT,Int.reduceLE,List.reduceReplicate,intA,setT_nil,setT_cons,↓boolP_bool,↓iteB_true,↓iteB_false]
   have hkc : X.lock ≤ N := by omega
   refine Lp_ruleQ (P := fun μ a H => ∃ i,i + μ = W.length ∧ W.all wordB = (W.drop i).all wordB ∧ a = ⟨52,[(0,.v (.string s)),(2,.v (.slice none 0 0)),(3,.v (.bool false)),(8,.v (.bool false)),(11,.v (.bool false)),(4,.sl bb vv 0 W.length cap),(5,intA s.size),(6,intA i)],[]⟩ ∧ X = H) ?_ W.length _ _ ⟨0,by omega,rfl,rfl,rfl⟩
   rintro Q2 K2 hQ2 hK2 μ2 _ _ ⟨i,hi,hall,rfl,rfl⟩
   cases μ2 with
   | zero =>
    obtain rfl : i = W.length := by omega
    rw [List.drop_length] at hall
    obtain rfl := hT hall
    have hni : ¬ ((W.length : Nat) : Int) < ((W.length : Nat) : Int) := by omega
    simp -implicitDefEqProofs only [go_sem,↓reduceIte,Int.reduceEq,Int.reduceLT,Int.reduceLE,List.reduceReplicate,intA,setT_nil,setT_cons,hln,hni,↓boolP_bool,↓iteB_true,↓iteB_false]
    refine hK2 _ _ _ ?_
    simp -implicitDefEqProofs only [go_sem,↓reduceIte,Int.reduceEq,Int.reduceLT,Int.reduceLE,List.reduceReplicate,intA,setT_nil,setT_cons,↓boolP_bool,↓iteB_true,↓iteB_false]
    have e1 : ∀ k,freezeV X (k + 1) (.sl bb vv 0 W.length cap) = some (.vs 1 (strs W) none) := fun k => frz1 hlk rfl hrow cap k
    have e2 : ∀ k,freezeV X (k + 1) (.v (.bool true)) = some (.v (.bool true)) := fun k => rfl
    have e3 : ∀ k,freezeL X (k + 4) [.sl bb vv 0 W.length cap,.v (.bool true)] = some [.vs 1 (strs W) none,.v (.bool true)] := fun k => by simp only [freezeL,e1,e2]
    have hX0 : ({ X with lock := 0 } : Heap) = X := by rw [← hlk]
    show freezeV { X with lock := 0 } 1000000 _ = _
    rw [hX0]
    show (freezeL X (999995 + 4) _).map AV.tup = _
    rw [e3];rfl
   | succ μ2 =>
    obtain ⟨z,hz⟩ := at_lt W i (by omega)
    have hlti : (i : Int) < ((W.length : Nat) : Int) := by omega
    have hwi := wrap_succ i (by omega)
    have hix := slIdx_sl bb vv W.length cap i (by omega)
    have hcell := strs_get hz
    have c89 := fun me d H => (ans61 he z (by have := hsm z (List.mem_of_getElem? hz);omega)).call (me := me) (d := d) (ext_89 he) (pure_89 _ _ _) rfl H
    have hdr : W.drop i = z :: W.drop (i + 1) := by
     have hjl := (List.getElem?_eq_some_iff.1 hz).1
     rw [List.drop_eq_getElem_cons hjl,(List.getElem?_eq_some_iff.1 hz).2]
    rw [hdr,List.all_cons] at hall
    cases hz1 : wordB z with
    | false =>
     rw [hz1,Bool.false_and] at hall
     rw [hz1] at c89
     obtain rfl := hF hall
     simp -implicitDefEqProofs only [go_sem,↓reduceIte,Int.reduceEq,Int.reduceLT,Int.reduceLE,List.reduceReplicate,intA,setT_nil,setT_cons,hln,hlti,hix,hrow,hcell,c89,hwi,↓boolP_bool,↓iteB_true,↓iteB_false]
     refine hK2 _ _ _ ?_
     simp -implicitDefEqProofs only [go_sem,↓reduceIte,Int.reduceEq,Int.reduceLT,Int.reduceLE,List.reduceReplicate,intA,setT_nil,setT_cons,↓boolP_bool,↓iteB_true,↓iteB_false]
     rfl
    | true =>
     rw [hz1,Bool.true_and] at hall
     rw [hz1] at c89
     simp -implicitDefEqProofs only [go_sem,↓reduceIte,Int.reduceEq,Int.reduceLT,Int.reduceLE,List.reduceReplicate,intA,setT_nil,setT_cons,hln,hlti,hix,hrow,hcell,c89,hwi,↓boolP_bool,↓iteB_true,↓iteB_false]
     exact Again.mk' μ2 (by omega) (hQ2 _ _ _ ⟨i + 1,by omega,hall,rfl,rfl⟩)
  | succ μ =>
   obtain ⟨b,hb⟩ : ∃ b,s.data.toList[j]? = some b := ⟨s.data.toList[j]'(by omega),List.getElem?_eq_getElem _⟩
   obtain ⟨hlt,hbg⟩ := List.getElem?_eq_some_iff.1 hb
   have hltj : (j : Int) < ((s.size : Nat) : Int) := by omega
   have hw := wrap_succ j (by omega)
   have hj0 : (0 : Int) ≤ (j : Int) := by omega
   have hst : strAt s j = some b := by unfold strAt;exact hb
   rw [List.drop_eq_getElem_cons hlt,hbg,splR] at hspl
   by_cases h32 : b.toNat = 32
   ·have h32i : (b.toNat : Int) = 32 := by omega
    rw [if_pos h32] at hspl
    rcases L with _ | ⟨x,L⟩
    ·simp -implicitDefEqProofs only [h72,o72,go_sem,↓reduceIte,Int.reduceEq,Int.reduceLT,Int.reduceLE,List.reduceReplicate,intA,setT_nil,setT_cons,hltj,hj0,Int.toNat_natCast,hst,h32i,hw,decide_true,↓boolP_bool,↓iteB_true,↓iteB_false]
     rw [appTo_full (m := 0) (e' := 9) (g := false) (cs := [.v (.string c)]) rfl rfl (by decide) rfl rfl rfl (by omega)]
     simp -implicitDefEqProofs only [go_sem,↓reduceIte,Int.reduceEq,Int.reduceLT,Int.reduceLE,List.reduceReplicate,intA,setT_nil,setT_cons,↓boolP_bool,↓iteB_true,↓iteB_false]
     rw [trim_big (fun h => absurd (boundL_le.1 h (.sl 2 0 0 2 none) (by simp)) (by show ¬ 2 + 1 ≤ 1;omega))]
     exact Again.mk' μ (by omega) (hQ _ _ _ ⟨j + 1,[c],emp,c,by omega,by simp,by show 0 ≤ _;omega,hspl,rfl,rfl⟩)
    ·simp -implicitDefEqProofs only [h72,o72,go_sem,↓reduceIte,Int.reduceEq,Int.reduceLT,Int.reduceLE,List.reduceReplicate,intA,setT_nil,setT_cons,hltj,hj0,Int.toNat_natCast,hst,h32i,hw,decide_true,↓boolP_bool,↓iteB_true,↓iteB_false]
     have hcl : (strs (x :: L) ++ [AV.v (.string c)]).length = L.length + 2 := by rw [List.length_append,strs_len];rfl
     rw [appTo_own (m := 0) (e' := 9) (cs := strs (x :: L) ++ [.v (.string c)]) (by unfold Heap.row Heap.get;simp) (by rw [hcl];omega) (Nat.zero_le _) (by unfold fitsA;exact decide_eq_true (by simp only [List.length_cons] at hLj;omega)) (by omega) (by omega)]
     simp -implicitDefEqProofs only [go_sem,↓reduceIte,Int.reduceEq,Int.reduceLT,Int.reduceLE,List.reduceReplicate,intA,setT_nil,setT_cons,↓boolP_bool,↓iteB_true,↓iteB_false]
     rw [trim3]
     rotate_left
     iterate 3 exact Nat.zero_le _
     ·simp only [boundL_cons,boundL_nil,bound_v,bound_sl];decide
     refine Again.mk' μ (by omega) (hQ _ _ _ ⟨j + 1,x :: (L ++ [c]),emp,c0,by omega,by simp only [List.length_cons,List.length_append,List.length_nil] at hLj ⊢;omega,by show 0 ≤ _;omega,hspl, ?_, ?_⟩)
     ·simp only [o72,List.length_append,List.length_cons,List.length_nil]
      rw [show L.length + 2 + 1 = L.length + (0 + 1) + 2 by omega];rfl
     ·simp only [h72,List.length_append,List.length_cons,List.length_nil]
      rw [show x :: (L ++ [c]) = (x :: L) ++ [c] from rfl,strs_snoc]
      rfl
   ·have h32i : ¬ (b.toNat : Int) = 32 := by omega
    rw [if_neg h32] at hspl
    have hsl : sliceI Tryz.prog 9 (.v (.string s)) (some (.v (.int .i64 j))) (some (.v (.int .i64 (j + 1 : Nat)))) none = some (.v (.string (s.extract j (j + 1)))) := by
     have h1 : (0 : Int) ≤ ((j + 1 : Nat) : Int) ∧ ((j + 1 : Nat) : Int) ≤ (s.size : Int) := by omega
     have h2 : (0 : Int) ≤ (j : Int) ∧ (j : Int) ≤ ((j + 1 : Nat) : Int) := by omega
     unfold sliceI sliceA
     rw [und_9]
     have h3 : (0 : Int) ≤ (j : Int) + 1 ∧ (j : Int) + 1 ≤ (s.size : Int) := by omega
     have h4 : (j : Int) ≤ (j : Int) + 1 := by omega
     simp [boundA,h1,h2,h3,h4]
    have hadd : strOp .add c (s.extract j (j + 1)) = some (.string (addB c b)) := by
     unfold strOp
     rw [add_one hb]
     simp only
     rw [if_pos]
     have : (s.extract j (j + 1)).size ≤ s.size := by simp [ByteArray.size_extract];omega
     omega
    rcases L with _ | ⟨x,L⟩
    ·have hw1 : IntKind.i64.wrap (((1 : Nat) : Int) - 1) = ((0 : Nat) : Int) := by decide
     have hi0 := slIdx_sl 0 0 1 (some 1) 0 (by omega)
     simp -implicitDefEqProofs only [h72,o72,go_sem,↓reduceIte,Int.reduceEq,Int.reduceLT,Int.reduceLE,List.reduceReplicate,intA,setT_nil,setT_cons,hltj,hj0,Int.toNat_natCast,hst,h32i,decide_false,↓boolP_bool,↓iteB_true,↓iteB_false]
     refine wp_drawX [([],[],false),([],[],false),([],[],false),([],[],false),([],[],false),([],[],false),([],[],false),([],[],false),([],[],false),([],[],false),([2,5],[],false),([],[],false),([],[],false),([],[],false)] (by kernel_rfl) (by kernel_rfl) ?_
     simp -implicitDefEqProofs only [go_sem,↓reduceIte,Int.reduceEq,Int.reduceLT,Int.reduceLE,List.reduceReplicate,intA,setT_nil,setT_cons,lenI_sl,hw,hw1,hi0,hsl,hadd,atomA_str,↓boolP_bool,↓iteB_true,↓iteB_false]
     exact Again.mk' μ (by omega) (hQ _ _ _ ⟨j + 1,[],addB c b,c0,by omega,by simp,by rw [addB_size];omega,hspl,rfl,rfl⟩)
    ·have hw1 : IntKind.i64.wrap (((L.length + 2 : Nat) : Int) - 1) = ((L.length + 1 : Nat) : Int) := by rw [show ((L.length + 2 : Nat) : Int) - 1 = ((L.length + 1 : Nat) : Int) by omega];exact wrap_nat _ (by simp only [List.length_cons] at hLj;omega)
     have hi0 := slIdx_sl 2 L.length (L.length + 2) none (L.length + 1) (by omega)
     have hcl : (strs (x :: L) ++ [AV.v (.string c)]).length = L.length + 2 := by rw [List.length_append,strs_len];rfl
     have hgt : (strs (x :: L) ++ [AV.v (.string c)])[L.length + 1]? = some (.v (.string c)) := by
      have := strs_len (x :: L)
      rw [List.getElem?_append_right (by rw [this];simp),this];simp
     have hsp : List.take (L.length + 1) (strs (x :: L) ++ [AV.v (.string c)]) ++ [AV.v (.string (addB c b))] ++ List.drop (L.length + 1 + 1) (strs (x :: L) ++ [AV.v (.string c)]) = strs (x :: L) ++ [AV.v (.string (addB c b))] := by
      have := strs_len (x :: L)
      rw [List.take_left' (by rw [this];rfl),List.drop_of_length_le (by rw [List.length_append,this];simp),List.append_nil]
     generalize hcs : strs (x :: L) ++ [AV.v (.string c)] = cs at hcl hgt hsp
     simp -implicitDefEqProofs only [h72,o72,hcs,go_sem,↓reduceIte,Int.reduceEq,Int.reduceLT,Int.reduceLE,List.reduceReplicate,intA,setT_nil,setT_cons,hltj,hj0,Int.toNat_natCast,hst,h32i,decide_false,↓boolP_bool,↓iteB_true,↓iteB_false]
     refine wp_drawX [([],[],false),([],[],false),([],[],false),([],[],false),([],[],false),([],[],false),([],[],false),([],[],false),([],[],false),([],[],false),([2,5],[],false),([],[],false),([],[],false),([],[],false)] (by kernel_rfl) (by kernel_rfl) ?_
     simp -implicitDefEqProofs only [go_sem,↓reduceIte,Int.reduceEq,Int.reduceLT,Int.reduceLE,List.reduceReplicate,intA,setT_nil,setT_cons,lenI_sl,hw,hw1,hi0,hcl,hgt,hsp,hsl,hadd,atomA_str,↓boolP_bool,↓iteB_true,↓iteB_false]
     exact Again.mk' μ (by omega) (hQ _ _ _ ⟨j + 1,x :: L,addB c b,c0,by omega,by omega,by rw [addB_size];omega,hspl,rfl,by simp only [h72]⟩)
end Go.Ev
namespace Go.Ev
open Go.Proofs
attribute [local irreducible] Wp WpS
theorem parts_any {e : Exts} (he : Quiet e) (s : ByteArray) (hs : s.size < 1000) : ∃ v,bound v = 0 ∧ Ans (Cx e) 72 [.v (.string s)] (.tup [v,.v (.bool (sideB s))]) := by
 by_cases h0 : s = emp
 ·subst h0
  exact ⟨_,rfl,ansS72e⟩
 by_cases h80 : s.size ≤ 80
 ·have hb : sideB s = (splB s).all wordB := by unfold sideB;rw [decide_eq_false h0,decide_eq_true h80];rfl
  rw [hb]
  cases h : (splB s).all wordB
  ·exact ⟨_,rfl,ansS72G he s h0 h80 _ (fun h2 => by rw [h] at h2;cases h2) (fun _ => rfl)⟩
  ·exact ⟨_,rfl,ansS72G he s h0 h80 _ (fun _ => rfl) (fun h2 => by rw [h] at h2;cases h2)⟩
 ·have hb : sideB s = false := by unfold sideB;rw [decide_eq_false h0,decide_eq_false h80];rfl
  refine ⟨.v (.slice none 0 0),rfl, ?_⟩
  rw [hb]
  have d1 : decide (s = (⟨#[]⟩ : ByteArray)) = false := decide_eq_false h0
  have d2 : (80 : Int) < (s.size : Int) := by omega
  have d3 : (s.size : Int) > (80 : Int) := by omega
  unfold Ans
  rw [fn_step (fn_72 e) (show Tryz.f72.body = some _ from rfl)]
  simp -implicitDefEqProofs only [Tryz.f72,go_sem,↓reduceIte,Int.reduceEq,Int.reduceLT,Int.reduceLE,List.reduceReplicate,intA,setT_nil,setT_cons,bin_seq,d1,d2,d3,decide_true,↓boolP_bool,↓iteB_true,↓iteB_false]
  rfl
theorem ansS48A {e : Exts} (he : Quiet e) (x : Sl) (hx : smS x) : Ans (Cx e) 48 [slA x] (.v (.bool (okS x))) := by
 obtain ⟨⟨a,b,c⟩,s,u,w⟩ := x
 obtain ⟨h1,h2,h3⟩ := hx
 obtain ⟨v1,hv1,aB⟩ := parts_any he u h2
 obtain ⟨v2,hv2,aA⟩ := parts_any he w h3
 have cB := fun me d H => aB.call (me := me) (d := d) (ext_72 he) (pure_72 _ _ _) rfl H
 have cA := fun me d H => aA.call (me := me) (d := d) (ext_72 he) (pure_72 _ _ _) rfl H
 have c89 := fun me d H => (ans61 he s (by simp only at h1;omega)).call (me := me) (d := d) (ext_89 he) (pure_89 _ _ _) rfl H
 have hok : okS ((a,b,c),s,u,w) = (wordB s && (sideB u && sideB w)) := rfl
 rw [hok]
 unfold slA
 simp only
 unfold Ans
 rw [fn_step (fn_48 e) (show Tryz.f48.body = some _ from rfl)]
 generalize wordB s = k1 at *
 generalize sideB u = k2 at *
 generalize sideB w = k3 at *
 cases k1 <;> cases k2 <;> cases k3 <;> simp -implicitDefEqProofs only [Tryz.f48,go_sem,↓reduceIte,Int.reduceEq,Int.reduceLT,Int.reduceLE,List.reduceReplicate,intA,setT_nil,setT_cons,cB,cA,c89,Bool.and_true,Bool.and_false,Bool.true_and,Bool.false_and,↓boolP_bool,↓iteB_true,↓iteB_false]
def greatB (x : Sl) : Bool := decide ((x.2.1.size : Int) > 40) || (decide ((x.2.2.1.size : Int) > 120) || decide ((x.2.2.2.size : Int) > 120))
theorem ansS16 {e : Exts} (x : Sl) : Ans (Cx e) 16 [slA x] (.v (.bool (greatB x))) := by
 obtain ⟨⟨a,b,c⟩,s,u,w⟩ := x
 unfold slA greatB
 simp only
 unfold Ans
 rw [fn_step (fn_16 e) (show Tryz.f16.body = some _ from rfl)]
 cases h1 : decide ((s.size : Int) > 40) <;> cases h2 : decide ((u.size : Int) > 120) <;> cases h3 : decide ((w.size : Int) > 120) <;> simp -implicitDefEqProofs only [Tryz.f16,go_sem,↓reduceIte,Int.reduceEq,Int.reduceLT,Int.reduceLE,List.reduceReplicate,intA,setT_nil,setT_cons,h1,h2,h3,Bool.or_true,Bool.or_false,Bool.true_or,Bool.false_or,↓boolP_bool,↓iteB_true,↓iteB_false]
end Go.Ev
namespace Go.Ev
open Go.Proofs
attribute [local irreducible] Wp WpS
theorem place_nat {t : Txt} {a b c : Int} (h : placeB' t a b c = true) : ∃ (i j k : Nat) (cp : Chap) (ln : Line) (s : ByteArray),a = i ∧ b = j ∧ c = k ∧ t[i]? = some cp ∧ cp.2[j]? = some ln ∧ ln[k]? = some s := by
 unfold placeB' lineAt at h
 by_cases h0 : 0 ≤ a ∧ 0 ≤ b
 ·rw [if_pos h0] at h
  obtain ⟨i,rfl⟩ := Int.eq_ofNat_of_zero_le h0.1
  obtain ⟨j,rfl⟩ := Int.eq_ofNat_of_zero_le h0.2
  simp only [Int.toNat_natCast] at h
  cases hc : t[i]? with
  | none => rw [hc] at h;exact nomatch h
  | some cp =>
   rw [hc,Option.bind_some] at h
   cases hl : cp.2[j]? with
   | none => rw [hl] at h;exact nomatch h
   | some ln =>
    rw [hl] at h
    have h2 : 0 ≤ c ∧ c < ln.length := of_decide_eq_true h
    obtain ⟨k,rfl⟩ := Int.eq_ofNat_of_zero_le h2.1
    obtain ⟨s,hs⟩ := at_lt ln k (by omega)
    exact ⟨i,j,k,cp,ln,s,rfl,rfl,rfl,hc,hl,hs⟩
 ·rw [if_neg h0] at h;exact nomatch h
theorem chk1 {e : Exts} (he : Quiet e) (hi : e.x 197 = some idxStr) (x : Sl) (hx : smS x) (hok : okS x = true) (me : FuncId) (d : Option Tmp) (H : Heap) : callA (Cx e) (lim (Cx e)) me 64 d [.vs 6 [slA x] (some 1)] H = some (.v (.int .i64 0),H) := by
 have h := (ansS64 he hi [x] (fun y hy => by rw [List.mem_singleton.1 hy];exact hx) (by show 1 < 100000;decide) (.vs 6 [slA x] (some 1)) (Or.inr ⟨_,rfl⟩)).call (me := me) (d := d) (ext_64 he) (pure_64 _ _ _) rfl H
 have hall1 : ([x].all okS) = true := by simp [hok]
 rw [hall1] at h
 simpa using h
def slZ : AV := .agg [.v (.int .i64 0),.v (.int .i64 0),.v (.int .i64 0),.v (.string emp),.v (.string emp),.v (.string emp)]
theorem ansS37F {e : Exts} (he : Quiet e) (t : Txt) (ht : Fits t) (hT : textB t = true) (ch : AV) (xs : List AV) (hch : SlOf 2 xs ch) (hall : All2 ChapA t xs) (w sd : Nat) (h1 : 12 ≤ w) (h2 : w ≤ 80) (h3 : 1 ≤ sd) (h4 : sd ≤ 3) (a b c : Int) (hp : placeB' t a b c = false) : Ans (Cx e) 37 [.agg [ch],.agg [intA w,.v (.int .u8 sd)],.agg [intA a,intA b,intA c]] (.tup [slZ,intA 12]) := by
 have a63 := ansS63 he t ht ch xs hch hall hT w sd (by omega) (by omega) (by omega) (by omega)
 have a46 := ansS46F he t ht ch xs hch hall hT a b c hp
 have b1 : boundL [AV.agg [ch],.agg [intA w,.v (.int .u8 sd)]] = 0 := by simp only [boundL_cons,bound_agg,hch.bound,boundL_nil];rfl
 have b2 : boundL [AV.agg [ch],.agg [intA a,intA b,intA c]] = 0 := by simp only [boundL_cons,bound_agg,hch.bound,boundL_nil];rfl
 have c63 := fun me d H => a63.call (me := me) (d := d) (ext_63 he) (pure_63 _ _ _) b1 H
 have c46 := fun me d H => a46.call (me := me) (d := d) (ext_46 he) (pure_46 _ _ _) b2 H
 unfold intA at c63 c46
 unfold Ans
 rw [fn_step (fn_37 e) (show Tryz.f37.body = some _ from rfl)]
 simp -implicitDefEqProofs only [Tryz.f37,go_sem,↓reduceIte,Int.reduceEq,Int.reduceLT,Int.reduceLE,List.reduceReplicate,intA,setT_nil,setT_cons,hch.cells,hch.flat,hch.bound,c63,c46,↓boolP_bool,↓iteB_true,↓iteB_false]
 rfl
def wrongN (x : Sl) (s B A : ByteArray) : Nat := if x.2.1 = s then (if x.2.2.1 = B then (if x.2.2.2 = A then 0 else 4) else 3) else 2
theorem ansS19F {e : Exts} (he : Quiet e) (hi : e.x 197 = some idxStr) (t : Txt) (ht : Fits t) (hT : textB t = true) (ch : AV) (xs : List AV) (hch : SlOf 2 xs ch) (hall : All2 ChapA t xs) (w sd : Nat) (h1 : 12 ≤ w) (h2 : w ≤ 80) (h3 : 1 ≤ sd) (h4 : sd ≤ 3) (x : Sl) (hx : smS x) (hok : okS x = true) (hp : placeB' t x.1.1 x.1.2.1 x.1.2.2 = false) : Ans (Cx e) 19 [.agg [ch],.agg [intA w,.v (.int .u8 sd)],slA x] (.tup [.v (.int .u8 1),.v (.int .i64 0)]) := by
 have a63 := ansS63 he t ht ch xs hch hall hT w sd (by omega) (by omega) (by omega) (by omega)
 have a46 := ansS46F he t ht ch xs hch hall hT x.1.1 x.1.2.1 x.1.2.2 hp
 have c64 := chk1 he hi x hx hok
 have b1 : boundL [AV.agg [ch],.agg [intA w,.v (.int .u8 sd)]] = 0 := by simp only [boundL_cons,bound_agg,hch.bound,boundL_nil];rfl
 have b2 : boundL [AV.agg [ch],.agg [intA x.1.1,intA x.1.2.1,intA x.1.2.2]] = 0 := by simp only [boundL_cons,bound_agg,hch.bound,boundL_nil];rfl
 have c63 := fun me d H => a63.call (me := me) (d := d) (ext_63 he) (pure_63 _ _ _) b1 H
 have c46 := fun me d H => a46.call (me := me) (d := d) (ext_46 he) (pure_46 _ _ _) b2 H
 unfold intA at c63 c46
 have hsl : slA x = .agg [.v (.int .i64 x.1.1),.v (.int .i64 x.1.2.1),.v (.int .i64 x.1.2.2),.v (.string x.2.1),.v (.string x.2.2.1),.v (.string x.2.2.2)] := rfl
 rw [hsl] at c64 ⊢
 unfold Ans
 rw [fn_step (fn_19 e) (show Tryz.f19.body = some _ from rfl)]
 simp -implicitDefEqProofs only [Tryz.f19,go_sem,↓reduceIte,Int.reduceEq,Int.reduceLT,Int.reduceLE,List.reduceReplicate,intA,setT_nil,setT_cons,hch.cells,hch.flat,hch.bound,c63,c46,c64,↓boolP_bool,↓iteB_true,↓iteB_false]
 rfl
theorem ansS19 {e : Exts} (he : Quiet e) (hi : e.x 197 = some idxStr) (hj : e.x 127 = some joinStr) (t : Txt) (ht : Fits t) (hT : textB t = true) (ch : AV) (xs : List AV) (hch : SlOf 2 xs ch) (hall : All2 ChapA t xs) (w sd : Nat) (h1 : 12 ≤ w) (h2 : w ≤ 80) (h3 : 1 ≤ sd) (h4 : sd ≤ 3) (a b c : Nat) (cp : Chap) (hc : t[a]? = some cp) (ln : Line) (hl : cp.2[b]? = some ln) (s : ByteArray) (hs : ln[c]? = some s) (y : ByteArray × ByteArray × ByteArray) (hx : smS (((a : Int),(b : Int),(c : Int)),y)) (hok : okS (((a : Int),(b : Int),(c : Int)),y) = true) : Ans (Cx e) 19 [.agg [ch],.agg [intA w,.v (.int .u8 sd)],slA (((a : Int),(b : Int),(c : Int)),y)] (.tup [.v (.int .u8 (wrongN (((a : Int),(b : Int),(c : Int)),y) s (mkB a cp.2 b c w sd) (mkA a cp.2 b c w sd))),.v (.int .i64 0)]) := by
 have a63 := ansS63 he t ht ch xs hch hall hT w sd (by omega) (by omega) (by omega) (by omega)
 have a46 := ansS46 he t ht ch xs hch hall hT a b c ln (lineAt_nat hc hl) s hs
 have a65 := ansS65 he hj t ht hT ch xs hch hall w sd h1 h2 h3 h4 a b c cp hc ln hl s hs
 rw [mkV_eq] at a65
 have c64 := chk1 he hi _ hx hok
 have b1 : boundL [AV.agg [ch],.agg [intA w,.v (.int .u8 sd)]] = 0 := by simp only [boundL_cons,bound_agg,hch.bound,boundL_nil];rfl
 have b2 : boundL [AV.agg [ch],.agg [intA a,intA b,intA c]] = 0 := by simp only [boundL_cons,bound_agg,hch.bound,boundL_nil];rfl
 have b3 : boundL [AV.agg [ch],.agg [intA w,.v (.int .u8 sd)],.agg [intA a,intA b,intA c]] = 0 := by simp only [boundL_cons,bound_agg,hch.bound,boundL_nil];rfl
 have c63 := fun me d H => a63.call (me := me) (d := d) (ext_63 he) (pure_63 _ _ _) b1 H
 have c46 := fun me d H => a46.call (me := me) (d := d) (ext_46 he) (pure_46 _ _ _) b2 H
 have c65 := fun me d H => a65.call (me := me) (d := d) (ext_65 he) (pure_65 _ _ _) b3 H
 unfold intA at c63 c46 c65
 obtain ⟨u,bf,af⟩ := y
 have hsl : slA (((a : Int),(b : Int),(c : Int)),u,bf,af) = .agg [.v (.int .i64 a),.v (.int .i64 b),.v (.int .i64 c),.v (.string u),.v (.string bf),.v (.string af)] := rfl
 rw [hsl] at c64 ⊢
 unfold wrongN Ans
 simp only
 rw [fn_step (fn_19 e) (show Tryz.f19.body = some _ from rfl)]
 generalize mkB a cp.2 b c w sd = B at *
 generalize mkA a cp.2 b c w sd = A at *
 by_cases k1 : u = s
 ·rw [if_pos k1]
  by_cases k2 : bf = B
  ·rw [if_pos k2]
   by_cases k3 : af = A
   ·rw [if_pos k3]
    simp -implicitDefEqProofs only [Tryz.f19,go_sem,↓reduceIte,Int.reduceEq,Int.reduceLT,Int.reduceLE,List.reduceReplicate,intA,setT_nil,setT_cons,hch.cells,hch.flat,hch.bound,c63,c46,c64,c65,decide_eq_true k1,decide_eq_true k2,decide_eq_true k3,Bool.not_true,↓boolP_bool,↓iteB_true,↓iteB_false]
    rfl
   ·rw [if_neg k3]
    simp -implicitDefEqProofs only [Tryz.f19,go_sem,↓reduceIte,Int.reduceEq,Int.reduceLT,Int.reduceLE,List.reduceReplicate,intA,setT_nil,setT_cons,hch.cells,hch.flat,hch.bound,c63,c46,c64,c65,decide_eq_true k1,decide_eq_true k2,decide_eq_false k3,Bool.not_true,Bool.not_false,↓boolP_bool,↓iteB_true,↓iteB_false]
    rfl
  ·rw [if_neg k2]
   simp -implicitDefEqProofs only [Tryz.f19,go_sem,↓reduceIte,Int.reduceEq,Int.reduceLT,Int.reduceLE,List.reduceReplicate,intA,setT_nil,setT_cons,hch.cells,hch.flat,hch.bound,c63,c46,c64,c65,decide_eq_true k1,decide_eq_false k2,Bool.not_true,Bool.not_false,↓boolP_bool,↓iteB_true,↓iteB_false]
   rfl
 ·rw [if_neg k1]
  simp -implicitDefEqProofs only [Tryz.f19,go_sem,↓reduceIte,Int.reduceEq,Int.reduceLT,Int.reduceLE,List.reduceReplicate,intA,setT_nil,setT_cons,hch.cells,hch.flat,hch.bound,c63,c46,c64,c65,decide_eq_false k1,Bool.not_false,↓boolP_bool,↓iteB_true,↓iteB_false]
  rfl
end Go.Ev
namespace Go.Ev
open Go.Proofs
attribute [local irreducible] Wp WpS
def plV (a b c : Int) : AV := .agg [.v (.int .i64 a),.v (.int .i64 b),.v (.int .i64 c)]
theorem plN_eq (p : Plc) : plN p = plV p.1 p.2.1 p.2.2 := rfl
theorem plV_inj {a b c a' b' c' : Int} (h : plV a b c = plV a' b' c') : a = a' ∧ b = b' ∧ c = c' := by
 unfold plV at h
 simp only [AV.agg.injEq,List.cons.injEq,AV.v.injEq,Value.int.injEq,and_true,true_and] at h
 exact h
theorem whT_mem {x : Sl} {y : AV} : ∀ {t : Txt} {a : Nat},y ∈ whT x a t ↔ ∃ j cp,t[j]? = some cp ∧ y ∈ runF x (a + j) cp
 | [],a => by
  constructor
  ·intro h;cases h
  ·rintro ⟨j,cp,h, -⟩;simp at h
 | c :: r,a => by
  show y ∈ runF x a c ++ whT x (a + 1) r ↔ _
  rw [List.mem_append,whT_mem (t := r) (a := a + 1)]
  constructor
  ·rintro (h | ⟨j,cp,h1,h2⟩)
   ·exact ⟨0,c,rfl,h⟩
   ·exact ⟨j + 1,cp,by simpa using h1,by rw [show a + (j + 1) = a + 1 + j by omega];exact h2⟩
  ·rintro ⟨j,cp,h1,h2⟩
   cases j with
   | zero => simp at h1;subst h1;exact Or.inl h2
   | succ j => exact Or.inr ⟨j,cp,by simpa using h1,by rw [show a + 1 + j = a + (j + 1) by omega];exact h2⟩
theorem runF_word {x : Sl} {a : Nat} {cp : Chap} {p q r : Int} (h : plV p q r ∈ runF x a cp) : ∃ b c : Nat,p = a ∧ q = b ∧ r = c ∧ ∃ l,cp.2[b]? = some l ∧ l[c]? = some x.2.1 := by
 unfold runF fromT at h
 obtain ⟨j,hj,he⟩ := List.mem_map.1 h
 obtain ⟨hj1,hj2⟩ := List.mem_filter.1 hj
 rw [List.mem_range] at hj1
 generalize hZ : wordsC a 0 cp.2 = Z at *
 have hW : whole x = sideL x.2.2.1 ++ (x.2.1 :: sideL x.2.2.2) := rfl
 have hWl : (whole x).length = (sideL x.2.2.1).length + ((sideL x.2.2.2).length + 1) := by rw [hW];simp
 obtain ⟨z,hz⟩ := at_lt Z (j + (sideL x.2.2.1).length) (by omega)
 have hzg : Z.getD (j + (sideL x.2.2.1).length) ((0,0,0),emp) = z := by rw [List.getD_eq_getElem?_getD,hz];rfl
 rw [hzg,plN_eq] at he
 have hit : ((Z.map (·.2)).take (j + (whole x).length)).drop j = whole x := of_decide_eq_true hj2
 have h1 : (whole x)[(sideL x.2.2.1).length]? = some x.2.1 := by rw [hW,List.getElem?_append_right (Nat.le_refl _),Nat.sub_self];rfl
 rw [← hit,List.getElem?_drop,List.getElem?_take_of_lt (by omega),List.getElem?_map,hz] at h1
 have h2 : z.2 = x.2.1 := by simpa using h1
 have hzm : z ∈ wordsC a 0 cp.2 := by rw [hZ];exact List.mem_of_getElem? hz
 obtain ⟨k1, -,l,k3,k4⟩ := wordsC_sub a cp.2 0 z hzm
 rw [Nat.sub_zero] at k3
 obtain ⟨e1,e2,e3⟩ := plV_inj he
 exact ⟨z.1.2.1,z.1.2.2,by rw [← e1,k1],e2.symm,e3.symm,l,k3,by rw [← h2];exact k4⟩
theorem where_word {x : Sl} {t : Txt} {a b c : Nat} {cp : Chap} (hc : t[a]? = some cp) {ln : Line} (hl : cp.2[b]? = some ln) {s : ByteArray} (hs : ln[c]? = some s) (h : plV a b c ∈ whT x 0 t) : x.2.1 = s := by
 obtain ⟨j,cp2,h1,h2⟩ := whT_mem.1 h
 rw [Nat.zero_add] at h2
 obtain ⟨b2,c2,e1,e2,e3,l,k1,k2⟩ := runF_word h2
 have : j = a := by omega
 subst this
 have : b2 = b := by omega
 subst this
 have : c2 = c := by omega
 subst this
 rw [hc] at h1;cases h1
 rw [hl] at k1;cases k1
 rw [hs] at k2
 exact (Option.some.inj k2).symm
theorem sideL_join {l : Line} (hp : ∀ s ∈ l,plainW s) : sideL (joinB l) = l := by
 by_cases h : l = []
 ·subst h;rfl
 ·unfold sideL
  rw [if_neg,splB_join h hp]
  intro he
  obtain ⟨a,r,rfl⟩ : ∃ a r,l = a :: r := by cases l with
   | nil => exact absurd rfl h
   | cons a r => exact ⟨a,r,rfl⟩
  have h2 := splB_join h hp
  rw [he] at h2
  have h3 : [emp] = a :: r := h2
  have h4 := hp a (List.mem_cons_self ..)
  have h5 : emp = a := (List.cons.inj h3).1
  rw [← h5] at h4
  exact absurd h4.1 (by decide)
theorem where_own {t : Txt} (hT : textB t = true) {a b c : Nat} {cp : Chap} (hc : t[a]? = some cp) {ln : Line} (hl : cp.2[b]? = some ln) {s : ByteArray} (hs : ln[c]? = some s) (w sd : Nat) (hw : 12 ≤ w) (q : Int × Int × Int) : plV a b c ∈ whT (q,s,mkB a cp.2 b c w sd,mkA a cp.2 b c w sd) 0 t := by
 refine whT_mem.2 ⟨a,cp,hc, ?_⟩
 rw [Nat.zero_add]
 obtain ⟨hp,hi, -, -⟩ := place_ctx hT hc hl hs
 obtain ⟨hcx, -⟩ := ctxOf_best hT hc hl hs w sd hw
 obtain ⟨hx, -⟩ := atIx_spec (a := a) hl hs
 have hmB : mkB a cp.2 b c w sd = befB ((wordsC a 0 cp.2).map (·.2)) (atIx (wordsC a 0 cp.2) (a,b,c)) (ctxOf (wordsC a 0 cp.2) (a,b,c) w sd) := rfl
 have hmA : mkA a cp.2 b c w sd = aftB ((wordsC a 0 cp.2).map (·.2)) (atIx (wordsC a 0 cp.2) (a,b,c)) (ctxOf (wordsC a 0 cp.2) (a,b,c) w sd) := rfl
 rw [hmB,hmA]
 generalize ctxOf (wordsC a 0 cp.2) (a,b,c) w sd = k at *
 generalize atIx (wordsC a 0 cp.2) (a,b,c) = i at *
 obtain ⟨m1,m2, -⟩ := ctxs_mem hcx
 unfold runF
 generalize wordsC a 0 cp.2 = Z at *
 have hlen : (Z.map (·.2)).length = Z.length := List.length_map _
 have hlt := (List.getElem?_eq_some_iff.1 hx).1
 generalize hws : Z.map (·.2) = ws at *
 have sB : sideL (befB ws i k) = (ws.take i).drop (i - k.1) := sideL_join fun y hy => hp y (List.mem_of_mem_take (List.mem_of_mem_drop hy))
 have sA : sideL (aftB ws i k) = (ws.take (i + 1 + k.2.1)).drop (i + 1) := sideL_join fun y hy => hp y (List.mem_of_mem_take (List.mem_of_mem_drop hy))
 have lB : ((ws.take i).drop (i - k.1)).length = k.1 := by rw [List.length_drop,List.length_take];omega
 have lA : ((ws.take (i + 1 + k.2.1)).drop (i + 1)).length = k.2.1 := by rw [List.length_drop,List.length_take];omega
 have hwh : whole (q,s,befB ws i k,aftB ws i k) = (ws.take i).drop (i - k.1) ++ (s :: (ws.take (i + 1 + k.2.1)).drop (i + 1)) := by
  show sideL (befB ws i k) ++ (s :: sideL (aftB ws i k)) = _
  rw [sB,sA]
 have hwl : (whole (q,s,befB ws i k,aftB ws i k)).length = k.1 + (k.2.1 + 1) := by rw [hwh,List.length_append,List.length_cons,lB,lA]
 show plV a b c ∈ fromT Z (whole (q,s,befB ws i k,aftB ws i k)) (sideL (befB ws i k)).length (Z.length + 1 - (whole (q,s,befB ws i k,aftB ws i k)).length)
 unfold fromT
 refine List.mem_map.2 ⟨i - k.1,List.mem_filter.2 ⟨List.mem_range.2 (by omega), ?_⟩, ?_⟩
 ·unfold hitB
  rw [hws,hwl]
  refine decide_eq_true ?_
  rw [hwh,show i - k.1 + (k.1 + (k.2.1 + 1)) = i + 1 + k.2.1 by omega]
  have h1 : ws.take (i + 1 + k.2.1) = ws.take i ++ (s :: (ws.take (i + 1 + k.2.1)).drop (i + 1)) := by
   have h2 := List.take_append_drop i (ws.take (i + 1 + k.2.1))
   rw [List.take_take,Nat.min_eq_left (by omega)] at h2
   have h3 : (ws.take (i + 1 + k.2.1)).drop i = s :: (ws.take (i + 1 + k.2.1)).drop (i + 1) := drop_eq_cons (by rw [List.getElem?_take_of_lt (by omega)];exact hi)
   rw [h3] at h2
   exact h2.symm
  rw [h1,List.drop_append_of_le_length (by rw [List.length_take];omega)]
  congr 2
  rw [← h1]
 ·rw [sB,lB,show i - k.1 + k.1 = i by omega,List.getD_eq_getElem?_getD,hx]
  rfl
end Go.Ev
namespace Go.Ev
open Go.Proofs
attribute [local irreducible] Wp WpS
structure Good {α : Type} (f : α → α → Int) : Prop where
 rng : ∀ a b,f a b = -1 ∨ f a b = 0 ∨ f a b = 1
 neg : ∀ a b,f b a = - f a b
 z : ∀ a b c,f a b = 0 → f a c = f b c
 tr : ∀ a b c,f a b = f b c → f a c = f a b
theorem Good.pull {α β : Type} {f : β → β → Int} (h : Good f) (p : α → β) : Good fun a b => f (p a) (p b) := ⟨fun _ _ => h.rng _ _,fun _ _ => h.neg _ _,fun _ _ _ => h.z _ _ _,fun _ _ _ => h.tr _ _ _⟩
theorem Good.or {α : Type} {f g : α → α → Int} (hf : Good f) (hg : Good g) : Good fun a b => if f a b = 0 then g a b else f a b := by
 refine ⟨fun a b => ?_,fun a b => ?_,fun a b c => ?_,fun a b c => ?_⟩
 ·have h1 := hf.rng a b
  have h2 := hg.rng a b
  split <;> assumption
 ·have h1 := hf.neg a b
  have h2 := hg.neg a b
  by_cases h : f a b = 0
  ·rw [if_pos h,if_pos (by omega)];exact h2
  ·rw [if_neg h,if_neg (by omega)];exact h1
 ·intro h
  by_cases h1 : f a b = 0
  ·rw [if_pos h1] at h
   rw [hf.z a b c h1,hg.z a b c h]
  ·rw [if_neg h1] at h;exact absurd h h1
 ·have n1 := hf.neg b c
  by_cases h1 : f a b = 0
  ·have e1 := hf.z a b c h1
   rw [if_pos h1,e1]
   by_cases h2 : f b c = 0
   ·rw [if_pos h2,if_pos h2];exact hg.tr a b c
   ·rw [if_neg h2,if_neg h2];intro h;exact h.symm
  ·rw [if_neg h1]
   by_cases h2 : f b c = 0
   ·have e2 := hf.z c b a (by omega)
    have e3 := hf.neg a c
    have e4 := hf.neg a b
    have e5 : f a c = f a b := by omega
    rw [e5,if_neg h1];intro _;rfl
   ·rw [if_neg h2]
    intro h
    have := hf.tr a b c h
    rw [this,if_neg h1]
end Go.Ev
namespace Go.Ev
open Go.Proofs
attribute [local irreducible] Wp WpS
theorem cells6 {cs : List AV} (h : cs.length = 6) : ∃ a b c d e f,cs = [a,b,c,d,e,f] := by
 rcases cs with _ | ⟨a,_ | ⟨b,_ | ⟨c,_ | ⟨d,_ | ⟨e,_ | ⟨f,_ | ⟨g,r⟩⟩⟩⟩⟩⟩⟩ <;> simp at h
 exact ⟨a,b,c,d,e,f,rfl⟩
end Go.Ev
namespace Go.Ev
open Go.Proofs
theorem slip_of {N : Nat} {x : AV} (h : Arg Tryz.prog (N + 5) 30 x) : ∃ s : Sl,x = slA s := by
 obtain ⟨A,rfl,hp⟩ := arg_struct (by kernel_rfl) h
 obtain ⟨hl,hf⟩ := plain_struct (l := [(0,28),(3,9),(4,9),(5,9)]) (by kernel_rfl) (by kernel_rfl) hp
 obtain ⟨a,b,c,d,e,f,rfl⟩ := cells6 (hl.trans (by kernel_rfl))
 have h0 := hf (0,28) (by simp)
 have h1 := hf (3,9) (by simp)
 have h2 := hf (4,9) (by simp)
 have h3 := hf (5,9) (by simp)
 have e0 : Tryz.prog.cellsOf 28 = 3 := by kernel_rfl
 have e1 : Tryz.prog.cellsOf 9 = 1 := by kernel_rfl
 simp only [e0,e1,List.drop_zero,List.drop_succ_cons,List.take_succ_cons,List.take_zero] at h0 h1 h2 h3
 obtain ⟨p1,p2,p3,hp⟩ := place_of h0
 obtain ⟨s1,hs1, -⟩ := plain_string (by kernel_rfl : Tryz.prog.underlying 9 = some .string) h1
 obtain ⟨s2,hs2, -⟩ := plain_string (by kernel_rfl : Tryz.prog.underlying 9 = some .string) h2
 obtain ⟨s3,hs3, -⟩ := plain_string (by kernel_rfl : Tryz.prog.underlying 9 = some .string) h3
 simp only [List.cons.injEq,and_true] at hp hs1 hs2 hs3
 exact ⟨((p1,p2,p3),s1,s2,s3),by rw [hp.1,hp.2.1,hp.2.2,hs1,hs2,hs3];rfl⟩
end Go.Ev
