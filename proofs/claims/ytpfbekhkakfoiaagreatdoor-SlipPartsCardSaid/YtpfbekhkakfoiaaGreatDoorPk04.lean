/- What the proof of this claim stands on, part 5: an evaluator of the model, proved right, and what it answers for functions of the program. -/
import Derived.Test.YtpfbekhkakfoiaaGreatDoorPk03
import Derived.KernelRfl
import Derived.Lib.Overlaps
import Derived.Shelf.Strings.Fields
import Derived.Shelf.Strings.OnBuilder
import Derived.Test.YtpfbekhkakfoiaaGreatDoorProg
import Derived.Lib.LaidTab
set_option maxHeartbeats 8000000
set_option maxRecDepth 1000000
set_option linter.unusedSimpArgs false
namespace Go.Ev
open Go.Proofs
theorem okFrom_iff (t : Txt) : ∀ (l : Txt) (j : Nat),okFrom t j l = true ↔ ∀ (i : Nat) (c : Chap),l[i]? = some c → condC t (j + i) c = true
 | [],j => by simp [okFrom]
 | x :: l,j => by
  unfold okFrom
  rw [Bool.and_eq_true,okFrom_iff t l (j + 1)]
  constructor
  ·rintro ⟨h1,h2⟩ i c hc
   cases i with
   | zero => simp at hc;subst hc;exact h1
   | succ i => rw [show j + (i + 1) = j + 1 + i by omega];exact h2 i c (by simpa using hc)
  ·intro h
   exact ⟨h 0 x rfl,fun i c hc => by rw [show j + 1 + i = j + (i + 1) by omega];exact h (i + 1) c (by simpa using hc)⟩
theorem idB_map (t : Txt) (id : Int) (n : Nat) : idB t id 0 n = ((t.map (·.1)).take n).any fun x => decide (x = id) := by
 unfold idB
 rw [List.drop_zero,← List.map_take,List.any_map];rfl
theorem readT_ids (t : Txt) (rs : List Rd) : (readT t rs).map (·.1) = t.map (·.1) := by
 apply List.ext_getElem?
 intro i
 unfold readT
 rw [List.getElem?_map,List.getElem?_map,List.getElem?_mapIdx]
 cases t[i]? <;> simp
theorem Right.text {t : Txt} {id : Int} {rs : List Rd} (h : Right t id rs) (ht : textB t = true) : textB (readT t rs) = true := by
 have hs := small_of ht
 have hs2 := h.small hs
 unfold textB at ht ⊢
 rw [Bool.and_eq_true] at ht ⊢
 have hl : (readT t rs).length = t.length := by unfold readT;rw [List.length_mapIdx]
 refine ⟨by rw [hl];exact ht.1,(okFrom_iff _ _ _).2 fun i c hc => ?_⟩
 have hil : i < t.length := by rw [← hl];exact (List.getElem?_eq_some_iff.1 hc).1
 obtain ⟨c0,hc0⟩ := at_lt t i hil
 have h0 := (okFrom_iff t t 0).1 ht.2 i c0 hc0
 have hcm := List.mem_of_getElem? hc
 rw [readT_get hc0] at hc
 have hid : c.1 = c0.1 := by cases hc;rfl
 have hlen : c.2.length = c0.2.length := by cases hc;simp
 unfold condC at h0 ⊢
 simp only [Bool.and_eq_true] at h0 ⊢
 obtain ⟨⟨⟨e1,e2⟩,e3⟩,e4⟩ := h0
 rw [Nat.zero_add] at e3 ⊢
 refine ⟨⟨⟨by rw [hid];exact e1,by rw [hlen];exact e2⟩,by rw [hid,idB_map,readT_ids,← idB_map];exact e3⟩,List.all_eq_true.2 fun l hl => ?_⟩
 unfold lineB
 have hw := hs2.words c hcm l hl
 rw [Bool.and_eq_true]
 refine ⟨?_,List.all_eq_true.2 fun s hm => hs2.word c hcm l hl s hm⟩
 unfold withinB
 simp only [List.all_cons,List.all_nil,Bool.and_true,Bool.and_eq_true,decide_eq_true_eq];omega
end Go.Ev
namespace Go.Ev
theorem wordsL_in (i j : Nat) : ∀ (l : Line) (k c : Nat) (s : ByteArray),l[c]? = some s → ((i,j,k + c),s) ∈ wordsL i j k l
 | [],_,c,s,h => by simp at h
 | a :: r,k,0,s,h => by simp at h;subst h;simp [wordsL]
 | a :: r,k,c + 1,s,h => by
  have := wordsL_in i j r (k + 1) c s (by simpa using h)
  rw [show k + 1 + c = k + (c + 1) by omega] at this
  exact List.mem_cons_of_mem _ this
theorem wordsC_in (i : Nat) : ∀ (ls : List Line) (j b c : Nat) (l : Line) (s : ByteArray),ls[b]? = some l → l[c]? = some s → ((i,j + b,c),s) ∈ wordsC i j ls
 | [],_,b,c,l,s,h,_ => by simp at h
 | a :: r,j,0,c,l,s,h,h2 => by
  simp at h;subst h
  have := wordsL_in i j a 0 c s h2
  rw [Nat.zero_add] at this
  exact List.mem_append_left _ this
 | a :: r,j,b + 1,c,l,s,h,h2 => by
  have := wordsC_in i r (j + 1) b c l s (by simpa using h) h2
  rw [show j + 1 + b = j + (b + 1) by omega] at this
  exact List.mem_append_right _ this
theorem wordsL_sub (i j : Nat) : ∀ (l : Line) (k : Nat) (x : Plc × ByteArray),x ∈ wordsL i j k l → x.1.1 = i ∧ x.1.2.1 = j ∧ k ≤ x.1.2.2 ∧ l[x.1.2.2 - k]? = some x.2
 | [],_,x,h => by simp [wordsL] at h
 | a :: r,k,x,h => by
  rcases List.mem_cons.1 h with rfl | h
  ·exact ⟨rfl,rfl,Nat.le_refl _,by simp⟩
  ·obtain ⟨h1,h2,h3,h4⟩ := wordsL_sub i j r (k + 1) x h
   refine ⟨h1,h2,by omega, ?_⟩
   rw [show x.1.2.2 - k = (x.1.2.2 - (k + 1)) + 1 by omega]
   simpa using h4
theorem wordsC_sub (i : Nat) : ∀ (ls : List Line) (j : Nat) (x : Plc × ByteArray),x ∈ wordsC i j ls → x.1.1 = i ∧ j ≤ x.1.2.1 ∧ ∃ l,ls[x.1.2.1 - j]? = some l ∧ l[x.1.2.2]? = some x.2
 | [],_,x,h => by simp [wordsC] at h
 | a :: r,j,x,h => by
  rcases List.mem_append.1 h with h | h
  ·obtain ⟨h1,h2,h3,h4⟩ := wordsL_sub i j a 0 x h
   exact ⟨h1,by omega,a,by rw [h2,Nat.sub_self];rfl,by simpa using h4⟩
  ·obtain ⟨h1,h2,l,h3,h4⟩ := wordsC_sub i r (j + 1) x h
   refine ⟨h1,by omega,l, ?_,h4⟩
   rw [show x.1.2.1 - j = (x.1.2.1 - (j + 1)) + 1 by omega]
   simpa using h3
end Go.Ev
namespace Go.Ev
open Go.Proofs
attribute [local irreducible] Wp WpS
theorem wordsC_small (a : Nat) : ∀ (ls : List Line) (j : Nat),(∀ l ∈ ls,l.length ≤ 10) → (wordsC a j ls).length ≤ ls.length * 10
 | [],_,_ => Nat.le_refl _
 | l :: r,j,h => by
  have h1 := h l (List.mem_cons_self ..)
  have ih := wordsC_small a r (j + 1) fun x hx => h x (List.mem_cons_of_mem _ hx)
  show (wordsL a j 0 l ++ wordsC a (j + 1) r).length ≤ _
  rw [List.length_append,wordsL_len,List.length_cons]
  omega
theorem word_size {s : ByteArray} (h : wordB s = true) : 1 ≤ s.size ∧ s.size ≤ 12 := by
 unfold wordB at h
 rw [Bool.and_eq_true,range1] at h
 have := h.1
 simp at this
 omega
end Go.Ev
namespace Go.Ev
open Go.Proofs
end Go.Ev
namespace Go.Ev
open Go.Proofs
attribute [local irreducible] Wp WpS
end Go.Ev
namespace Go.Ev
open Go.Proofs
end Go.Ev
namespace Go.Ev
open Go.Proofs
def extWord : List AV → Option AV
 | [.v (.string s)] => if s.size < 1000 then some (.v (.bool (wordB s))) else none
 | _ => none
def eN : Exts := { x := fun _ => none }
def e0 : Exts := eN.more 131 cmpStr
def e1 : Exts := e0.more 90 extWord
theorem quiet0 : Quiet e0 := by
 intro f h1 h2 _
 unfold e0 Exts.more
 show (if Nat.beq f 131 then some cmpStr else none) = none
 rw [if_neg]
 intro h;exact h2 (Nat.eq_of_beq_eq_true h)
theorem mixed (e : Exts) : (Cx e).P.follows .mixedOrders = true := by show Tryz.prog.follows .mixedOrders = true;kernel_rfl
theorem nogo_all : (Tryz.prog.funcs.toList.all fun fn => !(fn.body.isSome && (fn.name == "runtime.NumGoroutine"))) = true := by kernel_rfl
theorem nogo (e : Exts) : NoGo (Cx e).P := by
 intro f fn hf hb
 have h := List.all_eq_true.1 nogo_all fn (by
  have : Tryz.prog.funcs[f]? = some fn := hf
  exact List.mem_of_getElem? (by simpa using this))
 rw [hb] at h
 simpa using h
theorem extOK_none : ExtOK (Cx eN) := ⟨fun _ _ h => (nomatch h),fun _ _ h => (nomatch h),fun _ _ h => (nomatch h)⟩
theorem extOK0 : ExtOK (Cx e0) := by
 refine extOK_more (C := Cx eN) (f := 131) (g := cmpStr) rfl ?_ extOK_none rfl
 intro args v h Z ρ H w vals hs hl
 exact ext_cmp (fn := Tryz.f131) Tryz.func131 (by kernel_rfl) (by kernel_rfl) (by kernel_rfl) (by kernel_rfl) h Z ρ H w vals hs hl
end Go.Ev
namespace Go.Ev
structure Tell where
 f : Nat
 K : List AV
 R : AV
def tabHas : List Tell → Nat → Bool
 | [],_ => false
 | t :: r,f => Nat.beq t.f f || tabHas r f
def tabFn : List Tell → Nat → List AV → Option AV
 | [],_,_ => none
 | t :: r,f,args => if Nat.beq t.f f && listEq (eqA 30) args t.K then some t.R else tabFn r f args
def tabExt (e : FuncId → Option (List AV → Option AV)) (T : List Tell) : FuncId → Option (List AV → Option AV) := fun f => if tabHas T f then some (tabFn T f) else e f
def Cfg.more (C : Cfg) (e : FuncId → Option (List AV → Option AV)) : Cfg := { C with ext := e }
structure TellH where
 f : Nat
 K : List AV
 G : List (Option AObj)
 R : AV
def eqEnt : List (AV × AV × Nat) → List (AV × AV × Nat) → Bool
 | [],[] => true
 | (a,b,n) :: r,(a',b',n') :: s => eqQ 30 a a' && eqQ 30 b b' && Nat.beq n n' && eqEnt r s
 | _,_ => false
def sameX : Option AObj → Option AObj → Bool
 | none,none => true
 | some .dead,some .dead => true
 | some .dfr,some .dfr => true
 | some (.cells v m e sz g cs),some (.cells v' m' e' sz' g' cs') => Nat.beq v v' && Nat.beq m m' && Nat.beq e e' && Nat.beq sz sz' && (g == g') && eqLQ (eqQ 30) cs cs'
 | some (.map m es c),some (.map m' es' c') => Nat.beq m m' && eqEnt es es' && Nat.beq c c'
 | _,_ => false
def sameL : List (Option AObj) → List (Option AObj) → Bool
 | [],[] => true
 | x :: r,y :: s => sameX x y && sameL r s
 | _,_ => false
theorem eqEnt_eq : ∀ {l m : List (AV × AV × Nat)},eqEnt l m = true → l = m
 | [],[],_ => rfl
 | [],_ :: _,h => by cases h
 | _ :: _,[],h => by cases h
 | (a,b,n) :: r,(a',b',n') :: s,h => by
  simp only [eqEnt,Bool.and_eq_true] at h
  obtain ⟨⟨⟨h1,h2⟩,h3⟩,h4⟩ := h
  rw [eqQ_eq 30 _ _ h1,eqQ_eq 30 _ _ h2,Nat.eq_of_beq_eq_true h3,eqEnt_eq h4]
theorem sameX_eq {x y : Option AObj} (h : sameX x y = true) : x = y := by
 unfold sameX at h
 split at h
 ·rfl
 ·rfl
 ·rfl
 ·simp only [Bool.and_eq_true,beq_iff_eq] at h
  obtain ⟨⟨⟨⟨⟨h1,h2⟩,h3⟩,h4⟩,h5⟩,h6⟩ := h
  rw [Nat.eq_of_beq_eq_true h1,Nat.eq_of_beq_eq_true h2,Nat.eq_of_beq_eq_true h3,Nat.eq_of_beq_eq_true h4,h5,eqLQ_eq (eqQ_eq 30) h6]
 ·simp only [Bool.and_eq_true] at h
  obtain ⟨⟨h1,h2⟩,h3⟩ := h
  rw [Nat.eq_of_beq_eq_true h1,eqEnt_eq h2,Nat.eq_of_beq_eq_true h3]
 ·cases h
theorem sameL_eq : ∀ {l m : List (Option AObj)},sameL l m = true → l = m
 | [],[],_ => rfl
 | [],_ :: _,h => by cases h
 | _ :: _,[],h => by cases h
 | x :: r,y :: s,h => by
  simp only [sameL,Bool.and_eq_true] at h
  rw [sameX_eq h.1,sameL_eq h.2]
def tabHHas : List TellH → Nat → Bool
 | [],_ => false
 | t :: r,f => Nat.beq t.f f || tabHHas r f
def tabH : List TellH → Nat → List AV → Heap → Option AV
 | [],_,_,_ => none
 | t :: r,f,args,H => if Nat.beq t.f f && (eqLQ (eqQ 30) args t.K && sameL H.objs t.G) then some t.R else tabH r f args H
def atom1 : AV → Bool
 | .v _ => true
 | _ => false
def atom1b : AV → Bool
 | .v _ => true
 | .agg cs => cs.all atom1
 | _ => false
def atomR : AV → Bool
 | .v _ => true
 | .tup cs => cs.all atom1b
 | .agg cs => cs.all atom1b
 | _ => false
def borH (T : List Tell) (f : Nat) (args : List AV) (H : Heap) : Option AV :=
 match freezeL { H with lock := 0 } 100000 args with
 | some l => match tabFn T f l with | some R => if atomR R then some R else none | none => none
 | none => none
def tabX (T : List Tell) (TH : List TellH) (f : Nat) (args : List AV) (H : Heap) : Option AV := match tabH TH f args H with | some v => some v | none => borH T f args H
def tabExh (e : FuncId → Option (List AV → Heap → Option AV)) (T : List Tell) (TH : List TellH) : FuncId → Option (List AV → Heap → Option AV) := fun f => if tabHHas TH f || tabHas T f then some (tabX T TH f) else e f
def Cfg.more2 (C : Cfg) (e : FuncId → Option (List AV → Option AV)) (x : FuncId → Option (List AV → Heap → Option AV)) : Cfg := { C with ext := e,exh := x }
def ansH (n : Nat) (o : Option Out) : Option AV := match o with | some (.ret v H) => freezeV { H with lock := n } 1000000 v | _ => none
def GoodC (C : Cfg) (t : Tell) : Prop := (∃ e x,ExtOK (C.more2 e x) ∧ Ans (C.more2 e x) t.f t.K t.R) ∧ boundL t.K = 0
def GoodH (C : Cfg) (t : TellH) : Prop := (∃ e x,ExtOK (C.more2 e x) ∧ ∃ n,ansH t.G.length (evT (C.more2 e x) n (.call t.f t.K { objs := t.G,lock := t.G.length })) = some t.R) ∧ (Nat.beq (boundL t.K) 0 || t.K.any isYld) = false
def AllG (C : Cfg) : List Tell → Prop
 | [] => True
 | t :: r => GoodC C t ∧ AllG C r
def AllH (C : Cfg) : List TellH → Prop
 | [] => True
 | t :: r => GoodH C t ∧ AllH C r
theorem tabFn_some {C : Cfg} : ∀ {T : List Tell} {f : Nat} {args : List AV} {v : AV},AllG C T → tabFn T f args = some v → ∃ t,GoodC C t ∧ t.f = f ∧ args = t.K ∧ v = t.R
 | [],_,_,_,_,h => by cases h
 | t :: r,f,args,v,hT,h => by
  unfold tabFn at h
  split at h
  ·rename_i hq
   simp only [Bool.and_eq_true] at hq
   exact ⟨t,hT.1,Nat.eq_of_beq_eq_true hq.1,listEq_eq (eqA_eq 30) hq.2,by simpa using h.symm⟩
  ·exact tabFn_some hT.2 h
theorem tabH_some {C : Cfg} : ∀ {T : List TellH} {f : Nat} {args : List AV} {H : Heap} {v : AV},AllH C T → tabH T f args H = some v → ∃ t,GoodH C t ∧ t.f = f ∧ args = t.K ∧ H.objs = t.G ∧ v = t.R
 | [],_,_,_,_,_,h => by cases h
 | t :: r,f,args,H,v,hT,h => by
  unfold tabH at h
  split at h
  ·rename_i hq
   simp only [Bool.and_eq_true] at hq
   exact ⟨t,hT.1,Nat.eq_of_beq_eq_true hq.1,eqLQ_eq (eqQ_eq 30) hq.2.1,sameL_eq hq.2.2,by simpa using h.symm⟩
  ·exact tabH_some hT.2 h
theorem atom1_rep {Z Z' : Fzn} {ρ ρ' : Pls} {x : AV} {v : Value} (h : Rep Z ρ x v) (ha : atom1 x = true) : Rep Z' ρ' x v := by
 cases h with
 | v h => exact .v h
 | _ => cases ha
theorem atom1b_rep {Z Z' : Fzn} {ρ ρ' : Pls} {x : AV} {v : Value} (h : Rep Z ρ x v) (ha : atom1b x = true) : Rep Z' ρ' x v := by
 cases h with
 | v h => exact .v h
 | agg hl h => exact .agg hl fun i c v hc hv => atom1_rep (h i c v hc hv) (List.all_eq_true.1 (show List.all _ atom1 = true from ha) c (List.mem_of_getElem? hc))
 | _ => cases ha
theorem atomR_rep {Z Z' : Fzn} {ρ ρ' : Pls} {x : AV} {v : Value} (h : Rep Z ρ x v) (ha : atomR x = true) : Rep Z' ρ' x v := by
 cases h with
 | v h => exact .v h
 | agg hl h => exact .agg hl fun i c v hc hv => atom1b_rep (h i c v hc hv) (List.all_eq_true.1 (show List.all _ atom1b = true from ha) c (List.mem_of_getElem? hc))
 | tup hl h => exact .tup hl fun i c v hc hv => atom1b_rep (h i c v hc hv) (List.all_eq_true.1 (show List.all _ atom1b = true from ha) c (List.mem_of_getElem? hc))
 | _ => cases ha
theorem back_frozen {Z : Fzn} {ρ : Pls} {H : Heap} {w : World} (hs : Sim Z ρ H w) {R : AV} (hR : atomR R = true) {x : Value} {w' : World} (h : After (allZ w) noPls { objs := [],lock := 0 } w R { objs := [],lock := 0 } x w') : After Z ρ H w R H x w' := by
 obtain ⟨Z',ρ',h1,h2,h3⟩ := h
 have hsame : ∀ k,k < w.heap.size → w'.heap[k]? = w.heap[k]? := fun k hk => h3.frame k hk (start_own w k)
 refine ⟨Z,ρ,atomR_rep h1 hR,⟨fun b o hb hl => ?_,hs.inj,fun k o hk => ?_,hs.fresh,hs.lk,hs.lg⟩,⟨.refl _,.refl _,fun k hk _ => hsame k hk,fun _ _ h => h,h3.size,h3.os,h3.output,h3.tape,h3.drawn,h3.fz,rfl,fun _ _ => rfl,Nat.le_refl _,fun _ _ _ => rfl,fun _ _ _ => rfl,fun _ _ h _ => ⟨h,fun _ => rfl⟩⟩⟩
 ·obtain ⟨pl,obj,q1,q2,q3,q4⟩ := hs.objs b o hb hl
  exact ⟨pl,obj,q1,(hsame _ (Array.getElem?_eq_some_iff.1 q2).1).trans q2,q3,q4⟩
 ·have := hs.zok k o hk
  exact (hsame _ (Array.getElem?_eq_some_iff.1 this).1).trans this
theorem extOK_tab {C : Cfg} (hgo : NoGo C.P) (hm : C.P.follows .mixedOrders = true) (h0 : ExtOK C) {T : List Tell} (hT : AllG C T) {TH : List TellH} (hH : AllH C TH) : ExtOK (C.more2 (tabExt C.ext T) (tabExh C.exh T TH)) := by
 refine ⟨fun f g hf args v hv Z ρ H w vals hs hl => ?_,h0.lay,fun f g hf args v H hv Z ρ w vals hs hl => ?_⟩
 ·have hf' : (if tabHas T f then some (tabFn T f) else C.ext f) = some g := hf
  split at hf'
  ·simp only [Option.some.injEq] at hf'
   subst hf'
   obtain ⟨t,⟨⟨e,x,he,ha⟩,hb⟩,rfl,rfl,rfl⟩ := tabFn_some hT hv
   exact ext_of_ans (C := C.more2 e x) hgo hm he ha hb Z ρ H w vals hs hl
  ·exact h0.ext f g hf' args v hv Z ρ H w vals hs hl
 ·have hf' : (if tabHHas TH f || tabHas T f then some (tabX T TH f) else C.exh f) = some g := hf
  split at hf'
  ·simp only [Option.some.injEq] at hf'
   subst hf'
   unfold tabX at hv
   split at hv
   case h_2 =>
    unfold borH at hv
    split at hv
    ·rename_i l hfz
     split at hv
     ·rename_i R hR
      split at hv
      ·rename_i hat
       simp only [Option.some.injEq] at hv
       subst hv
       have hlz : RepL (allZ w) noPls l vals := (freeze_rep (ρ := noPls) (Z1 := Z) (Z2 := allZ w) (ρ1 := ρ) (H1 := { H with lock := 0 }) (w1 := w) ⟨hs.objs,hs.inj,hs.zok,hs.fresh,Nat.zero_le _,hs.lg⟩ (fun k o hk => hs.zok k o hk) (fun b o pl _ _ _ _ => rfl) (fun b v p hb _ => absurd hb (Nat.not_lt_zero _)) 100000).2 _ _ _ hfz hl
       obtain ⟨t,⟨⟨e,x,he,ha⟩,hb⟩,rfl,rfl,rfl⟩ := tabFn_some hT hR
       have hm1 := ext_of_ans (C := C.more2 e x) hgo hm he ha hb (allZ w) noPls { objs := [],lock := 0 } w vals (start_sim w (hs.lg.mono fun k o hk => hs.zok k o hk)) hlz
       rcases hm1 with ⟨y,w',h1,h2⟩ | ⟨h1,h2⟩
       ·exact Or.inl ⟨y,w',h1,back_frozen hs hat h2⟩
       ·exact Or.inr ⟨h1,Calls.mono' h2 fun en w' he => by
         obtain ⟨y,rfl,h3⟩ := he
         exact ⟨y,rfl,back_frozen hs hat h3⟩⟩
      ·cases hv
     ·cases hv
    ·cases hv
   rename_i v2 hv2
   simp only [Option.some.injEq] at hv
   subst hv
   obtain ⟨t,⟨⟨e,x,he,n,ha⟩,hb⟩,rfl,rfl,hG,rfl⟩ := tabH_some hH hv2
   have hrec : RecOK C.P (evT (C.more2 e x) n) := (ev_sound (C := C.more2 e x) hgo he (draw_ok hm he) n).1
   let D : Cfg := { C.more2 e x with pure := fun _ _ _ => true }
   have hk : callKind D t.f t.f none t.K = 2 := by
    simp only [Bool.or_eq_false_iff] at hb
    unfold callKind
    simp only [hb.1,hb.2,Bool.false_eq_true,if_false,if_true,D]
   have hB : callB D (evT (C.more2 e x) n) t.f t.f none t.K H = some (t.R,H) := by
    unfold callB;rw [hk]
    have h1 : ({ H with lock := H.size } : Heap) = { objs := t.G,lock := t.G.length } := by
     obtain ⟨objs,lock⟩ := H
     simp only at hG
     subst hG
     rfl
    have h2 : H.size = t.G.length := by unfold Heap.size;rw [hG]
    simp only
    rw [h1,h2]
    unfold ansH at ha
    split at ha
    ·rename_i v1 H1 h3
     rw [h3]
     simp only [ha,Option.map_some]
    ·cases ha
   obtain ⟨hbody,hc⟩ := callB_sound (C := D) hrec hs hl hB
   exact Or.inr ⟨hbody.run _ _,hc⟩
  ·exact h0.exh f g hf' args v H hv Z ρ w vals hs hl
def ansC (o : Option Out) : Option AV := match o with | some (.ret v H) => freezeV { H with lock := 0 } 1000000 v | _ => none
theorem ans_of_evC {C : Cfg} {n : Nat} {f : FuncId} {args : List AV} {v : AV} (h : ansC (evT C n (.call f args { objs := [],lock := 0 })) = some v) : Ans C f args v := by
 refine Ans.iff.2 ?_
 cases ho : evT C n (.call f args { objs := [],lock := 0 }) with
 | none => rw [ho] at h;cases h
 | some o =>
  rw [ho] at h
  cases o with
  | go => cases h
  | ret x H => exact ⟨x,H,lim_iff.2 ⟨n,ho⟩,h⟩
theorem goodC {C : Cfg} (hgo : NoGo C.P) (hm : C.P.follows .mixedOrders = true) (h0 : ExtOK C) {t : Tell} (T : List Tell) (hT : AllG C T) (TH : List TellH) (hH : AllH C TH) (n : Nat)
  (h : ansC (evT (C.more2 (tabExt C.ext T) (tabExh C.exh T TH)) n (.call t.f t.K { objs := [],lock := 0 })) = some t.R) (hb : boundL t.K = 0) : GoodC C t :=
 ⟨⟨_,_,extOK_tab hgo hm h0 hT hH,ans_of_evC h⟩,hb⟩
end Go.Ev
namespace Go.Ev
end Go.Ev
namespace Go.Ev
open Go.Proofs Go.Shelf Go.RowKit
def asciiB : List UInt8 → Bool
 | [] => true
 | b :: r => Nat.blt b.toNat 128 && asciiB r
theorem asciiB_at : ∀ {l : List UInt8},asciiB l = true → ∀ (j : Nat) b,l[j]? = some b → b.toNat < 128
 | [],_,j,b,h => by simp at h
 | x :: r,ha,0,b,h => by
  simp only [asciiB,Bool.and_eq_true] at ha
  simp only [List.getElem?_cons_zero,Option.some.injEq] at h
  subst h
  rw [← Nat.blt_eq];exact ha.1
 | x :: r,ha,j + 1,b,h => by
  simp only [asciiB,Bool.and_eq_true] at ha
  exact asciiB_at ha.2 j b (by simpa using h)
def strAV (l : List UInt8) : AV := .v (.string ⟨l.toArray⟩)
def fieldsA : List AV → Option AV
 | [.v (.string s)] => if Nat.blt s.data.size 100000 && asciiB s.data.toList then some (.vs 1 ((Lib.fields s.data.toList).map strAV) (some (Lib.fields s.data.toList).length)) else none
 | _ => none
theorem strAV_cells : ∀ l : List (List UInt8),(l.map strAV).flatMap AV.cells = l.map strAV
 | [] => rfl
 | x :: r => by simp only [List.map_cons,List.flatMap_cons,strAV_cells r];rfl
theorem ext_fields {P : Program} {ρn : Ren} (L : Lays.n157 P ρn) (hi9 : (P.info? (ρn.t 9)).map (fun i => (i.zero,i.size,i.bytes)) = some (some (.string ByteArray.empty),1,16)) (hg : P.globalNamed "strings.asciiSpace" = some (ρn.g 0))
  (hl0 : (ρn.g 0,(Lib.asciiSpaceTab.map fun z => Value.int .u8 z).toArray) ∈ laidL) {f : FuncId} (hf : ρn.f 157 = f) (hbody : HasBody P f)
  {args : List AV} {v : AV} (h : fieldsA args = some v) (Z : Fzn) (ρ : Pls) (H : Heap) (w : World) (vals : List Value) (hs : Sim Z ρ H w) (hl : RepL Z ρ args vals) : FnMeets P f vals w (After Z ρ H w v H) := by
 subst hf
 unfold fieldsA at h
 split at h
 ·rename_i s
  obtain ⟨v1,ws,rfl,hv1,hl⟩ := hl.uncons
  have : ws = [] := List.length_eq_zero_iff.1 hl.1.symm
  subst this
  obtain ⟨rfl, -⟩ := hv1.v_inv
  split at h
  ·rename_i hc
   simp only [Bool.and_eq_true] at hc
   simp only [Option.some.injEq] at h
   subst h
   have hsz : s.size < 100000 := by
    have := hc.1
    rw [Nat.blt_eq] at this
    exact this
   have htab : Lib.TabIs P w "strings.asciiSpace" .u8 Lib.asciiSpaceTab := by
    obtain ⟨e,fz,hz⟩ := hs.lg _ hl0
    have := hs.zok _ _ hz
    unfold Lib.TabIs World.var?
    rw [hg]
    simp only [Option.bind_some]
    simp only at this
    rw [this]
   refine Or.inr ⟨hbody.run _ _,Calls.mono' (Any.strings_Fields L hi9 hg s w (by omega) (asciiB_at hc.2) htab) ?_⟩
   rintro e w' ⟨rfl,rfl⟩
   obtain ⟨q1,q2⟩ := hs.frozen (.cells ((Lib.fields s.data.toList).map fun l => Value.string ⟨l.toArray⟩).toArray (ρn.t 9) (0,0)) (fun c e fz he => by cases he;rfl)
   refine ⟨_,rfl,_,ρ, ?_,q1,q2⟩
   have hz : freezeZ Z w.heap.size (.cells ((Lib.fields s.data.toList).map fun l => Value.string ⟨l.toArray⟩).toArray (ρn.t 9) (0,0)) w.heap.size = some (.cells ((Lib.fields s.data.toList).map fun l => Value.string ⟨l.toArray⟩).toArray (ρn.t 9) (0,0)) := by
    unfold freezeZ;rw [if_pos rfl]
   have hlen : ((Lib.fields s.data.toList).map strAV).length = (Lib.fields s.data.toList).length := List.length_map _
   have hrep : Rep (freezeZ Z w.heap.size (.cells ((Lib.fields s.data.toList).map fun l => Value.string ⟨l.toArray⟩).toArray (ρn.t 9) (0,0))) ρ (.vs 1 ((Lib.fields s.data.toList).map strAV) (some (Lib.fields s.data.toList).length))
     (.slice (some ⟨w.heap.size,([] : List Value).length,none⟩) ((Lib.fields s.data.toList).map strAV).length (Lib.fields s.data.toList).length) := by
    refine Rep.vs (vs := (Lib.fields s.data.toList).map fun l => Value.string ⟨l.toArray⟩) (post := []) hz (by simp) (fun x hx => ?_) ?_ (fun i c v hc hv => ?_) (fun k hk => by cases hk;rfl) (by rw [hlen];exact Nat.le_refl _)
    ·obtain ⟨l, -,rfl⟩ := List.mem_map.1 hx
     rfl
    ·rw [strAV_cells,List.length_map,List.length_map]
    ·rw [strAV_cells] at hc
     rw [List.getElem?_map] at hc hv
     cases hq : (Lib.fields s.data.toList)[i]? with
     | none => rw [hq] at hc;cases hc
     | some l =>
      rw [hq] at hc hv
      simp only [Option.map_some,Option.some.injEq] at hc hv
      subst hc;subst hv
      exact .v rfl
   rw [hlen] at hrep
   exact hrep
  ·cases h
 ·cases h
end Go.Ev
namespace Go.Proofs
open Go.Shelf
def Tryz.lays156_ren : Go.Shelf.Ren := ⟨fun | 156 => 127 | 165 => 155 | 166 => 156 | 169 => 157 | 240 => 180 | 241 => 181 | 276 => 189 | 277 => 190 | n => n,fun | 31 => 87 | 9 => 9 | 3 => 3 | 4 => 4 | 0 => 0 | 20 => 20 | 72 => 227 | 76 => 231 | 70 => 224 | 37 => 225 | 75 => 230 | 127 => 249 | 164 => 262 | 5 => 5 | 80 => 233 | n => n,fun | n => n⟩
theorem Tryz.lays156 : Go.Proofs.Lays.n156 Tryz.prog Tryz.lays156_ren := {
 mixed := by kernel_rfl
 f156 := Tryz.func127.trans (congrArg some (by kernel_rfl))
 f165 := Tryz.func155.trans (congrArg some (by kernel_rfl))
 f166 := Tryz.func156.trans (congrArg some (by kernel_rfl))
 f169 := Tryz.func157.trans (congrArg some (by kernel_rfl))
 f240 := Tryz.func180.trans (congrArg some (by kernel_rfl))
 f241 := Tryz.func181.trans (congrArg some (by kernel_rfl))
 f276 := Tryz.func189.trans (congrArg some (by kernel_rfl))
 f277 := Tryz.func190.trans (congrArg some (by kernel_rfl))
 t0 := Tryz.underlying0
 a0 := Tryz.isAgg0
 z0 := Tryz.sizeOf0
 v0 := Tryz.zeroValue0
 t3 := Tryz.underlying3
 a3 := Tryz.isAgg3
 z3 := Tryz.sizeOf3
 v3 := Tryz.zeroValue3
 t4 := Tryz.underlying4
 a4 := Tryz.isAgg4
 z4 := Tryz.sizeOf4
 v4 := Tryz.zeroValue4
 t9 := Tryz.underlying9
 a9 := Tryz.isAgg9
 z9 := Tryz.sizeOf9
 v9 := Tryz.zeroValue9
 t20 := Tryz.underlying20
 a20 := Tryz.isAgg20
 z20 := Tryz.sizeOf20
 v20 := Tryz.zeroValue20
 t31 := Tryz.underlying87
 a31 := Tryz.isAgg87
 z31 := Tryz.sizeOf87
 v31 := Tryz.zeroValue87
 t37 := Tryz.underlying225
 a37 := Tryz.isAgg225
 z37 := Tryz.sizeOf225
 v37 := Tryz.zeroValue225
 t70 := Tryz.underlying224
 a70 := Tryz.isAgg224
 z70 := Tryz.sizeOf224
 v70 := Tryz.zeroValue224
 t72 := Tryz.underlying227
 a72 := Tryz.isAgg227
 z72 := Tryz.sizeOf227
 v72 := Tryz.zeroValue227
 t75 := Tryz.underlying230
 a75 := Tryz.isAgg230
 z75 := Tryz.sizeOf230
 v75 := Tryz.zeroValue230
 t76 := Tryz.underlying231
 a76 := Tryz.isAgg231
 z76 := Tryz.sizeOf231
 v76 := Tryz.zeroValue231
 t127 := Tryz.underlying249
 a127 := Tryz.isAgg249
 z127 := Tryz.sizeOf249
 v127 := Tryz.zeroValue249
 t164 := Tryz.underlying262
 a164 := Tryz.isAgg262
 z164 := Tryz.sizeOf262
 v164 := Tryz.zeroValue262 }
theorem Tryz.Builder_Extra_156 : Builder.Extra Tryz.prog Tryz.lays156_ren := {
 sizeBuilder := by kernel_rfl
 liesBuilder := by kernel_rfl
 t5 := Tryz.underlying5
 a5 := Tryz.isAgg5
 z5 := Tryz.sizeOf5
 v5 := Tryz.zeroValue5
 infoByte := by kernel_rfl
 cellsByte := by kernel_rfl
 sizeByte := by kernel_rfl
 neB5 := by decide }
open Go.RowKit in
theorem Tryz.strings_Join_none (a : Option Addr) (c : Nat) (sep : ByteArray) (w : World) :
  Calls Tryz.prog 127 #[.slice a 0 c,.string sep] w fun e w' => e = .returned (.string ⟨#[]⟩) ∧ w' = w := Any.strings_Join_none Tryz.lays156 Tryz.Builder_Extra_156 a c sep w
open Go.RowKit in
theorem Tryz.strings_Join (bk o c : Nat) (xs : List ByteArray) (sep : ByteArray) (w : World) (hcells : ∀ (j : Nat) x,xs[j]? = some x → w.cell? ⟨bk,o + j,none⟩ = some (.string x)) (hbk : bk < w.heap.size) (hN : xs.length ≤ 140737488355328) (hcap : xs.length ≤ c) (hlen : (Lib.join (xs.map (·.data.toList)) sep.data.toList).length ≤ 140737488355328) :
  Calls Tryz.prog 127 #[.slice (some ⟨bk,o,none⟩) xs.length c,.string sep] w fun e w' => e = .returned (.string ⟨(Lib.join (xs.map (·.data.toList)) sep.data.toList).toArray⟩) ∧ Below w.heap.size w w' := Any.strings_Join Tryz.lays156 Tryz.Builder_Extra_156 bk o c xs sep w hcells hbk hN hcap hlen
def Tryz.lays157_ren : Go.Shelf.Ren := ⟨fun | 157 => 107 | 229 => 128 | 199 => 129 | 261 => 158 | 311 => 182 | 312 => 183 | n => n,fun | 9 => 9 | 31 => 87 | 3 => 3 | 5 => 5 | 4 => 4 | 119 => 187 | 0 => 0 | 40 => 189 | 152 => 234 | 21 => 21 | 154 => 236 | 51 => 237 | 141 => 239 | 196 => 253 | 193 => 250 | 198 => 255 | 49 => 76 | 194 => 251 | 201 => 258 | 226 => 265 | 46 => 266 | 227 => 267 | n => n,fun | 0 => 0 | 6 => 2 | n => n⟩
theorem Tryz.lays157 : Go.Proofs.Lays.n157 Tryz.prog Tryz.lays157_ren := {
 mixed := by kernel_rfl
 f157 := Tryz.func107.trans (congrArg some (by kernel_rfl))
 f199 := Tryz.func129.trans (congrArg some (by kernel_rfl))
 f229 := Tryz.func128.trans (congrArg some (by kernel_rfl))
 f261 := Tryz.func158.trans (congrArg some (by kernel_rfl))
 f311 := Tryz.func182.trans (congrArg some (by kernel_rfl))
 f312 := Tryz.func183.trans (congrArg some (by kernel_rfl))
 t0 := Tryz.underlying0
 a0 := Tryz.isAgg0
 z0 := Tryz.sizeOf0
 v0 := Tryz.zeroValue0
 t3 := Tryz.underlying3
 a3 := Tryz.isAgg3
 z3 := Tryz.sizeOf3
 v3 := Tryz.zeroValue3
 t4 := Tryz.underlying4
 a4 := Tryz.isAgg4
 z4 := Tryz.sizeOf4
 v4 := Tryz.zeroValue4
 t5 := Tryz.underlying5
 a5 := Tryz.isAgg5
 z5 := Tryz.sizeOf5
 v5 := Tryz.zeroValue5
 t9 := Tryz.underlying9
 a9 := Tryz.isAgg9
 z9 := Tryz.sizeOf9
 v9 := Tryz.zeroValue9
 t21 := Tryz.underlying21
 a21 := Tryz.isAgg21
 z21 := Tryz.sizeOf21
 v21 := Tryz.zeroValue21
 t31 := Tryz.underlying87
 a31 := Tryz.isAgg87
 z31 := Tryz.sizeOf87
 v31 := Tryz.zeroValue87
 t40 := Tryz.underlying189
 a40 := Tryz.isAgg189
 z40 := Tryz.sizeOf189
 v40 := Tryz.zeroValue189
 t46 := Tryz.underlying266
 a46 := Tryz.isAgg266
 z46 := Tryz.sizeOf266
 v46 := Tryz.zeroValue266
 t49 := Tryz.underlying76
 a49 := Tryz.isAgg76
 z49 := Tryz.sizeOf76
 v49 := Tryz.zeroValue76
 t51 := Tryz.underlying237
 a51 := Tryz.isAgg237
 z51 := Tryz.sizeOf237
 v51 := Tryz.zeroValue237
 t119 := Tryz.underlying187
 a119 := Tryz.isAgg187
 z119 := Tryz.sizeOf187
 t141 := Tryz.underlying239
 a141 := Tryz.isAgg239
 z141 := Tryz.sizeOf239
 v141 := Tryz.zeroValue239
 t152 := Tryz.underlying234
 a152 := Tryz.isAgg234
 z152 := Tryz.sizeOf234
 v152 := Tryz.zeroValue234
 t154 := Tryz.underlying236
 a154 := Tryz.isAgg236
 z154 := Tryz.sizeOf236
 v154 := Tryz.zeroValue236
 t193 := Tryz.underlying250
 a193 := Tryz.isAgg250
 z193 := Tryz.sizeOf250
 v193 := Tryz.zeroValue250
 t194 := Tryz.underlying251
 a194 := Tryz.isAgg251
 z194 := Tryz.sizeOf251
 v194 := Tryz.zeroValue251
 t196 := Tryz.underlying253
 a196 := Tryz.isAgg253
 z196 := Tryz.sizeOf253
 v196 := Tryz.zeroValue253
 t198 := Tryz.underlying255
 a198 := Tryz.isAgg255
 z198 := Tryz.sizeOf255
 v198 := Tryz.zeroValue255
 t201 := Tryz.underlying258
 a201 := Tryz.isAgg258
 z201 := Tryz.sizeOf258
 v201 := Tryz.zeroValue258
 t226 := Tryz.underlying265
 a226 := Tryz.isAgg265
 z226 := Tryz.sizeOf265
 v226 := Tryz.zeroValue265
 t227 := Tryz.underlying267
 a227 := Tryz.isAgg267
 z227 := Tryz.sizeOf267
 v227 := Tryz.zeroValue267
 g0 := by kernel_rfl
 g6 := by kernel_rfl }
open Go.RowKit Go.Lib in
theorem Tryz.strings_Fields (s : ByteArray) (w : World) (hs : s.size < 4294967281) (hascii : ∀ (j : Nat) b,s.data.toList[j]? = some b → b.toNat < 128) (htab : Lib.TabIs Tryz.prog w "strings.asciiSpace" .u8 Lib.asciiSpaceTab) :
  Calls Tryz.prog 107 #[.string s] w fun e w' =>
   e = .returned (.slice (some ⟨w.heap.size,0,none⟩) (Lib.fields s.data.toList).length (Lib.fields s.data.toList).length) ∧ w' = w.alloc (.cells ((Lib.fields s.data.toList).map fun l => Value.string ⟨l.toArray⟩).toArray 9) := Any.strings_Fields Tryz.lays157 (by kernel_rfl) (by kernel_rfl) s w hs hascii htab
end Go.Proofs
namespace Go.Ev.Cl
open Go.Proofs
def impF : List Nat := [91,125,130,141,142,150,159,163,165,167,180,184]
def impC : List (Nat × Nat × Nat) := [(79,86,19),(117,118,8)]
def altF : List Nat := []
def altC : List (Nat × Nat) := []
def keepF : Nat → List Nat
 | 2 => []
 | 3 => [0,1,2,4,6,3,36,9,5,10,11,13,12,14,15,17,16,18,19,21,20,22,23,25,24,26,8]
 | 4 => [42,1,3,5,7,9,11,13,15,17,19,21,23,22,0]
 | 5 => [0,1,3,4,7,35,9,11,8,10,63,66,65,67,64,12,14,15,17,13,16,100,19,21,18,20,129,2,22,24,23,26,25,6]
 | 6 => [0,1,3,4,7,31,2,8,9,11,10,63,13,14,76,16,81,12,89,88,90,87,17,19,100,21,110,116,124,20,22,151,15,6]
 | 7 => [0,1,4,5,9,31,2,3,12,10,11,14,16,13,15,90,18,19,103,20,21,22,17,125,8]
 | 8 => [0,1,3,4,7,26,2,9,35,36,37,11,8,13,12,58,10,14,65,66,64,17,15,103,6]
 | 9 => [0,1,4,5,9,40,2,3,10,12,14,11,13,15,17,19,21,23,25,22,24,135,18,138,137,139,136,26,20,28,146,150,149,151,148,30,158,16,31,8]
 | 10 => [0,1,5,6,11,44,13,12,56,2,3,4,16,17,18,19,20,21,22,26,24,15,23,25,27,29,31,14,28,166,169,32,33,35,191,30,34,10]
 | 11 => [0,1,4,5,9,45,2,3,11,13,15,74,10,12,17,97,16,99,19,14,18,23,22,21,20,8]
 | 12 => [0,1,2,4,6,5,9,42,3,10,11,13,15,72,19,88,17,14,12,18,21,20,126,130,129,131,128,23,139,16,8]
 | 13 => [0,1,2,3,4,5,24,23,25,22,9,34,7,11,13,15,17,10,12,96,14,16,6]
 | 14 => [0,1,2,3,4,5,7,34,9,13,11,71,73,8,12,85,84,86,83,14,16,97,98,10,109,123,140,6]
 | 15 => [0,1,9,3,14,24,4,33,46,5,58,74,2]
 | 16 => [0,1,2]
 | 17 => [0,6,3,10,17,2]
 | 18 => [0,4,1,11,6,29,5,3,2]
 | 19 => [0,1,2,3,4,8,17,5,9,23,11,33,12,39,45,51,6,7]
 | 20 => [0,1,2,3,4,8,14,5,18,23,9,29,35,41,6,7]
 | 21 => [0,1,2,6,14,3,7,20,26,25,27,24,8,10,4,5]
 | 22 => [0,1,2,6,20,3,24,11,7,9,13,52,16,14,67,78,12,15,4,5]
 | 23 => [0,1,3,4,8,23,2,9,28,10,36,35,37,34,11,13,45,44,46,43,15,54,53,55,52,18,60,16,6,7]
 | 24 => [0,1,3,4,9,22,2,10,27,12,8,32,14,38,13,54,11,6,7]
 | 25 => [0,4,10,14,13,15,6,24,5,2,3]
 | 26 => [0,4,12,6,17,8,22,7,37,5,2,3]
 | 27 => [0,1,10,5,14,25,4]
 | 28 => [0,1,10,5,14,25,4]
 | 29 => [0,1,2,3,15,5,20,6,7,46,8,51,65,4]
 | 30 => [0,1,10,5,14,25,4]
 | 31 => [3,2,1,4,6,5,8,7,10,9,12,11,14,13,16,15,0]
 | 32 => [0,1,5,12,11,2,3,4,10]
 | 33 => [0,1,2,6]
 | 34 => [0]
 | 35 => [0,1,2,3,4,5,9,21,6,8,25,31,30,32,29,12,56,58,59,10,65,7]
 | 36 => [0]
 | 37 => [0,1,2,3,4,8,15,6,5,10,25,7]
 | 38 => [0,2]
 | 39 => [0,1,2,3,4,5,10,18,6,12,27,7,36,13,11,40,8,9]
 | 40 => [0,1,2,3,6,12,4,5]
 | 41 => [0,1,5,2]
 | 42 => [0,1,2,3,4]
 | 43 => [0,1,2,3,6,11,4,5]
 | 44 => [0,1,5,13,4,16,17,18,6,2,3]
 | 45 => [0,1,2,7,16,4,5,6,20,21,22,8,3,25,9]
 | 46 => [0,1,2,7,14,6,3,19,4,5]
 | 47 => [0,2,7,6,20,4,1,8,9,5]
 | 48 => [0,1,4,6,2]
 | 49 => [0,1,15,14,16,13,5,20,3,2]
 | 50 => [0,2,1,9,8,20,10,29,6,7,4,5]
 | 51 => [0,7,9,11,10,5,14,3,2]
 | 52 => [0,7,9,8,5,4,17,3,2]
 | 53 => [0,1,2,4,3]
 | 54 => [0,2,7,14,1,18,6,4,5]
 | 55 => [1,0,9,8,10,7,6,3,15,4]
 | 56 => [0,1,12,3,17,4,35,5,38,49,6,54,64,7,72,84,2]
 | 57 => [0,1,7,3,12,22,2]
 | 58 => [0,1,3,18,5,23,2,6,34,70,7,75,8,86,96,4]
 | 59 => [0,1,2,3,7,15,4,6,5]
 | 60 => [0,1,2,3,4,9,19,8,5,24,28,27,29,26,11,40,6,7]
 | 61 => [0,1,2,3,9,19,4]
 | 62 => [0,1,2,3,6,5,4]
 | 63 => [0,1,2,5,9,3,4]
 | 64 => [0,7,6,8,5,4,26,2]
 | 65 => [0,1,2,3,4,5,7,6]
 | 66 => [0,1,2,5,9,3,4]
 | 67 => [0,1,2,3,5,8,9,7,13,38,14,45,15,4,12,62,10,11,18,105,107,114,17,16,121,6]
 | 68 => [0,1,4,2]
 | 69 => [0,1,2,10,9,11,5,3,6,4]
 | 70 => [0,1,3,5,2,6,28,27,29,8,40,7,4]
 | 71 => [0,1,5,2]
 | 72 => [0,8,11,5,16,22,4,6,42,50,2,3]
 | 73 => [0,1,10,5,14,25,4]
 | 74 => [0,5,2]
 | 75 => [0,1,2,3,13,12,14,11,7,20,19,21,5,8,4]
 | 76 => [0,1,2,3,6,14,9,8,21,7,4,5]
 | 77 => [0,6,3,10,18,2]
 | 78 => [1,0,3,4]
 | 79 => [0,1,2,7,16,4,5,6,19,20,21,9,3,24,8]
 | 80 => [0,8,7,9,6,5,3,14,2]
 | 81 => [0,1,4]
 | 82 => [0,1,2,3,4]
 | 83 => [0,1,2]
 | 84 => [0,1,2]
 | 85 => [0,1,6,2,3]
 | 86 => [0,1,2]
 | 87 => [0,1,3,2,4]
 | 88 => [0,1,3,2,13,5,27,4]
 | 89 => [3,0,7,19,2]
 | 90 => [0,9,12,11,13,3,24,2]
 | 91 => [0,1,8,9,10,3,5,4,2]
 | 92 => [0,1,2,6]
 | 93 => [0,1,2,3,6,15,17,18,5,32,45,4]
 | 94 => [0,1,4,2,3,11,10,27,33,13,5,42,14,68,71,9,12,80,8]
 | 95 => [0,1,2,7,14,4,6,3,20,5]
 | 96 => [0,1,2,15,14,16,13,5,7,29,30,31,8,10,9,3,4]
 | 97 => [0,1,3,2,28,4,5]
 | 98 => [0,2]
 | 99 => [0,5,2,8,10,11,3,14]
 | 100 => [0,1,4,3,2,21,20,22,19,9,28,27,29,26,7,11,8,10,6]
 | 101 => [0,2,1,5,4]
 | 102 => [1,0,8,7,9,3,5,16,4]
 | 103 => [0,1,5,2]
 | 104 => [1,0,5,3,11,4]
 | 105 => [0,4,11,3,2]
 | 106 => [4,0,8,12,3,2]
 | 107 => [6,0,16,5,7,3,4,8,37,12,53,60,66,9,10,11,91,98,2]
 | 108 => [0,11,10,12,9,3,5,20,27,26,28,25,6,8,2]
 | 109 => [0,1,10,13,12,14,5,24,4]
 | 110 => [0,4,1,11,5,22,6,36,3,2]
 | 111 => [1,0,8,7,9,3,5,16,4]
 | 112 => [0,1,4]
 | 113 => [0,1,5,11,6,12,13,16,19,4]
 | 114 => [0,1,9,8,10,7,6,2,22,4]
 | 115 => [0,1,2,6]
 | 116 => [0,1,11,15,14,16,13,4,3,38,2]
 | 117 => [0,1,8,9,10,4,13,12,14,11,5,3,2,6,24]
 | 118 => [0,1,2]
 | 119 => [1,0,4]
 | 120 => [0,1,9,8,10,7,6,2,22,4]
 | 121 => [0,1,3,2,30,35,36,37,5,7,4]
 | 122 => [0,1,15,14,16,13,6,8,9,5,4]
 | 123 => [1,0,11,10,12,9,7,8,3,24,5,4]
 | 124 => [0,1,12,21,6,34,5,4]
 | 125 => [0,1,4]
 | 126 => [0,2,1,5,4]
 | 127 => [0,12,13,15,1,22,29,5,41,40,42,39,7,49,8,65,64,66,63,10,4]
 | 128 => [0,14,16,15,1,8,21,6,23,5,7,33,36,49,48,50,47,9,10,11,4]
 | 129 => [0,5,6,7,2]
 | 130 => [1,6,0,16,4]
 | 132 => [0,2]
 | 133 => [0,2]
 | 134 => [1,0,3,4]
 | 135 => [0,12,15,14,16,4,25,31,30,32,29,6,37,3,2]
 | 136 => [1,10,9,11,8,4,18,17,19,0,3,5,31]
 | 137 => [0,1,12,11,13,10,2,7,8,5,42,4]
 | 138 => [3,0,9,4,5,38,2]
 | 139 => [0,2]
 | 140 => [0]
 | 141 => [0,2,1,4]
 | 142 => [0,2,1,4]
 | 143 => [0,1,13,4]
 | 144 => [0,1,16,4]
 | 145 => [4,0,9,5,16,2,3]
 | 146 => [0,7,1,12,4]
 | 147 => [0,7,1,15,4]
 | 148 => [0,9,1,5,18,6,4]
 | 149 => [0,9,5,17,1,26,6,4]
 | 150 => [0,1,2,4,3,5,6]
 | 151 => [0]
 | 152 => [1,0,8,9,6,3,7,5,17,4]
 | 153 => [0,1,3,2,4]
 | 154 => [0,1,3,4,10,2,5]
 | 155 => [0,1,7,21]
 | 156 => [0,1,4,5]
 | 157 => [0,2]
 | 158 => [0,5,6,1,32,7,54,4]
 | 159 => [0,1,4]
 | 160 => [0,2,1,3]
 | 161 => [0,1,2,3,4]
 | 162 => [1,3,0,4]
 | 163 => [0,2,4]
 | 164 => [1,0,3,4]
 | 165 => [0,2,1,4]
 | 166 => [1,3,0,4]
 | 167 => [0,2,1,4]
 | 168 => [0,1,4]
 | 169 => [0,10,2,3]
 | 170 => [0,1,4]
 | 171 => [0,4,10,5,2,18,6,27,33,35,3,48]
 | 172 => [1,11,2,14,0,6,25,7,33,3,8,42]
 | 173 => [0,1,4]
 | 174 => [0,1,2,3,4]
 | 175 => [0,1,2,3,4]
 | 176 => [0,1,2,3,9,4]
 | 177 => [0,1,2]
 | 178 => [1,10,9,11,4,2,5,28,27,29,7,32,6,46,0,53]
 | 179 => [0,6,1,4]
 | 180 => [0,6,19]
 | 181 => [0,1,4]
 | 182 => [0,1,17,20,19,21,5,6,31,37,7,8,62,9,10,85,110,4]
 | 183 => [0,13,16,15,17,5,1,6,27,33,7,8,58,9,10,78,95,4]
 | 184 => [0,8,7,9,1,5,16,4]
 | 185 => [0,4,16,5,6,23,7,8,45,10,9,57,59,11,75,77,12,98,2,3]
 | 186 => [1,160,0,171,175,177,176,6,181,5,183,7,8,9,26,33,11,43,12,51,64,10,98,13,108,124,14,15,139,16,143,156,4]
 | 187 => [0,2]
 | 188 => [1,5,0,16,24,31,36,8,9,59,6,64,11,73,7,93,10,107,12,114,132,13,139,4]
 | 191 => [0,1,4]
 | 192 => [0,3,10,2]
 | 193 => [0,2]
 | 195 => [0,1,4]
 | 196 => [1,9,7,20,8,0,5,39,10,44,6,77,4]
 | 198 => [5,0,12,4,8,25,30,6,7,2,3]
 | 226 => []
 | _ => []
def isImp (me f : Nat) (d : Option Nat) : Bool := impF.any (Nat.beq f) || impC.any fun t => Nat.beq t.1 me && Nat.beq t.2.1 f && (match d with | some d => Nat.beq t.2.2 d | none => false)
noncomputable def CC : Cfg := { P := Tryz.prog,pure := fun me f d => !(isImp me f d),alter := fun me d => altF.any (Nat.beq me) || (match d with | some d => altC.any fun t => Nat.beq t.1 me && Nat.beq t.2 d | none => false),keep := keepF,ext := fun f' => if Nat.beq f' 107 then some fieldsA else if Nat.beq f' 127 then some joinStr else if Nat.beq f' 197 then some idxStr else if Nat.beq f' 131 then some cmpStr else none }
theorem mixedC : CC.P.follows .mixedOrders = true := by show Tryz.prog.follows .mixedOrders = true;kernel_rfl
theorem nogo_allC : (Tryz.prog.funcs.toList.all fun fn => !(fn.body.isSome && (fn.name == "runtime.NumGoroutine"))) = true := by kernel_rfl
theorem nogoC : NoGo CC.P := by
 intro f fn hf hb
 have h := List.all_eq_true.1 nogo_allC fn (by
  have : Tryz.prog.funcs[f]? = some fn := hf
  exact List.mem_of_getElem? (by simpa using this))
 rw [hb] at h
 simpa using h
theorem extOKZ : ExtOK { CC with ext := fun _ => none,exh := fun _ => none } := by
 exact ⟨fun _ _ h => (nomatch h),fun _ _ h => (nomatch h),fun _ _ h => (nomatch h)⟩
theorem extOKN : ExtOK (CC.more fun _ => none) := extOKZ
theorem extOKE0 : ExtOK (CC.more (fun f' => if Nat.beq f' 131 then some cmpStr else none)) := by
 refine extOK_more (C := CC.more (fun _ => none)) (f := 131) (g := cmpStr) rfl ?_ extOKN rfl
 intro args v h Z ρ H w vals hs hl
 exact ext_cmp (fn := Tryz.f131) Tryz.func131 (by kernel_rfl) (by kernel_rfl) (by kernel_rfl) (by kernel_rfl) h Z ρ H w vals hs hl
theorem extOKE1 : ExtOK (CC.more (fun f' => if Nat.beq f' 197 then some idxStr else if Nat.beq f' 131 then some cmpStr else none)) := by
 refine extOK_more (C := CC.more (fun f' => if Nat.beq f' 131 then some cmpStr else none)) (f := 197) (g := idxStr) rfl ?_ extOKE0 rfl
 intro args v h Z ρ H w vals hs hl
 exact ext_idx (fn := Tryz.f197) Tryz.func197 (by kernel_rfl) (by kernel_rfl) (by kernel_rfl) (by kernel_rfl) h Z ρ H w vals hs hl
theorem extOKE2 : ExtOK (CC.more (fun f' => if Nat.beq f' 127 then some joinStr else if Nat.beq f' 197 then some idxStr else if Nat.beq f' 131 then some cmpStr else none)) := by
 refine extOK_more (C := CC.more (fun f' => if Nat.beq f' 197 then some idxStr else if Nat.beq f' 131 then some cmpStr else none)) (f := 127) (g := joinStr) rfl ?_ extOKE1 rfl
 intro args v h Z ρ H w vals hs hl
 exact ext_join Go.Proofs.Tryz.lays156 Go.Proofs.Tryz.Builder_Extra_156 (f := 127) rfl ⟨_,Tryz.func127,by kernel_rfl,by kernel_rfl⟩ h Z ρ H w vals hs hl
theorem extOKE3 : ExtOK (CC.more (fun f' => if Nat.beq f' 107 then some fieldsA else if Nat.beq f' 127 then some joinStr else if Nat.beq f' 197 then some idxStr else if Nat.beq f' 131 then some cmpStr else none)) := by
 refine extOK_more (C := CC.more (fun f' => if Nat.beq f' 127 then some joinStr else if Nat.beq f' 197 then some idxStr else if Nat.beq f' 131 then some cmpStr else none)) (f := 107) (g := fieldsA) rfl ?_ extOKE2 rfl
 intro args v h Z ρ H w vals hs hl
 exact ext_fields Go.Proofs.Tryz.lays157 (by kernel_rfl) (by kernel_rfl) (List.mem_singleton.2 rfl) (f := 107) rfl ⟨_,Tryz.func107,by kernel_rfl,by kernel_rfl⟩ h Z ρ H w vals hs hl
theorem extOKC : ExtOK CC := extOKE3
abbrev Good (t : Tell) : Prop := GoodC CC t
theorem good {t : Tell} (T : List Tell) (hT : AllG CC T) (TH : List TellH) (hH : AllH CC TH) (h : ansC (evT (CC.more2 (tabExt CC.ext T) (tabExh CC.exh T TH)) 1000 (.call t.f t.K { objs := [],lock := 0 })) = some t.R) (hb : boundL t.K = 0) : Good t :=
 goodC nogoC mixedC extOKC T hT TH hH 1000 h hb
end Go.Ev.Cl
namespace Go.Ev.Cl
def q0 : AV := .v (.string ⟨⟨[116,104,101]⟩⟩)
def q1 : AV := .v (.string ⟨⟨[115,101,97]⟩⟩)
def q2 : AV := .v (.string ⟨⟨[105,115]⟩⟩)
def q3 : AV := .v (.string ⟨⟨[111,108,100]⟩⟩)
def q4 : AV := .vs 1 [q0,q1,q2,q3] (some 4)
def q5 : AV := .vs 1 [q3,q0,q1] (some 3)
def q6 : AV := .vs 1 [q4,q5] (some 2)
def q7 : AV := .v (.string ⟨⟨[97,110,100]⟩⟩)
def q8 : AV := .vs 1 [q1,q7,q1] (some 3)
def q9 : AV := .vs 1 [q8] (some 1)
def q10 : AV := .v (.int .i64 7)
def q11 : AV := .v (.int .i64 3)
def q12 : AV := .agg [.vs 2 [.agg [q10,q6],.agg [q11,q9]] (some 2)]
def q13 : AV := .v (.int .i64 0)
def q14 : AV := .tup [q12,q13]
def q15 : AV := .v (.int .i64 14)
def q16 : AV := .v (.int .u8 3)
def q17 : AV := .agg [q15,q16]
def q18 : AV := .vs 1 [q0,q1,q2,q3,q3,q0,q1] none
def q19 : AV := .agg [q13,q13,q13]
def q20 : AV := .v (.int .i64 1)
def q21 : AV := .agg [q13,q13,q20]
def q22 : AV := .v (.int .i64 2)
def q23 : AV := .agg [q13,q13,q22]
def q24 : AV := .agg [q13,q13,q11]
def q25 : AV := .agg [q13,q20,q13]
def q26 : AV := .agg [q13,q20,q20]
def q27 : AV := .agg [q13,q20,q22]
def q28 : AV := .vs 3 [q19,q21,q23,q24,q25,q26,q27] none
def q29 : AV := .agg [q15,q16,q18,q28]
def q30 : AV := .vs 1 [q1,q7,q1] none
def q31 : AV := .agg [q20,q13,q13]
def q32 : AV := .agg [q20,q13,q20]
def q33 : AV := .agg [q20,q13,q22]
def q34 : AV := .vs 3 [q31,q32,q33] none
def q35 : AV := .agg [q15,q16,q30,q34]
def q36 : AV := .agg [q13,q11,q15]
def q37 : AV := .v (.string ⟨⟨[]⟩⟩)
def q38 : AV := .v (.string ⟨⟨[115,101,97,32,105,115,32,111,108,100]⟩⟩)
def q39 : AV := .agg [q13,q13,q13,q0,q37,q38]
def q40 : AV := .agg [q20,q22,q15]
def q41 : AV := .v (.string ⟨⟨[105,115,32,111,108,100]⟩⟩)
def q42 : AV := .agg [q13,q13,q20,q1,q0,q41]
def q43 : AV := .agg [q22,q20,q15]
def q44 : AV := .v (.string ⟨⟨[111,108,100,32,111,108,100]⟩⟩)
def q45 : AV := .agg [q13,q13,q22,q2,q1,q44]
def q46 : AV := .agg [q11,q13,q15]
def q47 : AV := .v (.string ⟨⟨[111,108,100,32,116,104,101]⟩⟩)
def q48 : AV := .agg [q13,q13,q11,q3,q2,q47]
def q49 : AV := .v (.int .i64 11)
def q50 : AV := .agg [q20,q20,q49]
def q51 : AV := .agg [q13,q22,q49]
def q52 : AV := .v (.int .i64 4)
def q53 : AV := .agg [q13,q20,q13,q3,q41,q0]
def q54 : AV := .agg [q22,q13,q49]
def q55 : AV := .v (.int .i64 5)
def q56 : AV := .v (.string ⟨⟨[105,115,32,111,108,100,32,111,108,100]⟩⟩)
def q57 : AV := .agg [q13,q20,q20,q0,q56,q37]
def q58 : AV := .v (.int .i64 6)
def q59 : AV := .agg [q13,q20,q22,q1,q47,q37]
def q60 : AV := .v (.string ⟨⟨[97,110,100,32,115,101,97]⟩⟩)
def q61 : AV := .agg [q20,q13,q13,q1,q37,q60]
def q62 : AV := .agg [q20,q13,q20,q7,q1,q1]
def q63 : AV := .v (.string ⟨⟨[115,101,97,32,97,110,100]⟩⟩)
def q64 : AV := .agg [q20,q13,q22,q1,q63,q37]
def q65 : AV := .vs 6 [q39,q42,q45,q48,q53,q57,q59,q61,q62,q64] none
def q66 : AV := .vs 6 [q59,q61] none
def q67 : AV := .v (.string ⟨⟨[97,98,99,100,101,102,103,104,105,106,107,108,109,110,111,112,113,114,115,116,117,118,119,120,121,122]⟩⟩)
def q68 : AV := .agg [q13,q13,q13,q1,q0,q37]
def q69 : AV := .v (.int .u8 0)
def q70 : AV := .agg [q13,q69]
def q71 : AV := .agg [q13,q69,q18,q28]
def q72 : AV := .agg [q13,q69,q30,q34]
def q73 : AV := .vs 3 [q21,q27] none
def q74 : AV := .v (.string ⟨⟨[99,111,108,100]⟩⟩)
def q75 : AV := .agg [q13,q13,q11,q16,q74]
def q76 : AV := .v (.int .u8 1)
def q77 : AV := .agg [q13,q20,q20,q76,q37]
def q78 : AV := .agg [q20,q13,q11]
def q79 : AV := .v (.string ⟨⟨[115,97,108,116]⟩⟩)
def q80 : AV := .agg [q20,q13,q11,.v (.int .u8 2),q79]
def q81 : AV := .vs 5 [q75,q77,q80] (some 3)
def q82 : AV := .v (.int .i64 (-1))
def q83 : AV := .vs 5 [q75] none
def q84 : AV := .vs 1 [q0,q1,q2,q74] none
def q85 : AV := .vs 5 [q77] none
def q86 : AV := .vs 1 [q3,q1] none
def q87 : AV := .vs 5 [q80] none
def q88 : AV := .vs 1 [q1,q7,q1,q79] none
def q89 : AV := .agg [q52,q81]
def q90 : AV := .v (.string ⟨⟨[97]⟩⟩)
def q91 : AV := .v (.string ⟨⟨[98]⟩⟩)
def q92 : AV := .agg [q13,q13,q13,q90,q37,q37]
def q93 : AV := .agg [q13,q13,q13,q91,q37,q37]
def q94 : AV := .agg [q13,q13,q22,q2,q1,q3]
def q95 : AV := .vs 6 [q92,q92] (some 2)
def q96 : AV := .agg [q15,q76]
def q97 : AV := .agg [q15,q76,q18,q28]
def q98 : AV := .agg [q13,q20,q13,q3,q38,q37]
def t0 : Tell := ⟨90,[q0],(.v (.bool true))⟩
def t1 : Tell := ⟨90,[q1],(.v (.bool true))⟩
def t2 : Tell := ⟨90,[q2],(.v (.bool true))⟩
def t3 : Tell := ⟨90,[q3],(.v (.bool true))⟩
def t4 : Tell := ⟨135,[q6],(.v (.bool true))⟩
def t5 : Tell := ⟨90,[q7],(.v (.bool true))⟩
def t6 : Tell := ⟨135,[q9],(.v (.bool true))⟩
def t7 : Tell := ⟨116,[q12],(.v (.bool true))⟩
def t8 : Tell := ⟨85,[q12],q14⟩
def t9 : Tell := ⟨68,[q12],q13⟩
def t10 : Tell := ⟨83,[q17],(.v (.bool true))⟩
def t11 : Tell := ⟨41,[q17],q13⟩
def t12 : Tell := ⟨63,[q12,q17],q13⟩
def t13 : Tell := ⟨100,[q12,q17,q13],q29⟩
def t14 : Tell := ⟨100,[q12,q17,q20],q35⟩
def t15 : Tell := ⟨69,[q12,q17],(.vs 4 [q29,q35] none)⟩
def t16 : Tell := ⟨126,[q29,q13],q36⟩
def t17 : Tell := ⟨101,[q29,q13],q39⟩
def t18 : Tell := ⟨176,[q40,q36],(.v (.bool true))⟩
def t19 : Tell := ⟨126,[q29,q20],q40⟩
def t20 : Tell := ⟨101,[q29,q20],q42⟩
def t21 : Tell := ⟨176,[q43,q40],(.v (.bool false))⟩
def t22 : Tell := ⟨126,[q29,q22],q40⟩
def t23 : Tell := ⟨101,[q29,q22],q45⟩
def t24 : Tell := ⟨176,[q46,q40],(.v (.bool false))⟩
def t25 : Tell := ⟨126,[q29,q11],q40⟩
def t26 : Tell := ⟨101,[q29,q11],q48⟩
def t27 : Tell := ⟨176,[q50,q51],(.v (.bool true))⟩
def t28 : Tell := ⟨176,[q46,q43],(.v (.bool false))⟩
def t29 : Tell := ⟨126,[q29,q52],q43⟩
def t30 : Tell := ⟨101,[q29,q52],q53⟩
def t31 : Tell := ⟨176,[.agg [q20,q13,q10],.agg [q13,q20,q10]],(.v (.bool false))⟩
def t32 : Tell := ⟨176,[q54,q50],(.v (.bool false))⟩
def t33 : Tell := ⟨126,[q29,q55],q46⟩
def t34 : Tell := ⟨101,[q29,q55],q57⟩
def t35 : Tell := ⟨126,[q29,q58],q54⟩
def t36 : Tell := ⟨101,[q29,q58],q59⟩
def t37 : Tell := ⟨126,[q35,q13],q51⟩
def t38 : Tell := ⟨101,[q35,q13],q61⟩
def t39 : Tell := ⟨126,[q35,q20],q50⟩
def t40 : Tell := ⟨101,[q35,q20],q62⟩
def t41 : Tell := ⟨126,[q35,q22],q54⟩
def t42 : Tell := ⟨101,[q35,q22],q64⟩
def t43 : Tell := ⟨75,[q12,q17],q65⟩
def t44 : Tell := ⟨43,[q12,q17],(.tup [q65,q13])⟩
def t45 : Tell := ⟨79,[q12,q27],(.tup [q58,q13])⟩
def t46 : Tell := ⟨79,[q12,q31],(.tup [q10,q13])⟩
def t47 : Tell := ⟨39,[q12,q17,q27,q31],(.tup [q66,q13])⟩
def t48 : Tell := ⟨145,[q67],(.tup [.agg [.v (.bool false),.v (.bool false),.v (.bool false),.v (.bool false),.v (.bool false),.v (.bool false),.v (.bool false),.v (.bool false),.v (.bool false),.v (.bool false),.v (.bool false),.v (.bool false),.v (.bool false),.v (.bool false),.v (.bool false),.v (.bool false),.v (.bool false),.v (.bool false),.v (.bool false),.v (.bool false),.v (.bool false),.v (.bool false),.v (.bool false),.v (.bool false),.v (.bool false),.v (.bool false),.v (.bool false),.v (.bool false),.v (.bool false),.v (.bool false),.v (.bool false),.v (.bool false),.v (.bool false),.v (.bool false),.v (.bool false),.v (.bool false),.v (.bool false),.v (.bool false),.v (.bool false),.v (.bool false),.v (.bool false),.v (.bool false),.v (.bool false),.v (.bool false),.v (.bool false),.v (.bool false),.v (.bool false),.v (.bool false),.v (.bool false),.v (.bool false),.v (.bool false),.v (.bool false),.v (.bool false),.v (.bool false),.v (.bool false),.v (.bool false),.v (.bool false),.v (.bool false),.v (.bool false),.v (.bool false),.v (.bool false),.v (.bool false),.v (.bool false),.v (.bool false),.v (.bool false),.v (.bool false),.v (.bool false),.v (.bool false),.v (.bool false),.v (.bool false),.v (.bool false),.v (.bool false),.v (.bool false),.v (.bool false),.v (.bool false),.v (.bool false),.v (.bool false),.v (.bool false),.v (.bool false),.v (.bool false),.v (.bool false),.v (.bool false),.v (.bool false),.v (.bool false),.v (.bool false),.v (.bool false),.v (.bool false),.v (.bool false),.v (.bool false),.v (.bool false),.v (.bool false),.v (.bool false),.v (.bool false),.v (.bool false),.v (.bool false),.v (.bool false),.v (.bool false),.v (.bool true),.v (.bool true),.v (.bool true),.v (.bool true),.v (.bool true),.v (.bool true),.v (.bool true),.v (.bool true),.v (.bool true),.v (.bool true),.v (.bool true),.v (.bool true),.v (.bool true),.v (.bool true),.v (.bool true),.v (.bool true),.v (.bool true),.v (.bool true),.v (.bool true),.v (.bool true),.v (.bool true),.v (.bool true),.v (.bool true),.v (.bool true),.v (.bool true),.v (.bool true),.v (.bool false),.v (.bool false),.v (.bool false),.v (.bool false),.v (.bool false),.v (.bool false),.v (.bool false),.v (.bool false),.v (.bool false),.v (.bool false),.v (.bool false),.v (.bool false),.v (.bool false),.v (.bool false),.v (.bool false),.v (.bool false),.v (.bool false),.v (.bool false),.v (.bool false),.v (.bool false),.v (.bool false),.v (.bool false),.v (.bool false),.v (.bool false),.v (.bool false),.v (.bool false),.v (.bool false),.v (.bool false),.v (.bool false),.v (.bool false),.v (.bool false),.v (.bool false),.v (.bool false),.v (.bool false),.v (.bool false),.v (.bool false),.v (.bool false),.v (.bool false),.v (.bool false),.v (.bool false),.v (.bool false),.v (.bool false),.v (.bool false),.v (.bool false),.v (.bool false),.v (.bool false),.v (.bool false),.v (.bool false),.v (.bool false),.v (.bool false),.v (.bool false),.v (.bool false),.v (.bool false),.v (.bool false),.v (.bool false),.v (.bool false),.v (.bool false),.v (.bool false),.v (.bool false),.v (.bool false),.v (.bool false),.v (.bool false),.v (.bool false),.v (.bool false),.v (.bool false),.v (.bool false),.v (.bool false),.v (.bool false),.v (.bool false),.v (.bool false),.v (.bool false),.v (.bool false),.v (.bool false),.v (.bool false),.v (.bool false),.v (.bool false),.v (.bool false),.v (.bool false),.v (.bool false),.v (.bool false),.v (.bool false),.v (.bool false),.v (.bool false),.v (.bool false),.v (.bool false),.v (.bool false),.v (.bool false),.v (.bool false),.v (.bool false),.v (.bool false),.v (.bool false),.v (.bool false),.v (.bool false),.v (.bool false),.v (.bool false),.v (.bool false),.v (.bool false),.v (.bool false),.v (.bool false),.v (.bool false),.v (.bool false),.v (.bool false),.v (.bool false),.v (.bool false),.v (.bool false),.v (.bool false),.v (.bool false),.v (.bool false),.v (.bool false),.v (.bool false),.v (.bool false),.v (.bool false),.v (.bool false),.v (.bool false),.v (.bool false),.v (.bool false),.v (.bool false),.v (.bool false),.v (.bool false),.v (.bool false),.v (.bool false),.v (.bool false),.v (.bool false),.v (.bool false),.v (.bool false),.v (.bool false),.v (.bool false),.v (.bool false),.v (.bool false),.v (.bool false),.v (.bool false),.v (.bool false),.v (.bool false)],.v (.bool true)])⟩
def t49 : Tell := ⟨124,[q1,q67],q37⟩
def t50 : Tell := ⟨98,[q1],(.v (.bool true))⟩
def t51 : Tell := ⟨124,[q0,q67],q37⟩
def t52 : Tell := ⟨98,[q0],(.v (.bool true))⟩
def t53 : Tell := ⟨99,[q0],(.v (.bool true))⟩
def t54 : Tell := ⟨99,[q37],(.v (.bool true))⟩
def t55 : Tell := ⟨64,[.vs 6 [q68] (some 1)],q13⟩
def t56 : Tell := ⟨100,[q12,q70,q13],q71⟩
def t57 : Tell := ⟨100,[q12,q70,q20],q72⟩
def t58 : Tell := ⟨69,[q12,q70],(.vs 4 [q71,q72] none)⟩
def t59 : Tell := ⟨108,[.vs 1 [.vs 1 [q0] (some 1),.vs 1 [q1] (some 1),.vs 1 [] (some 0)] (some 3)],(.vs 1 [q0,q1] none)⟩
def t60 : Tell := ⟨70,[q71,q68],q73⟩
def t61 : Tell := ⟨70,[q72,q68],(.v (.slice none 0 0))⟩
def t62 : Tell := ⟨21,[q12,q68],(.tup [q73,q13])⟩
def t63 : Tell := ⟨88,[q12,q24],q4⟩
def t64 : Tell := ⟨90,[q74],(.v (.bool true))⟩
def t65 : Tell := ⟨166,[q4,q75],(.v (.bool true))⟩
def t66 : Tell := ⟨88,[q12,q26],q5⟩
def t67 : Tell := ⟨162,[q5,q77],(.v (.bool true))⟩
def t68 : Tell := ⟨88,[q12,q78],q8⟩
def t69 : Tell := ⟨90,[q79],(.v (.bool true))⟩
def t70 : Tell := ⟨164,[q8,q80],(.v (.bool true))⟩
def t71 : Tell := ⟨137,[q12,q81],(.v (.bool true))⟩
def t72 : Tell := ⟨161,[q24,q26],q82⟩
def t73 : Tell := ⟨161,[q26,q78],q82⟩
def t74 : Tell := ⟨138,[q81],(.v (.bool true))⟩
def t75 : Tell := ⟨123,[q81,q19],q83⟩
def t76 : Tell := ⟨122,[q4,q83],q84⟩
def t77 : Tell := ⟨123,[q81,q25],q85⟩
def t78 : Tell := ⟨122,[q5,q85],q86⟩
def t79 : Tell := ⟨123,[q81,q31],q87⟩
def t80 : Tell := ⟨122,[q8,q87],q88⟩
def t81 : Tell := ⟨96,[q12,q89],(.agg [.vs 2 [.agg [q10,.vs 1 [q84,q86] none],.agg [q11,.vs 1 [q88] none]] none])⟩
def t82 : Tell := ⟨121,[q12,q89],(.v (.bool true))⟩
def t83 : Tell := ⟨95,[q12,q89],q14⟩
def t84 : Tell := ⟨88,[q12,q27],q5⟩
def t85 : Tell := ⟨87,[q12,q27],(.v (.bool true))⟩
def t86 : Tell := ⟨60,[q12,q89,q27],(.tup [q1,q13])⟩
def t87 : Tell := ⟨35,[q12,q89,q27],(.tup [q26,q13])⟩
def t88 : Tell := ⟨124,[q3,q67],q37⟩
def t89 : Tell := ⟨98,[q3],(.v (.bool true))⟩
def t90 : Tell := ⟨99,[q47],(.v (.bool true))⟩
def t91 : Tell := ⟨124,[q7,q67],q37⟩
def t92 : Tell := ⟨98,[q7],(.v (.bool true))⟩
def t93 : Tell := ⟨99,[q60],(.v (.bool true))⟩
def t94 : Tell := ⟨64,[q66],q13⟩
def t95 : Tell := ⟨74,[q66],q13⟩
def t96 : Tell := ⟨23,[q12,q17,q66],(.tup [.vs 3 [q19,q21,q23,q24,q25,q26,q32,q33] none,q13])⟩
def t97 : Tell := ⟨124,[q90,q67],q37⟩
def t98 : Tell := ⟨98,[q90],(.v (.bool true))⟩
def t99 : Tell := ⟨124,[q91,q67],q37⟩
def t100 : Tell := ⟨98,[q91],(.v (.bool true))⟩
def t101 : Tell := ⟨64,[.vs 6 [q92,q93] (some 2)],q13⟩
def t102 : Tell := ⟨82,[q19,q19],q13⟩
def t103 : Tell := ⟨40,[q92,q93],(.tup [q82,q13])⟩
def t104 : Tell := ⟨124,[q2,q67],q37⟩
def t105 : Tell := ⟨98,[q2],(.v (.bool true))⟩
def t106 : Tell := ⟨99,[q1],(.v (.bool true))⟩
def t107 : Tell := ⟨99,[q3],(.v (.bool true))⟩
def t108 : Tell := ⟨64,[.vs 6 [q94] (some 1)],q13⟩
def t109 : Tell := ⟨88,[q12,q23],q4⟩
def t110 : Tell := ⟨87,[q12,q23],(.v (.bool true))⟩
def t111 : Tell := ⟨46,[q12,q23],(.tup [q2,q13])⟩
def t112 : Tell := ⟨102,[q28,q23],q22⟩
def t113 : Tell := ⟨65,[q12,q17,q23],q45⟩
def t114 : Tell := ⟨19,[q12,q17,q94],(.tup [.v (.int .u8 4),q13])⟩
def t115 : Tell := ⟨64,[q95],q13⟩
def t116 : Tell := ⟨74,[q95],q13⟩
def t117 : Tell := ⟨25,[q95],(.tup [.vs 1 [q20] none,q13])⟩
def t118 : Tell := ⟨37,[q12,q17,q23],(.tup [q45,q13])⟩
def t119 : Tell := ⟨32,[q23,q16,q2,q1,q44],(.v (.bool true))⟩
def t120 : Tell := ⟨83,[q96],(.v (.bool true))⟩
def t121 : Tell := ⟨41,[q96],q13⟩
def t122 : Tell := ⟨63,[q12,q96],q13⟩
def t123 : Tell := ⟨88,[q12,q25],q5⟩
def t124 : Tell := ⟨87,[q12,q25],(.v (.bool true))⟩
def t125 : Tell := ⟨46,[q12,q25],(.tup [q3,q13])⟩
def t126 : Tell := ⟨100,[q12,q96,q13],q97⟩
def t127 : Tell := ⟨102,[q28,q25],q52⟩
def t128 : Tell := ⟨126,[q97,q52],q46⟩
def t129 : Tell := ⟨101,[q97,q52],q98⟩
def t130 : Tell := ⟨65,[q12,q96,q25],q98⟩
def t131 : Tell := ⟨37,[q12,q96,q25],(.tup [q98,q13])⟩
def t132 : Tell := ⟨32,[q25,q76,q3,q38,q37],(.v (.bool true))⟩
def t133 : Tell := ⟨27,[q73,.vs 3 [q21,q27] (some 2)],(.v (.bool true))⟩
end Go.Ev.Cl
namespace Go.Ev.Cl
theorem g0 : Good t0 := good [] trivial [] trivial (by kernel_rfl) (by kernel_rfl)
theorem g1 : Good t1 := good [] trivial [] trivial (by kernel_rfl) (by kernel_rfl)
theorem g2 : Good t2 := good [] trivial [] trivial (by kernel_rfl) (by kernel_rfl)
theorem g3 : Good t3 := good [] trivial [] trivial (by kernel_rfl) (by kernel_rfl)
theorem g4 : Good t4 := good [t0,t1,t2,t3] ⟨g0,g1,g2,g3,trivial⟩ [] trivial (by kernel_rfl) (by kernel_rfl)
theorem g5 : Good t5 := good [] trivial [] trivial (by kernel_rfl) (by kernel_rfl)
theorem g6 : Good t6 := good [t1,t5] ⟨g1,g5,trivial⟩ [] trivial (by kernel_rfl) (by kernel_rfl)
theorem g7 : Good t7 := good [t4,t6] ⟨g4,g6,trivial⟩ [] trivial (by kernel_rfl) (by kernel_rfl)
theorem g8 : Good t8 := good [t7] ⟨g7,trivial⟩ [] trivial (by kernel_rfl) (by kernel_rfl)
theorem g9 : Good t9 := good [t8] ⟨g8,trivial⟩ [] trivial (by kernel_rfl) (by kernel_rfl)
theorem g10 : Good t10 := good [] trivial [] trivial (by kernel_rfl) (by kernel_rfl)
theorem g11 : Good t11 := good [t10] ⟨g10,trivial⟩ [] trivial (by kernel_rfl) (by kernel_rfl)
theorem g12 : Good t12 := good [t9,t11] ⟨g9,g11,trivial⟩ [] trivial (by kernel_rfl) (by kernel_rfl)
theorem g13 : Good t13 := good [] trivial [] trivial (by kernel_rfl) (by kernel_rfl)
theorem g14 : Good t14 := good [] trivial [] trivial (by kernel_rfl) (by kernel_rfl)
theorem g15 : Good t15 := good [t13,t14] ⟨g13,g14,trivial⟩ [] trivial (by kernel_rfl) (by kernel_rfl)
theorem g16 : Good t16 := good [] trivial [] trivial (by kernel_rfl) (by kernel_rfl)
theorem g17 : Good t17 := good [t16] ⟨g16,trivial⟩ [] trivial (by kernel_rfl) (by kernel_rfl)
theorem g18 : Good t18 := good [] trivial [] trivial (by kernel_rfl) (by kernel_rfl)
theorem g19 : Good t19 := good [t18] ⟨g18,trivial⟩ [] trivial (by kernel_rfl) (by kernel_rfl)
theorem g20 : Good t20 := good [t19] ⟨g19,trivial⟩ [] trivial (by kernel_rfl) (by kernel_rfl)
theorem g21 : Good t21 := good [] trivial [] trivial (by kernel_rfl) (by kernel_rfl)
theorem g22 : Good t22 := good [t18,t21] ⟨g18,g21,trivial⟩ [] trivial (by kernel_rfl) (by kernel_rfl)
theorem g23 : Good t23 := good [t22] ⟨g22,trivial⟩ [] trivial (by kernel_rfl) (by kernel_rfl)
theorem g24 : Good t24 := good [] trivial [] trivial (by kernel_rfl) (by kernel_rfl)
theorem g25 : Good t25 := good [t21,t24] ⟨g21,g24,trivial⟩ [] trivial (by kernel_rfl) (by kernel_rfl)
theorem g26 : Good t26 := good [t25] ⟨g25,trivial⟩ [] trivial (by kernel_rfl) (by kernel_rfl)
theorem g27 : Good t27 := good [] trivial [] trivial (by kernel_rfl) (by kernel_rfl)
theorem g28 : Good t28 := good [] trivial [] trivial (by kernel_rfl) (by kernel_rfl)
theorem g29 : Good t29 := good [t27,t28] ⟨g27,g28,trivial⟩ [] trivial (by kernel_rfl) (by kernel_rfl)
theorem g30 : Good t30 := good [t29] ⟨g29,trivial⟩ [] trivial (by kernel_rfl) (by kernel_rfl)
theorem g31 : Good t31 := good [] trivial [] trivial (by kernel_rfl) (by kernel_rfl)
theorem g32 : Good t32 := good [] trivial [] trivial (by kernel_rfl) (by kernel_rfl)
theorem g33 : Good t33 := good [t31,t32] ⟨g31,g32,trivial⟩ [] trivial (by kernel_rfl) (by kernel_rfl)
theorem g34 : Good t34 := good [t33] ⟨g33,trivial⟩ [] trivial (by kernel_rfl) (by kernel_rfl)
theorem g35 : Good t35 := good [] trivial [] trivial (by kernel_rfl) (by kernel_rfl)
theorem g36 : Good t36 := good [t35] ⟨g35,trivial⟩ [] trivial (by kernel_rfl) (by kernel_rfl)
theorem g37 : Good t37 := good [] trivial [] trivial (by kernel_rfl) (by kernel_rfl)
theorem g38 : Good t38 := good [t37] ⟨g37,trivial⟩ [] trivial (by kernel_rfl) (by kernel_rfl)
theorem g39 : Good t39 := good [t31] ⟨g31,trivial⟩ [] trivial (by kernel_rfl) (by kernel_rfl)
theorem g40 : Good t40 := good [t39] ⟨g39,trivial⟩ [] trivial (by kernel_rfl) (by kernel_rfl)
theorem g41 : Good t41 := good [] trivial [] trivial (by kernel_rfl) (by kernel_rfl)
theorem g42 : Good t42 := good [t41] ⟨g41,trivial⟩ [] trivial (by kernel_rfl) (by kernel_rfl)
theorem g43 : Good t43 := good [t15,t17,t20,t23,t26,t30,t34,t36,t38,t40,t42] ⟨g15,g17,g20,g23,g26,g30,g34,g36,g38,g40,g42,trivial⟩ [] trivial (by kernel_rfl) (by kernel_rfl)
theorem g44 : Good t44 := good [t12,t43] ⟨g12,g43,trivial⟩ [] trivial (by kernel_rfl) (by kernel_rfl)
theorem g45 : Good t45 := good [t8] ⟨g8,trivial⟩ [] trivial (by kernel_rfl) (by kernel_rfl)
theorem g46 : Good t46 := good [t8] ⟨g8,trivial⟩ [] trivial (by kernel_rfl) (by kernel_rfl)
theorem g47 : Good t47 := good [t12,t43,t45,t46] ⟨g12,g43,g45,g46,trivial⟩ [] trivial (by kernel_rfl) (by kernel_rfl)
theorem g48 : Good t48 := good [] trivial [] trivial (by kernel_rfl) (by kernel_rfl)
theorem g49 : Good t49 := good [t48] ⟨g48,trivial⟩ [] trivial (by kernel_rfl) (by kernel_rfl)
theorem g50 : Good t50 := good [t49] ⟨g49,trivial⟩ [] trivial (by kernel_rfl) (by kernel_rfl)
theorem g51 : Good t51 := good [t48] ⟨g48,trivial⟩ [] trivial (by kernel_rfl) (by kernel_rfl)
theorem g52 : Good t52 := good [t51] ⟨g51,trivial⟩ [] trivial (by kernel_rfl) (by kernel_rfl)
theorem g53 : Good t53 := good [t52] ⟨g52,trivial⟩ [] trivial (by kernel_rfl) (by kernel_rfl)
theorem g54 : Good t54 := good [] trivial [] trivial (by kernel_rfl) (by kernel_rfl)
theorem g55 : Good t55 := good [t50,t53,t54] ⟨g50,g53,g54,trivial⟩ [] trivial (by kernel_rfl) (by kernel_rfl)
theorem g56 : Good t56 := good [] trivial [] trivial (by kernel_rfl) (by kernel_rfl)
theorem g57 : Good t57 := good [] trivial [] trivial (by kernel_rfl) (by kernel_rfl)
theorem g58 : Good t58 := good [t56,t57] ⟨g56,g57,trivial⟩ [] trivial (by kernel_rfl) (by kernel_rfl)
theorem g59 : Good t59 := good [] trivial [] trivial (by kernel_rfl) (by kernel_rfl)
theorem g60 : Good t60 := good [t59] ⟨g59,trivial⟩ [] trivial (by kernel_rfl) (by kernel_rfl)
theorem g61 : Good t61 := good [t59] ⟨g59,trivial⟩ [] trivial (by kernel_rfl) (by kernel_rfl)
theorem g62 : Good t62 := good [t9,t55,t58,t60,t61] ⟨g9,g55,g58,g60,g61,trivial⟩ [] trivial (by kernel_rfl) (by kernel_rfl)
theorem g63 : Good t63 := good [] trivial [] trivial (by kernel_rfl) (by kernel_rfl)
theorem g64 : Good t64 := good [] trivial [] trivial (by kernel_rfl) (by kernel_rfl)
theorem g65 : Good t65 := good [t64] ⟨g64,trivial⟩ [] trivial (by kernel_rfl) (by kernel_rfl)
theorem g66 : Good t66 := good [] trivial [] trivial (by kernel_rfl) (by kernel_rfl)
theorem g67 : Good t67 := good [] trivial [] trivial (by kernel_rfl) (by kernel_rfl)
theorem g68 : Good t68 := good [] trivial [] trivial (by kernel_rfl) (by kernel_rfl)
theorem g69 : Good t69 := good [] trivial [] trivial (by kernel_rfl) (by kernel_rfl)
theorem g70 : Good t70 := good [t69] ⟨g69,trivial⟩ [] trivial (by kernel_rfl) (by kernel_rfl)
theorem g71 : Good t71 := good [t63,t65,t66,t67,t68,t70] ⟨g63,g65,g66,g67,g68,g70,trivial⟩ [] trivial (by kernel_rfl) (by kernel_rfl)
theorem g72 : Good t72 := good [] trivial [] trivial (by kernel_rfl) (by kernel_rfl)
theorem g73 : Good t73 := good [] trivial [] trivial (by kernel_rfl) (by kernel_rfl)
theorem g74 : Good t74 := good [t72,t73] ⟨g72,g73,trivial⟩ [] trivial (by kernel_rfl) (by kernel_rfl)
theorem g75 : Good t75 := good [] trivial [] trivial (by kernel_rfl) (by kernel_rfl)
theorem g76 : Good t76 := good [] trivial [] trivial (by kernel_rfl) (by kernel_rfl)
theorem g77 : Good t77 := good [] trivial [] trivial (by kernel_rfl) (by kernel_rfl)
theorem g78 : Good t78 := good [] trivial [] trivial (by kernel_rfl) (by kernel_rfl)
theorem g79 : Good t79 := good [] trivial [] trivial (by kernel_rfl) (by kernel_rfl)
theorem g80 : Good t80 := good [] trivial [] trivial (by kernel_rfl) (by kernel_rfl)
theorem g81 : Good t81 := good [t75,t76,t77,t78,t79,t80] ⟨g75,g76,g77,g78,g79,g80,trivial⟩ [] trivial (by kernel_rfl) (by kernel_rfl)
theorem g82 : Good t82 := good [t71,t74,t81] ⟨g71,g74,g81,trivial⟩ [] trivial (by kernel_rfl) (by kernel_rfl)
theorem g83 : Good t83 := good [t8,t82] ⟨g8,g82,trivial⟩ [] trivial (by kernel_rfl) (by kernel_rfl)
theorem g84 : Good t84 := good [] trivial [] trivial (by kernel_rfl) (by kernel_rfl)
theorem g85 : Good t85 := good [t84] ⟨g84,trivial⟩ [] trivial (by kernel_rfl) (by kernel_rfl)
theorem g86 : Good t86 := good [t83,t84,t85] ⟨g83,g84,g85,trivial⟩ [] trivial (by kernel_rfl) (by kernel_rfl)
theorem g87 : Good t87 := good [t86] ⟨g86,trivial⟩ [] trivial (by kernel_rfl) (by kernel_rfl)
theorem g88 : Good t88 := good [t48] ⟨g48,trivial⟩ [] trivial (by kernel_rfl) (by kernel_rfl)
theorem g89 : Good t89 := good [t88] ⟨g88,trivial⟩ [] trivial (by kernel_rfl) (by kernel_rfl)
theorem g90 : Good t90 := good [t52,t89] ⟨g52,g89,trivial⟩ [] trivial (by kernel_rfl) (by kernel_rfl)
theorem g91 : Good t91 := good [t48] ⟨g48,trivial⟩ [] trivial (by kernel_rfl) (by kernel_rfl)
theorem g92 : Good t92 := good [t91] ⟨g91,trivial⟩ [] trivial (by kernel_rfl) (by kernel_rfl)
theorem g93 : Good t93 := good [t50,t92] ⟨g50,g92,trivial⟩ [] trivial (by kernel_rfl) (by kernel_rfl)
theorem g94 : Good t94 := good [t50,t54,t90,t93] ⟨g50,g54,g90,g93,trivial⟩ [] trivial (by kernel_rfl) (by kernel_rfl)
theorem g95 : Good t95 := good [t94] ⟨g94,trivial⟩ [] trivial (by kernel_rfl) (by kernel_rfl)
theorem g96 : Good t96 := good [t12,t43,t95] ⟨g12,g43,g95,trivial⟩ [] trivial (by kernel_rfl) (by kernel_rfl)
theorem g97 : Good t97 := good [t48] ⟨g48,trivial⟩ [] trivial (by kernel_rfl) (by kernel_rfl)
theorem g98 : Good t98 := good [t97] ⟨g97,trivial⟩ [] trivial (by kernel_rfl) (by kernel_rfl)
theorem g99 : Good t99 := good [t48] ⟨g48,trivial⟩ [] trivial (by kernel_rfl) (by kernel_rfl)
theorem g100 : Good t100 := good [t99] ⟨g99,trivial⟩ [] trivial (by kernel_rfl) (by kernel_rfl)
theorem g101 : Good t101 := good [t54,t98,t100] ⟨g54,g98,g100,trivial⟩ [] trivial (by kernel_rfl) (by kernel_rfl)
theorem g102 : Good t102 := good [] trivial [] trivial (by kernel_rfl) (by kernel_rfl)
theorem g103 : Good t103 := good [t101,t102] ⟨g101,g102,trivial⟩ [] trivial (by kernel_rfl) (by kernel_rfl)
theorem g104 : Good t104 := good [t48] ⟨g48,trivial⟩ [] trivial (by kernel_rfl) (by kernel_rfl)
theorem g105 : Good t105 := good [t104] ⟨g104,trivial⟩ [] trivial (by kernel_rfl) (by kernel_rfl)
theorem g106 : Good t106 := good [t50] ⟨g50,trivial⟩ [] trivial (by kernel_rfl) (by kernel_rfl)
theorem g107 : Good t107 := good [t89] ⟨g89,trivial⟩ [] trivial (by kernel_rfl) (by kernel_rfl)
theorem g108 : Good t108 := good [t105,t106,t107] ⟨g105,g106,g107,trivial⟩ [] trivial (by kernel_rfl) (by kernel_rfl)
theorem g109 : Good t109 := good [] trivial [] trivial (by kernel_rfl) (by kernel_rfl)
theorem g110 : Good t110 := good [t109] ⟨g109,trivial⟩ [] trivial (by kernel_rfl) (by kernel_rfl)
theorem g111 : Good t111 := good [t8,t109,t110] ⟨g8,g109,g110,trivial⟩ [] trivial (by kernel_rfl) (by kernel_rfl)
theorem g112 : Good t112 := good [] trivial [] trivial (by kernel_rfl) (by kernel_rfl)
theorem g113 : Good t113 := good [t13,t23,t112] ⟨g13,g23,g112,trivial⟩ [] trivial (by kernel_rfl) (by kernel_rfl)
theorem g114 : Good t114 := good [t12,t108,t111,t113] ⟨g12,g108,g111,g113,trivial⟩ [] trivial (by kernel_rfl) (by kernel_rfl)
theorem g115 : Good t115 := good [t54,t98] ⟨g54,g98,trivial⟩ [] trivial (by kernel_rfl) (by kernel_rfl)
theorem g116 : Good t116 := good [t115] ⟨g115,trivial⟩ [] trivial (by kernel_rfl) (by kernel_rfl)
theorem g117 : Good t117 := good [t116] ⟨g116,trivial⟩ [] trivial (by kernel_rfl) (by kernel_rfl)
theorem g118 : Good t118 := good [t12,t111,t113] ⟨g12,g111,g113,trivial⟩ [] trivial (by kernel_rfl) (by kernel_rfl)
theorem g119 : Good t119 := good [t118] ⟨g118,trivial⟩ [] trivial (by kernel_rfl) (by kernel_rfl)
theorem g120 : Good t120 := good [] trivial [] trivial (by kernel_rfl) (by kernel_rfl)
theorem g121 : Good t121 := good [t120] ⟨g120,trivial⟩ [] trivial (by kernel_rfl) (by kernel_rfl)
theorem g122 : Good t122 := good [t9,t121] ⟨g9,g121,trivial⟩ [] trivial (by kernel_rfl) (by kernel_rfl)
theorem g123 : Good t123 := good [] trivial [] trivial (by kernel_rfl) (by kernel_rfl)
theorem g124 : Good t124 := good [t123] ⟨g123,trivial⟩ [] trivial (by kernel_rfl) (by kernel_rfl)
theorem g125 : Good t125 := good [t8,t123,t124] ⟨g8,g123,g124,trivial⟩ [] trivial (by kernel_rfl) (by kernel_rfl)
theorem g126 : Good t126 := good [] trivial [] trivial (by kernel_rfl) (by kernel_rfl)
theorem g127 : Good t127 := good [] trivial [] trivial (by kernel_rfl) (by kernel_rfl)
theorem g128 : Good t128 := good [] trivial [] trivial (by kernel_rfl) (by kernel_rfl)
theorem g129 : Good t129 := good [t128] ⟨g128,trivial⟩ [] trivial (by kernel_rfl) (by kernel_rfl)
theorem g130 : Good t130 := good [t126,t127,t129] ⟨g126,g127,g129,trivial⟩ [] trivial (by kernel_rfl) (by kernel_rfl)
theorem g131 : Good t131 := good [t122,t125,t130] ⟨g122,g125,g130,trivial⟩ [] trivial (by kernel_rfl) (by kernel_rfl)
theorem g132 : Good t132 := good [t131] ⟨g131,trivial⟩ [] trivial (by kernel_rfl) (by kernel_rfl)
theorem g133 : Good t133 := good [] trivial [] trivial (by kernel_rfl) (by kernel_rfl)
end Go.Ev.Cl
namespace Go.Ev.Cl
theorem gAll : Good ⟨31,[],.v (.bool true)⟩ := good [t44,t47,t62,t87,t96,t103,t114,t117,t119,t132,t133] ⟨g44,g47,g62,g87,g96,g103,g114,g117,g119,g132,g133,trivial⟩ [] trivial (by kernel_rfl) (by kernel_rfl)
end Go.Ev.Cl
namespace Go.Ev
open Go.Proofs
noncomputable def eA0 : Exts := e0.more 31 (atArgs [] (.v (.bool true)))
theorem extOKA0 : ExtOK (Cx eA0) := by
 refine extOK_more (C := Cx e0) (f := 31) (g := atArgs [] (.v (.bool true))) rfl ?_ extOK0 rfl
 intro args v h Z ρ H w vals hs hl
 obtain ⟨⟨e,x,he,ha⟩, -⟩ := Cl.gAll
 obtain ⟨rfl,rfl⟩ := atArgs_some h
 exact ext_of_ans (C := Cl.CC.more2 e x) Cl.nogoC Cl.mixedC he ha rfl Z ρ H w vals hs hl
noncomputable def eA : Exts := eA0.more 127 joinStr
theorem extOKA : ExtOK (Cx eA) := by
 refine extOK_more (C := Cx eA0) (f := 127) (g := joinStr) rfl ?_ extOKA0 rfl
 intro args v h Z ρ H w vals hs hl
 exact ext_join Go.Proofs.Tryz.lays156 Go.Proofs.Tryz.Builder_Extra_156 (f := 127) rfl ⟨_,Tryz.func127,by kernel_rfl,by kernel_rfl⟩ h Z ρ H w vals hs hl
theorem quietA : Quiet eA := by
 intro f h1 h2 h3
 show (if Nat.beq f 127 then _ else if Nat.beq f 31 then _ else e0.x f) = none
 rw [if_neg (fun h => h3 (Nat.eq_of_beq_eq_true h))]
 rw [if_neg (fun h => h1 (Nat.eq_of_beq_eq_true h))]
 exact quiet0 f h1 h2 h3
theorem eA31 : eA.x 31 = some (atArgs [] (.v (.bool true))) := rfl
end Go.Ev
namespace Go.Ev
open Go.Proofs
attribute [local irreducible] Wp WpS
theorem call31 (me : FuncId) (d : Option Tmp) (H : Heap) : callA (Cx eA) (lim (Cx eA)) me 31 d [] H = some (.v (.bool true),H) := by
 have h : (Cx eA).ext 31 = some (atArgs [] (.v (.bool true))) := eA31
 unfold callA standA
 rw [h];rfl
end Go.Ev
namespace Go.Ev
open Go.Proofs
attribute [local irreducible] Wp WpS
def inB (n lo hi : Int) : Bool := decide (lo ≤ n) && decide (n ≤ hi)
theorem ansS115 {e : Exts} (n lo hi : Int) : Ans (Cx e) 115 [intA n,intA lo,intA hi] (.v (.bool (inB n lo hi))) := by
 unfold Ans inB
 rw [fn_step (fn_115 e) (show Tryz.f115.body = some _ from rfl)]
 cases h1 : decide (lo ≤ n) <;> cases h2 : decide (n ≤ hi)
 all_goals simp only [decide_eq_true_eq,decide_eq_false_iff_not] at h1 h2
 all_goals simp -implicitDefEqProofs only [Tryz.f115,go_sem,↓reduceIte,Int.reduceEq,Int.reduceLT,Int.reduceLE,List.reduceReplicate,intA,setT_nil,setT_cons,ge_iff_le,h1,h2,decide_true,decide_false,↓boolP_bool,↓iteB_true,↓iteB_false]
def cutB (w sd : Int) : Bool := inB w 12 80 && inB sd 1 3
theorem ansS84 {e : Exts} (he : Quiet e) (w sd : Int) (h1 : 0 ≤ sd) (h2 : sd < 256) : Ans (Cx e) 84 [.agg [intA w,.v (.int .u8 sd)]] (.v (.bool (cutB w sd))) := by
 have c1 := fun me d H => (ansS115 (e := e) w 12 80).call (me := me) (d := d) (ext_115 he) (pure_115 _ _ _) rfl H
 have c2 := fun me d H => (ansS115 (e := e) sd 1 3).call (me := me) (d := d) (ext_115 he) (pure_115 _ _ _) rfl H
 have hcv := conv_u8 sd h1 h2
 unfold intA at c1 c2
 unfold Ans cutB
 rw [fn_step (fn_84 e) (show Tryz.f84.body = some _ from rfl)]
 cases h3 : inB w 12 80
 all_goals rw [h3] at c1
 all_goals simp -implicitDefEqProofs only [Tryz.f84,go_sem,↓reduceIte,Int.reduceEq,Int.reduceLT,Int.reduceLE,List.reduceReplicate,intA,setT_nil,setT_cons,c1,c2,hcv,Bool.true_and,Bool.false_and,↓boolP_bool,↓iteB_true,↓iteB_false]
theorem ansS42 {e : Exts} (he : Quiet e) (t : Txt) (ht : Fits t) (ch : AV) (xs : List AV) (hch : SlOf 2 xs ch) (hall : All2 ChapA t xs) (w sd : Int) (h1 : 0 ≤ sd) (h2 : sd < 256) : Ans (Cx e) 42 [.agg [ch],.agg [intA w,.v (.int .u8 sd)]] (.v (.bool (!greatT t && textB t && cutB w sd))) := by
 have h15 := fun me d H => call38 he t ht _ ⟨ch,rfl,xs,hch,hall⟩ me d H
 have h56 := fun me d H => call39 he t ht _ ⟨ch,rfl,xs,hch,hall⟩ me d H
 have c84 := fun me d H => (ansS84 he w sd h1 h2).call (me := me) (d := d) (ext_84 he) (pure_84 _ _ _) rfl H
 unfold intA at c84
 unfold Ans
 rw [fn_step (fn_42 e) (show Tryz.f42.body = some _ from rfl)]
 cases hg : greatT t <;> cases hT : textB t
 all_goals rw [hg] at h15
 all_goals rw [hT] at h56
 all_goals simp -implicitDefEqProofs only [Tryz.f42,go_sem,↓reduceIte,Int.reduceEq,Int.reduceLT,Int.reduceLE,List.reduceReplicate,intA,setT_nil,setT_cons,hch.cells,hch.flat,hch.bound,h15,h56,c84,Bool.not_true,Bool.not_false,Bool.true_and,Bool.false_and,Bool.and_false,↓boolP_bool,↓iteB_true,↓iteB_false]
end Go.Ev
namespace Go.Ev
open Go.Proofs
theorem u8_wf {m : Int} (h : (Lit.int .u8 m).wf = true) : 0 ≤ m ∧ m < 256 := by
 have h2 : (decide (IntKind.u8.min ≤ m) && decide (m ≤ IntKind.u8.max)) = true := h
 have e1 : IntKind.u8.min = 0 := by decide
 have e2 : IntKind.u8.max = 255 := by decide
 rw [e1,e2] at h2
 simp at h2;omega
end Go.Ev
namespace Go.Ev
open Go.Proofs
attribute [local irreducible] Wp WpS
theorem eAj : eA.x 127 = some joinStr := rfl
def t12 (ch x : AV) (id : Int) (w sd n : Nat) (S0 : ByteArray) (m j : Nat) : List (Tmp × AV) := [(0,.agg [ch]),(1,.agg [intA id,x]),(2,.agg [intA w,.v (.int .u8 sd)]),(3,.v (.int .u16 n)),(4,.ptr 0 0 0),(5,.ptr 1 0 0),(6,.ptr 2 0 0),(8,.v (.bool false)),(9,.v (.bool true)),(42,.v (.bool false)),(10,.ptr 3 0 0),(11,.v (.bool true)),(12,.ptr 4 0 0),(13,intA 0),(14,.v (.string S0)),(15,intA 0),(72,.v (.bool false)),(16,.ptr 5 0 0),(17,intA 0),(18,.ptr 6 0 0),(19,intA 0),(88,.v (.bool false)),(20,.ptr 7 0 0),(21,intA 0),(126,.v (.bool false)),(128,x),(129,intA m),(130,intA j)]
def h12 (ch x o : AV) (id : Int) (w sd a b c : Nat) (mv : Int) (s1 B1 A1 s2 B2 A2 : ByteArray) : List (Option AObj) := [some (.cells 0 0 24 1 false [ch]),some (.cells 0 0 66 1 false [intA id,x]),some (.cells 0 0 26 1 false [intA w,.v (.int .u8 sd)]),some (.cells 0 0 28 1 false [intA a,intA b,intA c]),some (.cells 0 0 24 1 false [o]),some (.cells 0 0 30 1 false [intA a,intA b,intA c,.v (.string s1),.v (.string B1),.v (.string A1)]),some (.cells 0 0 28 1 false [intA a,intA b,intA mv]),some (.cells 0 0 30 1 false [intA a,intA b,intA mv,.v (.string s2),.v (.string B2),.v (.string A2)])]
theorem cut_of {N : Nat} {x : AV} (h : Arg Tryz.prog (N + 3) 26 x) : ∃ w sd : Int,0 ≤ sd ∧ sd < 256 ∧ x = .agg [intA w,.v (.int .u8 sd)] := by
 obtain ⟨A,rfl,hp⟩ := arg_struct (by kernel_rfl) h
 obtain ⟨hl,hf⟩ := plain_struct (l := [(0,3),(1,5)]) (by kernel_rfl) (by kernel_rfl) hp
 obtain ⟨a,b,rfl⟩ := two_cells (hl.trans (by kernel_rfl))
 have h0 := hf (0,3) (by simp)
 have h1 := hf (1,5) (by simp)
 have e0 : Tryz.prog.cellsOf 3 = 1 := by kernel_rfl
 have e1 : Tryz.prog.cellsOf 5 = 1 := by kernel_rfl
 simp only [e0,e1,List.drop_zero,List.drop_succ_cons,List.take_succ_cons,List.take_zero] at h0 h1
 obtain ⟨m,hm, -⟩ := plain_int (by kernel_rfl : Tryz.prog.underlying 3 = some (.int .i64)) h0
 obtain ⟨k,hk,hw⟩ := plain_int (by kernel_rfl : Tryz.prog.underlying 5 = some (.int .u8)) h1
 simp only [List.cons.injEq,and_true] at hm hk
 have := u8_wf hw
 exact ⟨m,k,this.1,this.2,by rw [hm,hk];rfl⟩
end Go.Ev
namespace Go.Ev
open Go.Proofs
attribute [local irreducible] Wp WpS
end Go.Ev
namespace Go.Ev
open Go.Proofs
attribute [local irreducible] Wp WpS
end Go.Ev
namespace Go.Ev
open Go.Proofs
attribute [local irreducible] Wp WpS
def s50a : List (Plc × ByteArray) → AV
 | [] => .v (.slice none 0 0)
 | _ :: Z => .sl 1 Z.length 0 (Z.length + 1) none
def s50b : List (Plc × ByteArray) → AV
 | [] => .v (.slice none 0 0)
 | _ :: Z => .sl 2 Z.length 0 (Z.length + 1) none
def t50 (ch : AV) (c : Nat) (l : AV) (Z : List (Plc × ByteArray)) (j : Nat) : List (Tmp × AV) := [(0,.agg [ch]),(1,intA c),(2,.ptr 0 0 0),(4,.v (.slice none 0 0)),(5,.v (.slice none 0 0)),(6,s50a Z),(7,s50b Z),(8,l),(9,intA j)]
theorem cells_g (l : List AV) : AV.cells (.agg l) = l := rfl
theorem trim_big {H : Heap} {n : Nat} {vs : List AV} {ms : List Nat} (h : ¬ boundL vs ≤ n) : H.trim n vs ms = H := by
 unfold Heap.trim
 rw [if_neg]
 simp [Nat.ble_eq,h]
end Go.Ev
namespace Go.Ev
open Go.Proofs
attribute [local irreducible] Wp WpS
end Go.Ev
namespace Go.Ev
open Go.Proofs
attribute [local irreducible] Wp WpS
theorem min_two (x y : Int) : minmaxA false (.v (.int .i64 x)) [.v (.int .i64 y)] = some (.v (.int .i64 (min x y))) := by
 unfold minmaxA minmax2
 simp only [Bool.false_eq_true,if_false]
 unfold minmaxA
 by_cases h : y < x
 ·rw [show min x y = y by omega]
  simp [h]
 ·rw [show min x y = x by omega]
  simp [h]
theorem ne30_self (x y : Operand) (a b c : Int) (s u v : ByteArray) : binA Tryz.prog .neq 30 x y (.agg [.v (.int .i64 a),.v (.int .i64 b),.v (.int .i64 c),.v (.string s),.v (.string u),.v (.string v)]) (.agg [.v (.int .i64 a),.v (.int .i64 b),.v (.int .i64 c),.v (.string s),.v (.string u),.v (.string v)]) = some (.v (.bool false)) := by
 have := (bin_struct (P := Tryz.prog) (t := 30) (us := [.int .i64 a,.int .i64 b,.int .i64 c,.string s,.string u,.string v]) (ws := [.int .i64 a,.int .i64 b,.int .i64 c,.string s,.string u,.string v]) (n := 6) (by kernel_rfl) (by decide) (by kernel_rfl) (by kernel_rfl) x y).2
 rw [show eqCells [.int .i64 a,.int .i64 b,.int .i64 c,.string s,.string u,.string v] [.int .i64 a,.int .i64 b,.int .i64 c,.string s,.string u,.string v] = true by simp [eqCells,eqCell]] at this
 exact this
end Go.Ev
namespace Go.Ev
open Go.Proofs
attribute [local irreducible] Wp WpS
def t7 (ch : AV) (w sd n m : Nat) (Z : List (Plc × ByteArray)) (j : Nat) : List (Tmp × AV) := [(0,.agg [ch]),(1,.agg [intA w,.v (.int .u8 sd)]),(2,.v (.int .u16 n)),(3,.v (.int .u8 m)),(4,.ptr 0 0 0),(5,.ptr 1 0 0),(8,.v (.bool false)),(9,.v (.bool true)),(31,.v (.bool false)),(10,.ptr 2 0 0),(11,.v (.bool true)),(12,.ptr 3 0 0),(13,.ptr 4 0 0),(14,intA 0),(15,.ptr 5 0 0),(16,intA 0),(90,.v (.bool false)),(17,.vs 1 (wds Z) none),(18,.vs 3 (pls Z) none),(19,intA j)]
def h7 (ch : AV) (w sd w' a b c : Nat) (s B A B' A' : ByteArray) : List (Option AObj) := [some (.cells 0 0 24 1 false [ch]),some (.cells 0 0 26 1 false [intA w,.v (.int .u8 sd)]),some (.cells 0 0 28 1 false [intA a,intA b,intA c]),some (.cells 0 0 26 1 false [intA w',.v (.int .u8 sd)]),some (.cells 0 0 30 1 false [intA a,intA b,intA c,.v (.string s),.v (.string B),.v (.string A)]),some (.cells 0 0 30 1 false [intA a,intA b,intA c,.v (.string s),.v (.string B'),.v (.string A')])]
end Go.Ev
namespace Go.Ev
open Go.Proofs
end Go.Ev
namespace Go.Ev
open Go.Proofs
attribute [local irreducible] Wp WpS
def sG (b : Nat) : List AV → AV
 | [] => .v (.slice none 0 0)
 | _ :: L => .sl b L.length 0 (L.length + 1) none
def ItG (sz : Nat) (x : AV) : Prop := ∃ cs,x = .agg cs ∧ cs.length = sz
theorem flatG {sz : Nat} : ∀ {L : List AV},(∀ x ∈ L,ItG sz x) → (L.flatMap AV.cells).length = L.length * sz
 | [],_ => by simp
 | x :: r,h => by
  obtain ⟨cs,rfl,hc⟩ := h x (List.mem_cons_self ..)
  rw [List.flatMap_cons,List.length_append,flatG fun y hy => h y (List.mem_cons_of_mem _ hy),cells_g,hc,List.length_cons]
  rw [Nat.add_mul];omega
theorem chunkG {sz : Nat} (hz : sz ≠ 1) : ∀ {L : List AV},(∀ x ∈ L,ItG sz x) → chunk sz L.length (L.flatMap AV.cells) = L
 | [],_ => rfl
 | x :: r,h => by
  obtain ⟨cs,rfl,hc⟩ := h x (List.mem_cons_self ..)
  have ih := chunkG hz (L := r) fun y hy => h y (List.mem_cons_of_mem _ hy)
  rw [List.flatMap_cons,cells_g,List.length_cons,chunk,if_neg hz,List.take_left' hc,List.drop_left' hc,ih]
theorem frzG {H : Heap} (hk : H.lock = 0) {b n e sz : Nat} {L : List AV} (hz : 0 < sz) (hz1 : sz ≠ 1) (hL : L.length = n + 1) (hc : ∀ x ∈ L,ItG sz x) (hr : H.row b n = some (0,e,sz,true,L.flatMap AV.cells)) (k : Nat) : freezeV H (k + 1) (.sl b n 0 (n + 1) none) = some (.vs sz L none) := by
 have h1 := flatG hc
 have h4 := chunkG hz1 hc
 have h2 : 0 + (n + 1) * sz ≤ (L.flatMap AV.cells).length := by rw [h1,hL];omega
 unfold freezeV
 simp only [hr]
 rw [if_neg (by omega),if_pos ⟨h2,hz⟩,if_pos trivial,List.drop_zero,List.take_of_length_le (by rw [h1,hL];omega),← hL,h4]
theorem appG2 (B0 B1 : Option AObj) (e sz b' n : Nat) (cs : List AV) (hz : 0 < sz) (hl : cs.length = (n + 1) * sz) (hf : fitsA b' (n + 1 + 1) = true) (new : List AV) (hn : boundL new = 0) (slot : Nat) : appTo e sz b' ⟨[B0,B1,some (.cells n 0 e sz true cs)],0⟩ slot 1 new (.sl 2 n 0 (n + 1) none) = some (.sl 2 (n + 1) 0 (n + 1 + 1) none,⟨[B0,B1,some (.cells (n + 1) 0 e sz true (cs ++ new))],0⟩) := by
 have := appTo_own (e := e) (sz := sz) (b' := b') (H := ⟨[B0,B1,some (.cells n 0 e sz true cs)],0⟩) (slot := slot) (b := 2) (v := n) (len := n + 1) (n := 1) (new := new) (m := 0) (e' := e) (cs := cs) (by unfold Heap.row Heap.get;simp) (by omega) (Nat.zero_le _) hf (by omega) hz
 rw [this,hn];rfl
def runV (w sd : Int) (a : Nat) (cp : Chap) : AV := .agg [intA w,.v (.int .u8 sd),.vs 1 (wds (wordsC a 0 cp.2)) none,.vs 3 (pls (wordsC a 0 cp.2)) none]
def runsV (w sd : Int) : Nat → Txt → List AV
 | _,[] => []
 | a,cp :: r => runV w sd a cp :: runsV w sd (a + 1) r
theorem runsV_len (w sd : Int) : ∀ (t : Txt) (a : Nat),(runsV w sd a t).length = t.length
 | [],_ => rfl
 | cp :: r,a => by show (runsV w sd (a + 1) r).length + 1 = _;rw [runsV_len w sd r (a + 1)];rfl
theorem runsV_it (w sd : Int) : ∀ (t : Txt) (a : Nat),∀ x ∈ runsV w sd a t,ItG 4 x
 | cp :: r,a,x,h => by
  rcases List.mem_cons.1 h with rfl | h
  ·exact ⟨_,rfl,rfl⟩
  ·exact runsV_it w sd r (a + 1) x h
theorem runsV_get (w sd : Int) : ∀ (t : Txt) (a j : Nat) (cp : Chap),t[j]? = some cp → (runsV w sd a t)[j]? = some (runV w sd (a + j) cp)
 | c :: r,a,0,cp,h => by simp at h;subst h;rfl
 | c :: r,a,j + 1,cp,h => by
  have := runsV_get w sd r (a + 1) j cp (by simpa using h)
  rw [show a + (j + 1) = a + 1 + j by omega];exact this
theorem runsV_take (w sd : Int) (t : Txt) (j : Nat) (cp : Chap) (h : t[j]? = some cp) : (runsV w sd 0 t).take (j + 1) = (runsV w sd 0 t).take j ++ [runV w sd j cp] := by
 rw [List.take_add_one,runsV_get w sd t 0 j cp h,Nat.zero_add];rfl
theorem wordsC_ne {t : Txt} (hs : Small t) {cp : Chap} (h : cp ∈ t) {a : Nat} : wordsC a 0 cp.2 ≠ [] := by
 have h1 := hs.lines cp h
 obtain ⟨ln,hl⟩ := at_lt cp.2 0 (by omega)
 have h2 := hs.words cp h ln (List.mem_of_getElem? hl)
 obtain ⟨s,hx⟩ := at_lt ln 0 (by omega)
 exact fun he => by have := wordsC_in a cp.2 0 0 0 ln s hl hx;rw [he] at this;cases this
def h69 (ch : AV) (w sd : Int) : List AV → Heap
 | [] => ⟨[some (.cells 0 0 24 1 false [ch]),some (.cells 0 0 26 1 false [intA w,.v (.int .u8 sd)])],0⟩
 | x :: L => ⟨[some (.cells 0 0 24 1 false [ch]),some (.cells 0 0 26 1 false [intA w,.v (.int .u8 sd)]),some (.cells L.length 0 121 4 true ((x :: L).flatMap AV.cells))],0⟩
theorem ansS69 {e : Exts} (he : Quiet e) (t : Txt) (ht : Fits t) (hT : textB t = true) (ch : AV) (xs : List AV) (hch : SlOf 2 xs ch) (hall : All2 ChapA t xs) (w sd : Int) : Ans (Cx e) 69 [.agg [ch],.agg [intA w,.v (.int .u8 sd)]] (.vs 4 (runsV w sd 0 t) none) := by
 have hsm := small_of hT
 have hx1 := hall.1
 have hlen := runsV_len w sd t 0
 have hits := runsV_it w sd t 0
 have ht10 := hsm.chs
 unfold Ans
 rw [fn_step (fn_69 e) (show Tryz.f69.body = some _ from rfl)]
 have hcl := hch.len
 rw [← hx1] at hcl
 simp -implicitDefEqProofs only [Tryz.f69,go_sem,↓reduceIte,Int.reduceEq,Int.reduceLT,Int.reduceLE,List.reduceReplicate,intA,setT_nil,setT_cons,hch.cells,hch.flat,hch.bound,hcl,↓boolP_bool,↓iteB_true,↓iteB_false]
 refine Lp_ruleQ (P := fun μ a H => ∃ j,j + μ = t.length ∧ a = ⟨22,[(0,.agg [ch]),(1,.agg [intA w,.v (.int .u8 sd)]),(2,.ptr 0 0 0),(3,.ptr 1 0 0),(4,.v (.slice none 0 0)),(5,sG 2 ((runsV w sd 0 t).take j)),(9,intA t.length),(10,intA j)],[]⟩ ∧ H = h69 ch w sd ((runsV w sd 0 t).take j)) ?_ t.length _ _ ⟨0,by omega,rfl,rfl⟩
 rintro Q KK hQ hKK μ _ _ ⟨j,hj,rfl,rfl⟩
 cases μ with
 | zero =>
  obtain rfl : j = t.length := by omega
  have hnj : ¬ (t.length : Int) < (t.length : Int) := by omega
  rw [List.take_of_length_le (by omega)]
  generalize hR : runsV w sd 0 t = R at *
  rcases R with _ | ⟨x,R⟩
  ·rw [List.length_nil] at hlen;omega
  ·simp -implicitDefEqProofs only [h69,sG,go_sem,↓reduceIte,Int.reduceEq,Int.reduceLT,Int.reduceLE,List.reduceReplicate,intA,setT_nil,setT_cons,hnj,↓boolP_bool,↓iteB_true,↓iteB_false]
   refine hKK _ _ _ ?_
   simp -implicitDefEqProofs only [go_sem,↓reduceIte,Int.reduceEq,Int.reduceLT,Int.reduceLE,List.reduceReplicate,intA,setT_nil,setT_cons,↓boolP_bool,↓iteB_true,↓iteB_false]
   exact frzG (e := 121) rfl (by omega) (by omega) rfl hits (by unfold Heap.row Heap.get;simp) _
 | succ μ =>
  obtain ⟨cp,hcp⟩ := at_lt t j (by omega)
  have hlt : (j : Int) < ((t.length : Nat) : Int) := by omega
  have hw := wrap_succ j (by omega)
  have hcm := List.mem_of_getElem? hcp
  have hcl2 := (hsm.lines cp hcm).2
  have hZl := wordsC_small j cp.2 0 fun l hl => (hsm.words cp hcm l hl).2
  have a100 := ansS100 he t ht ch xs hch hall w sd j cp hcp (by omega) (fun l hl => by have := (hsm.words cp hcm l hl).2;omega) (wordsC_ne hsm hcm) (by omega)
  have c100 := fun me d H => a100.call (me := me) (d := d) (ext_100 he) (pure_100 _ _ _) (by simp only [boundL_cons,bound_agg,hch.bound,boundL_nil];rfl) H
  unfold intA at c100
  have htk := runsV_take w sd t j cp hcp
  have hf1 : fitsA 64 1 = true := by decide
  have hRl : ((runsV w sd 0 t).take j).length = j := by rw [List.length_take];omega
  have hRi : ∀ x ∈ (runsV w sd 0 t).take j,ItG 4 x := fun x hx => hits x (List.mem_of_mem_take hx)
  generalize (runsV w sd 0 t).take j = R at *
  rcases R with _ | ⟨x,R⟩
  ·simp -implicitDefEqProofs only [h69,sG,go_sem,↓reduceIte,Int.reduceEq,Int.reduceLT,Int.reduceLE,List.reduceReplicate,intA,setT_nil,setT_cons,hlt,hw,c100,hf1,hch.bound,cells_g,bound_vs,List.flatMap_cons,List.flatMap_nil,List.append_nil,List.all_cons,List.all_nil,↓boolP_bool,↓iteB_true,↓iteB_false]
   rw [trim_big (fun h => absurd (boundL_le.1 h (.sl 2 0 0 1 none) (by simp)) (by show ¬ 2 + 1 ≤ 2;omega))]
   exact Again.mk' μ (by omega) (hQ _ _ _ ⟨j + 1,by omega,by rw [htk];rfl,by rw [htk];rfl⟩)
  ·have hl9 : R.length + 1 = j := hRl
   have hj6 : j < 6 := by have := hsm.chs;omega
   have hf3 : fitsA 64 (R.length + 1 + 1) = true := by unfold fitsA;exact decide_eq_true (by omega)
   have hfl := flatG hRi
   have hcl3 : (AV.agg [intA w,.v (.int .u8 sd),.vs 1 (wds (wordsC j 0 cp.2)) none,.vs 3 (pls (wordsC j 0 cp.2)) none]).cells = [intA w,.v (.int .u8 sd),.vs 1 (wds (wordsC j 0 cp.2)) none,.vs 3 (pls (wordsC j 0 cp.2)) none] := rfl
   have hsn : (x :: (R ++ [runV w sd j cp])).flatMap AV.cells = (x :: R).flatMap AV.cells ++ [intA w,.v (.int .u8 sd),.vs 1 (wds (wordsC j 0 cp.2)) none,.vs 3 (pls (wordsC j 0 cp.2)) none] := by
    rw [← List.cons_append,List.flatMap_append];rfl
   have htk2 : List.take (j + 1) (runsV w sd 0 t) = x :: (R ++ [runV w sd j cp]) := htk
   have ha := fun B0 B1 slot => appG2 B0 B1 121 4 64 R.length ((x :: R).flatMap AV.cells) (by omega) (by rw [hfl];rfl) hf3 [.v (.int .i64 w),.v (.int .u8 sd),.vs 1 (wds (wordsC j 0 cp.2)) none,.vs 3 (pls (wordsC j 0 cp.2)) none] rfl slot
   unfold intA at hsn
   simp -implicitDefEqProofs only [h69,sG,go_sem,↓reduceIte,Int.reduceEq,Int.reduceLT,Int.reduceLE,List.reduceReplicate,intA,setT_nil,setT_cons,hlt,hw]
   generalize (x :: R).flatMap AV.cells = cs at *
   simp -implicitDefEqProofs only [go_sem,↓reduceIte,Int.reduceEq,Int.reduceLT,Int.reduceLE,List.reduceReplicate,intA,setT_nil,setT_cons,hlt,hw,c100,ha,hch.bound,cells_g,bound_vs,boundL_cons,bound_v,boundL_nil,List.flatMap_cons,List.flatMap_nil,List.append_nil,List.all_cons,List.all_nil,↓boolP_bool,↓iteB_true,↓iteB_false]
   refine Again.mk' μ (by omega) (hQ _ _ _ ⟨j + 1,by omega, ?_, ?_⟩)
   ·rw [htk2];simp only [sG,List.length_append,List.length_cons,List.length_nil];rfl
   ·rw [htk2];simp only [h69,hsn,List.length_append,List.length_cons,List.length_nil];rfl
end Go.Ev
namespace Go.Ev
open Go.Proofs
attribute [local irreducible] Wp WpS
def slipAt (Z : List (Plc × ByteArray)) (w sd i : Nat) : AV := slipV (Z.map (·.2)) (Z.getD i ((0,0,0),emp)) i ((bestC sd (ctxs (Z.map (·.2)) w i)).getD (0,0,0))
def slipsZ (Z : List (Plc × ByteArray)) (w sd n : Nat) : List AV := (List.range n).map (slipAt Z w sd)
def slipsT (w sd : Nat) : Nat → Txt → List AV
 | _,[] => []
 | a,cp :: r => slipsZ (wordsC a 0 cp.2) w sd (wordsC a 0 cp.2).length ++ slipsT w sd (a + 1) r
theorem slipAt_it (Z : List (Plc × ByteArray)) (w sd i : Nat) : ItG 6 (slipAt Z w sd i) := ⟨_,rfl,rfl⟩
theorem slipsZ_it (Z : List (Plc × ByteArray)) (w sd n : Nat) : ∀ x ∈ slipsZ Z w sd n,ItG 6 x := fun x hx => by
 obtain ⟨i, -,rfl⟩ := List.mem_map.1 hx;exact slipAt_it Z w sd i
theorem slipsZ_snoc (Z : List (Plc × ByteArray)) (w sd n : Nat) : slipsZ Z w sd (n + 1) = slipsZ Z w sd n ++ [slipAt Z w sd n] := by unfold slipsZ;rw [List.range_succ,List.map_append];rfl
theorem slipsZ_len (Z : List (Plc × ByteArray)) (w sd n : Nat) : (slipsZ Z w sd n).length = n := by unfold slipsZ;rw [List.length_map,List.length_range]
theorem slipsT_it (w sd : Nat) : ∀ (t : Txt) (a : Nat),∀ x ∈ slipsT w sd a t,ItG 6 x
 | cp :: r,a,x,h => by
  rcases List.mem_append.1 h with h | h
  ·exact slipsZ_it _ _ _ _ x h
  ·exact slipsT_it w sd r (a + 1) x h
theorem slipsT_len (w sd : Nat) : ∀ (t : Txt) (a : Nat),(slipsT w sd a t).length = (wordsT a t).length
 | [],_ => rfl
 | cp :: r,a => by
  show (slipsZ _ w sd _ ++ slipsT w sd (a + 1) r).length = (wordsC a 0 cp.2 ++ wordsT (a + 1) r).length
  rw [List.length_append,List.length_append,slipsZ_len,slipsT_len w sd r (a + 1)]
theorem slipsT_drop (w sd : Nat) : ∀ (t : Txt) (a j : Nat) (cp : Chap),t[j]? = some cp → slipsT w sd (a + j) (t.drop j) = slipsZ (wordsC (a + j) 0 cp.2) w sd (wordsC (a + j) 0 cp.2).length ++ slipsT w sd (a + (j + 1)) (t.drop (j + 1))
 | c :: r,a,0,cp,h => by simp at h;subst h;rfl
 | c :: r,a,j + 1,cp,h => by
  have := slipsT_drop w sd r (a + 1) j cp (by simpa using h)
  rw [show a + (j + 1) = a + 1 + j by omega,show a + (j + 1 + 1) = a + 1 + (j + 1) by omega];exact this
theorem ansS101' {e : Exts} (he : Quiet e) (hj : e.x 127 = some joinStr) {t : Txt} (hT : textB t = true) {a : Nat} {cp : Chap} (hc : t[a]? = some cp) (w sd : Nat) (h1 : 12 ≤ w) (h2 : w ≤ 80) (h3 : 1 ≤ sd) (h4 : sd ≤ 3) (i : Nat) (hi : i < (wordsC a 0 cp.2).length) :
  Ans (Cx e) 101 [runV w sd a cp,intA i] (slipAt (wordsC a 0 cp.2) w sd i) := by
 have hsm := small_of hT
 have hcm := List.mem_of_getElem? hc
 have hcl := (hsm.lines cp hcm).2
 have hZl := wordsC_small a cp.2 0 fun l hl => (hsm.words cp hcm l hl).2
 have hZw : ∀ x ∈ wordsC a 0 cp.2,x.2.size ≤ 12 := fun x hx => by
  obtain ⟨-, -,l,q1,q2⟩ := wordsC_sub a cp.2 0 x hx
  exact (word_size (hsm.word cp hcm l (List.mem_of_getElem? q1) x.2 (List.mem_of_getElem? q2))).2
 obtain ⟨x,hx⟩ : ∃ x,(wordsC a 0 cp.2)[i]? = some x := ⟨_,List.getElem?_eq_getElem hi⟩
 have hss := hZw _ (List.mem_of_getElem? hx)
 obtain ⟨cc,hcc,hcmem⟩ := best_some sd (ctxs_ne (ws := (wordsC a 0 cp.2).map (·.2)) (w := w) (at_ := i) (by rw [List.length_map];exact hi) (s := x.2) (by rw [List.getElem?_map,hx];rfl) (by omega))
 obtain ⟨m1,m2,m3⟩ := ctxs_mem hcmem
 rw [List.length_map] at m2
 have := ansS101 he hj (wordsC a 0 cp.2) (by omega) hZw w (by omega) sd h3 h4 i x hx cc hcc m1 m2
 unfold slipAt
 rw [hcc,List.getD_eq_getElem?_getD,hx]
 exact this
theorem appG3 (B0 B1 B2 : Option AObj) (e sz b' n : Nat) (cs : List AV) (hz : 0 < sz) (hl : cs.length = (n + 1) * sz) (hf : fitsA b' (n + 1 + 1) = true) (new : List AV) (hn : boundL new = 0) (slot : Nat) : appTo e sz b' ⟨[B0,B1,B2,some (.cells n 0 e sz true cs)],0⟩ slot 1 new (.sl 3 n 0 (n + 1) none) = some (.sl 3 (n + 1) 0 (n + 1 + 1) none,⟨[B0,B1,B2,some (.cells (n + 1) 0 e sz true (cs ++ new))],0⟩) := by
 have := appTo_own (e := e) (sz := sz) (b' := b') (H := ⟨[B0,B1,B2,some (.cells n 0 e sz true cs)],0⟩) (slot := slot) (b := 3) (v := n) (len := n + 1) (n := 1) (new := new) (m := 0) (e' := e) (cs := cs) (by unfold Heap.row Heap.get;simp) (by omega) (Nat.zero_le _) hf (by omega) hz
 rw [this,hn];rfl
theorem appG4 (B0 B1 B2 B4 : Option AObj) (e sz b' n : Nat) (cs : List AV) (hz : 0 < sz) (hl : cs.length = (n + 1) * sz) (hf : fitsA b' (n + 1 + 1) = true) (new : List AV) (hn : boundL new = 0) (slot : Nat) : appTo e sz b' ⟨[B0,B1,B2,some (.cells n 0 e sz true cs),B4],0⟩ slot 1 new (.sl 3 n 0 (n + 1) none) = some (.sl 3 (n + 1) 0 (n + 1 + 1) none,⟨[B0,B1,B2,some (.cells (n + 1) 0 e sz true (cs ++ new)),B4],0⟩) := by
 have := appTo_own (e := e) (sz := sz) (b' := b') (H := ⟨[B0,B1,B2,some (.cells n 0 e sz true cs),B4],0⟩) (slot := slot) (b := 3) (v := n) (len := n + 1) (n := 1) (new := new) (m := 0) (e' := e) (cs := cs) (by unfold Heap.row Heap.get;simp) (by omega) (Nat.zero_le _) hf (by omega) hz
 rw [this,hn];rfl
theorem trim4 {a0 a1 a2 a3 : AObj} {q : Option AObj} {vs : List AV} (h0 : a0.bound ≤ 4) (h1 : a1.bound ≤ 4) (h2 : a2.bound ≤ 4) (h3 : a3.bound ≤ 4) (hv : boundL vs ≤ 4) : (Heap.mk [some a0,some a1,some a2,some a3,q] 0).trim 4 vs [] = ⟨[some a0,some a1,some a2,some a3],0⟩ := by
 unfold Heap.trim
 rw [if_pos]
 ·rfl
 ·simp [boundsOk,Nat.ble_eq,hv,h0,h1,h2,h3]
def hA75 (ch : AV) (w sd : Nat) (g : List AV) : List AV → Heap
 | [] => ⟨[some (.cells 0 0 24 1 false [ch]),some (.cells 0 0 26 1 false [intA w,.v (.int .u8 sd)]),some (.cells 0 0 121 1 false g)],0⟩
 | x :: L => ⟨[some (.cells 0 0 24 1 false [ch]),some (.cells 0 0 26 1 false [intA w,.v (.int .u8 sd)]),some (.cells 0 0 121 1 false g),some (.cells L.length 0 30 6 true ((x :: L).flatMap AV.cells))],0⟩
def hB75 (ch : AV) (w sd : Nat) (g r : List AV) (x : AV) (L : List AV) : Heap := ⟨[some (.cells 0 0 24 1 false [ch]),some (.cells 0 0 26 1 false [intA w,.v (.int .u8 sd)]),some (.cells 0 0 121 1 false g),some (.cells L.length 0 30 6 true ((x :: L).flatMap AV.cells)),some (.cells 0 0 121 1 false r)],0⟩
def h75 (ch : AV) (w sd : Nat) (g : List AV) : List AV → Heap
 | [] => ⟨[some (.cells 0 0 24 1 false [ch]),some (.cells 0 0 26 1 false [intA w,.v (.int .u8 sd)])],0⟩
 | x :: L => ⟨[some (.cells 0 0 24 1 false [ch]),some (.cells 0 0 26 1 false [intA w,.v (.int .u8 sd)]),some (.cells 0 0 121 1 false g),some (.cells L.length 0 30 6 true ((x :: L).flatMap AV.cells))],0⟩
def t75 (ch : AV) (w sd : Nat) (R : List AV) (n : Nat) (L : List AV) (j : Nat) : List (Tmp × AV) := [(0,.agg [ch]),(1,.agg [intA w,.v (.int .u8 sd)]),(2,.ptr 0 0 0),(3,.ptr 1 0 0),(4,.v (.slice none 0 0)),(5,sG 3 L),(11,.vs 4 R none),(12,intA n),(13,intA j)]
theorem ansS75 {e : Exts} (he : Quiet e) (hjn : e.x 127 = some joinStr) (t : Txt) (ht : Fits t) (hT : textB t = true) (ch : AV) (xs : List AV) (hch : SlOf 2 xs ch) (hall : All2 ChapA t xs) (w sd : Nat) (h1 : 12 ≤ w) (h2 : w ≤ 80) (h3 : 1 ≤ sd) (h4 : sd ≤ 3) : Ans (Cx e) 75 [.agg [ch],.agg [intA w,.v (.int .u8 sd)]] (.vs 6 (slipsT w sd 0 t) none) := by
 have hsm := small_of hT
 have hlen := runsV_len w sd t 0
 have hits := slipsT_it w sd t 0
 have c69 := fun me d H => (ansS69 he t ht hT ch xs hch hall w sd).call (me := me) (d := d) (ext_69 he) (pure_69 _ _ _) (by simp only [boundL_cons,bound_agg,hch.bound,boundL_nil];rfl) H
 have hR : SlOf 4 (runsV w sd 0 t) (.vs 4 (runsV w sd 0 t) none) := Or.inr ⟨none,rfl⟩
 have hRg := runsV_get w sd t 0
 have hRn := hR.len
 have hch6 := hsm.chs
 rw [hlen] at hRn
 unfold intA at c69
 unfold Ans
 rw [fn_step (fn_75 e) (show Tryz.f75.body = some _ from rfl)]
 simp -implicitDefEqProofs only [Tryz.f75,go_sem,↓reduceIte,Int.reduceEq,Int.reduceLT,Int.reduceLE,List.reduceReplicate,intA,setT_nil,setT_cons,hch.cells,hch.flat,hch.bound,c69,hRn,↓boolP_bool,↓iteB_true,↓iteB_false]
 refine Lp_ruleQ (P := fun μ a H => ∃ j L g,j + μ = t.length ∧ L ++ slipsT w sd j (t.drop j) = slipsT w sd 0 t ∧ a = ⟨32,t75 ch w sd (runsV w sd 0 t) t.length L j,[]⟩ ∧ H = h75 ch w sd g L) ?_ t.length _ _ ⟨0,[],[],by omega,rfl,rfl,rfl⟩
 rintro Q KK hQ hKK μ _ _ ⟨j,L,g,hj,hL,rfl,rfl⟩
 cases μ with
 | zero =>
  obtain rfl : j = t.length := by omega
  have hnj : ¬ (t.length : Int) < (t.length : Int) := by omega
  rw [List.drop_length] at hL
  simp only [slipsT,List.append_nil] at hL
  subst hL
  generalize hS : slipsT w sd 0 t = S at *
  have hSn : S ≠ [] := by
   rw [← hS]
   obtain ⟨c0,h0⟩ := at_lt t 0 (by omega)
   have := slipsT_drop w sd t 0 0 c0 h0
   rw [List.drop_zero] at this
   rw [show (0 : Nat) + 0 = 0 from rfl] at this
   rw [this]
   intro he
   have h5 := congrArg List.length he
   rw [List.length_append,slipsZ_len,List.length_nil] at h5
   exact wordsC_ne hsm (List.mem_of_getElem? h0) (List.length_eq_zero_iff.1 (show (wordsC 0 0 c0.2).length = 0 by omega))
  rcases S with _ | ⟨x,S⟩
  ·exact absurd rfl hSn
  ·simp -implicitDefEqProofs only [h75,t75,sG,go_sem,↓reduceIte,Int.reduceEq,Int.reduceLT,Int.reduceLE,List.reduceReplicate,intA,setT_nil,setT_cons,hnj,↓boolP_bool,↓iteB_true,↓iteB_false]
   refine hKK _ _ _ ?_
   simp -implicitDefEqProofs only [go_sem,↓reduceIte,Int.reduceEq,Int.reduceLT,Int.reduceLE,List.reduceReplicate,intA,setT_nil,setT_cons,↓boolP_bool,↓iteB_true,↓iteB_false]
   exact frzG (e := 30) rfl (by omega) (by omega) rfl hits (by unfold Heap.row Heap.get;simp) _
 | succ μ =>
  obtain ⟨cp,hcp⟩ := at_lt t j (by omega)
  have hlt : (j : Int) < ((t.length : Nat) : Int) := by omega
  have hw := wrap_succ j (by omega)
  have hix := hR.idx (hRg j cp hcp)
  have hwl := wds_len (wordsC j 0 cp.2)
  have hsw : SlOf 1 (wds (wordsC j 0 cp.2)) (.vs 1 (wds (wordsC j 0 cp.2)) none) := Or.inr ⟨none,rfl⟩
  have hln := hsw.len
  rw [hwl] at hln
  rw [Nat.zero_add] at hix
  have hcm := List.mem_of_getElem? hcp
  have hcl := (hsm.lines cp hcm).2
  have hZl := wordsC_small j cp.2 0 fun l hl => (hsm.words cp hcm l hl).2
  have hZ0 := List.length_pos_iff.2 (wordsC_ne hsm hcm (a := j))
  have a101 := fun i hi => ansS101' he hjn hT hcp w sd h1 h2 h3 h4 i hi
  have hst := slipsT_drop w sd t 0 j cp hcp
  rw [Nat.zero_add,Nat.zero_add] at hst
  unfold runV at hix a101
  have hitZ := slipsZ_it (wordsC j 0 cp.2) w sd
  have hsnZ := slipsZ_snoc (wordsC j 0 cp.2) w sd
  have hlnZ := slipsZ_len (wordsC j 0 cp.2) w sd
  have hf1 : fitsA 72 1 = true := by decide
  rcases L with _ | ⟨x,L⟩
  ·simp -implicitDefEqProofs only [h75,t75,sG,go_sem,↓reduceIte,Int.reduceEq,Int.reduceLT,Int.reduceLE,List.reduceReplicate,intA,setT_nil,setT_cons,hlt,hix,hln,↓boolP_bool,↓iteB_true,↓iteB_false]
   refine Lp_ruleQ (P := fun μ2 a H => ∃ k,k + μ2 = (wordsC j 0 cp.2).length ∧ a = ⟨32,t75 ch w sd (runsV w sd 0 t) t.length (slipsZ (wordsC j 0 cp.2) w sd k) j ++ [(14,.v (.bool true)),(7,.ptr 2 0 0),(19,intA (wordsC j 0 cp.2).length),(20,intA k)],[]⟩ ∧ H = hA75 ch w sd [intA w,.v (.int .u8 sd),.vs 1 (wds (wordsC j 0 cp.2)) none,.vs 3 (pls (wordsC j 0 cp.2)) none] (slipsZ (wordsC j 0 cp.2) w sd k)) ?_ (wordsC j 0 cp.2).length _ _ ⟨0,by omega,rfl,rfl⟩
   rintro Q2 K2 hQ2 hK2 μ2 _ _ ⟨k,hk,rfl,rfl⟩
   cases μ2 with
   | zero =>
    obtain rfl : k = (wordsC j 0 cp.2).length := by omega
    have hnk : ¬ ((wordsC j 0 cp.2).length : Int) < ((wordsC j 0 cp.2).length : Int) := by omega
    have hlz := hlnZ (wordsC j 0 cp.2).length
    generalize hS : slipsZ (wordsC j 0 cp.2) w sd (wordsC j 0 cp.2).length = S at *
    rcases S with _ | ⟨y,S⟩
    ·rw [List.length_nil] at hlz;omega
    ·simp -implicitDefEqProofs only [hA75,t75,sG,go_sem,↓reduceIte,Int.reduceEq,Int.reduceLT,Int.reduceLE,List.reduceReplicate,intA,setT_nil,setT_cons,hnk,↓boolP_bool,↓iteB_true,↓iteB_false]
     refine hK2 _ _ _ ?_
     simp -implicitDefEqProofs only [go_sem,↓reduceIte,Int.reduceEq,Int.reduceLT,Int.reduceLE,List.reduceReplicate,intA,setT_nil,setT_cons,hw,↓boolP_bool,↓iteB_true,↓iteB_false]
     rw [trim_big (fun h => absurd (boundL_le.1 h (.sl 3 S.length 0 (S.length + 1) none) (by simp)) (by show ¬ 3 + 1 ≤ 2;omega))]
     exact Again.mk' μ (by omega) (hQ _ _ _ ⟨j + 1,y :: S,_,by omega,by rw [← hst];exact hL,rfl,rfl⟩)
   | succ μ2 =>
    have hkl : k < (wordsC j 0 cp.2).length := by omega
    have hltk : (k : Int) < ((wordsC j 0 cp.2).length : Int) := by omega
    have hwk := wrap_succ k (by omega)
    have a101k := a101 k hkl
    have hsn := hsnZ k
    obtain ⟨p1,p2,p3,s1,s2,s3,hsl⟩ : ∃ p1 p2 p3 s1 s2 s3,slipAt (wordsC j 0 cp.2) w sd k = .agg [.v (.int .i64 p1),.v (.int .i64 p2),.v (.int .i64 p3),.v (.string s1),.v (.string s2),.v (.string s3)] := ⟨_,_,_,_,_,_,rfl⟩
    rw [hsl] at a101k hsn
    unfold intA at a101k
    have c101 := fun me d H => a101k.call (me := me) (d := d) (ext_101 he) (pure_101 _ _ _) rfl H
    have hlz := hlnZ k
    have hiz := hitZ k
    generalize hS : slipsZ (wordsC j 0 cp.2) w sd k = S at *
    rcases S with _ | ⟨y,S⟩
    ·simp -implicitDefEqProofs only [hA75,t75,sG,go_sem,↓reduceIte,Int.reduceEq,Int.reduceLT,Int.reduceLE,List.reduceReplicate,intA,setT_nil,setT_cons,hltk,hwk,c101,hf1,cells_g,List.flatMap_cons,List.flatMap_nil,List.append_nil,List.all_cons,List.all_nil,↓boolP_bool,↓iteB_true,↓iteB_false]
     rw [trim_big (fun h => absurd (boundL_le.1 h (.sl 3 0 0 1 none) (by simp)) (by show ¬ 3 + 1 ≤ 3;omega))]
     exact Again.mk' μ2 (by omega) (hQ2 _ _ _ ⟨k + 1,by omega,by rw [hsn];rfl,by rw [hsn];rfl⟩)
    ·have hl9 : S.length + 1 = k := hlz
     have hf3 : fitsA 72 (S.length + 1 + 1) = true := by unfold fitsA;exact decide_eq_true (by omega)
     have hfl := flatG hiz
     have ha := fun B0 B1 B2 slot => appG3 B0 B1 B2 30 6 72 S.length ((y :: S).flatMap AV.cells) (by omega) (by rw [hfl];rfl) hf3 [.v (.int .i64 p1),.v (.int .i64 p2),.v (.int .i64 p3),.v (.string s1),.v (.string s2),.v (.string s3)] rfl slot
     have hsn2 : slipsZ (wordsC j 0 cp.2) w sd (k + 1) = y :: (S ++ [.agg [.v (.int .i64 p1),.v (.int .i64 p2),.v (.int .i64 p3),.v (.string s1),.v (.string s2),.v (.string s3)]]) := hsn
     have hfm : (y :: (S ++ [.agg [.v (.int .i64 p1),.v (.int .i64 p2),.v (.int .i64 p3),.v (.string s1),.v (.string s2),.v (.string s3)]])).flatMap AV.cells = (y :: S).flatMap AV.cells ++ [.v (.int .i64 p1),.v (.int .i64 p2),.v (.int .i64 p3),.v (.string s1),.v (.string s2),.v (.string s3)] := by
      rw [← List.cons_append,List.flatMap_append];rfl
     simp -implicitDefEqProofs only [hA75,t75,sG,go_sem,↓reduceIte,Int.reduceEq,Int.reduceLT,Int.reduceLE,List.reduceReplicate,intA,setT_nil,setT_cons,hltk,hwk]
     generalize (y :: S).flatMap AV.cells = cs at *
     simp -implicitDefEqProofs only [go_sem,↓reduceIte,Int.reduceEq,Int.reduceLT,Int.reduceLE,List.reduceReplicate,intA,setT_nil,setT_cons,hltk,hwk,c101,ha,cells_g,List.flatMap_cons,List.flatMap_nil,List.append_nil,List.all_cons,List.all_nil,↓boolP_bool,↓iteB_true,↓iteB_false]
     refine Again.mk' μ2 (by omega) (hQ2 _ _ _ ⟨k + 1,by omega, ?_, ?_⟩)
     ·rw [hsn2];simp only [t75,sG,List.length_append,List.length_cons,List.length_nil];rfl
     ·rw [hsn2];simp only [hA75,hfm,List.length_append,List.length_cons,List.length_nil];rfl
  ·have hiL : ∀ k,∀ z ∈ x :: (L ++ slipsZ (wordsC j 0 cp.2) w sd k),ItG 6 z := fun k z hz => by
    rw [← List.cons_append] at hz
    rcases List.mem_append.1 hz with hz | hz
    ·exact hits z (by rw [← hL];exact List.mem_append_left _ hz)
    ·exact hitZ k z hz
   have hLl : L.length < 10000 := by
    have h5 := congrArg List.length hL
    rw [List.length_append,List.length_cons,slipsT_len,slipsT_len] at h5
    have h6 := wordsT_small hsm
    omega
   have hnil : slipsZ (wordsC j 0 cp.2) w sd 0 = [] := rfl
   simp -implicitDefEqProofs only [h75,t75,sG,go_sem,↓reduceIte,Int.reduceEq,Int.reduceLT,Int.reduceLE,List.reduceReplicate,intA,setT_nil,setT_cons,hlt,hix,hln,↓boolP_bool,↓iteB_true,↓iteB_false]
   refine Lp_ruleQ (P := fun μ2 a H => ∃ k,k + μ2 = (wordsC j 0 cp.2).length ∧ a = ⟨32,t75 ch w sd (runsV w sd 0 t) t.length (x :: (L ++ slipsZ (wordsC j 0 cp.2) w sd k)) j ++ [(14,.v (.bool true)),(7,.ptr 4 0 0),(19,intA (wordsC j 0 cp.2).length),(20,intA k)],[]⟩ ∧ H = hB75 ch w sd g [intA w,.v (.int .u8 sd),.vs 1 (wds (wordsC j 0 cp.2)) none,.vs 3 (pls (wordsC j 0 cp.2)) none] x (L ++ slipsZ (wordsC j 0 cp.2) w sd k)) ?_ (wordsC j 0 cp.2).length _ _ ⟨0,by omega,by rw [hnil,List.append_nil];rfl,by rw [hnil,List.append_nil];rfl⟩
   rintro Q2 K2 hQ2 hK2 μ2 _ _ ⟨k,hk,rfl,rfl⟩
   cases μ2 with
   | zero =>
    obtain rfl : k = (wordsC j 0 cp.2).length := by omega
    have hnk : ¬ ((wordsC j 0 cp.2).length : Int) < ((wordsC j 0 cp.2).length : Int) := by omega
    rw [hst,← List.append_assoc] at hL
    have hL2 : (x :: (L ++ slipsZ (wordsC j 0 cp.2) w sd (wordsC j 0 cp.2).length)) ++ slipsT w sd (j + 1) (t.drop (j + 1)) = slipsT w sd 0 t := hL
    generalize L ++ slipsZ (wordsC j 0 cp.2) w sd (wordsC j 0 cp.2).length = S at *
    simp -implicitDefEqProofs only [hB75,t75,sG,go_sem,↓reduceIte,Int.reduceEq,Int.reduceLT,Int.reduceLE,List.reduceReplicate,intA,setT_nil,setT_cons,hnk,↓boolP_bool,↓iteB_true,↓iteB_false]
    refine hK2 _ _ _ ?_
    simp -implicitDefEqProofs only [go_sem,↓reduceIte,Int.reduceEq,Int.reduceLT,Int.reduceLE,List.reduceReplicate,intA,setT_nil,setT_cons,hw,↓boolP_bool,↓iteB_true,↓iteB_false]
    rw [trim4]
    rotate_left
    iterate 4 exact Nat.zero_le _
    ·simp only [boundL_cons,boundL_nil,bound_agg,bound_ptr,bound_v,bound_sl,bound_vs,hch.bound];decide
    exact Again.mk' μ (by omega) (hQ _ _ _ ⟨j + 1,x :: S,g,by omega,hL2,rfl,rfl⟩)
   | succ μ2 =>
    have hkl : k < (wordsC j 0 cp.2).length := by omega
    have hltk : (k : Int) < ((wordsC j 0 cp.2).length : Int) := by omega
    have hwk := wrap_succ k (by omega)
    have a101k := a101 k hkl
    have hsn := hsnZ k
    obtain ⟨p1,p2,p3,s1,s2,s3,hsl⟩ : ∃ p1 p2 p3 s1 s2 s3,slipAt (wordsC j 0 cp.2) w sd k = .agg [.v (.int .i64 p1),.v (.int .i64 p2),.v (.int .i64 p3),.v (.string s1),.v (.string s2),.v (.string s3)] := ⟨_,_,_,_,_,_,rfl⟩
    rw [hsl] at a101k hsn
    unfold intA at a101k
    have c101 := fun me d H => a101k.call (me := me) (d := d) (ext_101 he) (pure_101 _ _ _) rfl H
    have hlz := hlnZ k
    have hiz := hiL k
    have hsn2 : L ++ slipsZ (wordsC j 0 cp.2) w sd (k + 1) = (L ++ slipsZ (wordsC j 0 cp.2) w sd k) ++ [.agg [.v (.int .i64 p1),.v (.int .i64 p2),.v (.int .i64 p3),.v (.string s1),.v (.string s2),.v (.string s3)]] := by rw [hsn,List.append_assoc]
    have hSl : (L ++ slipsZ (wordsC j 0 cp.2) w sd k).length < 20000 := by rw [List.length_append,hlz];omega
    generalize hS : L ++ slipsZ (wordsC j 0 cp.2) w sd k = S at *
    have hf3 : fitsA 72 (S.length + 1 + 1) = true := by unfold fitsA;exact decide_eq_true (by omega)
    have hfl := flatG hiz
    have ha := fun B0 B1 B2 B4 slot => appG4 B0 B1 B2 B4 30 6 72 S.length ((x :: S).flatMap AV.cells) (by omega) (by rw [hfl];rfl) hf3 [.v (.int .i64 p1),.v (.int .i64 p2),.v (.int .i64 p3),.v (.string s1),.v (.string s2),.v (.string s3)] rfl slot
    have hfm : (x :: (S ++ [.agg [.v (.int .i64 p1),.v (.int .i64 p2),.v (.int .i64 p3),.v (.string s1),.v (.string s2),.v (.string s3)]])).flatMap AV.cells = (x :: S).flatMap AV.cells ++ [.v (.int .i64 p1),.v (.int .i64 p2),.v (.int .i64 p3),.v (.string s1),.v (.string s2),.v (.string s3)] := by
     rw [← List.cons_append,List.flatMap_append];rfl
    simp -implicitDefEqProofs only [hB75,t75,sG,go_sem,↓reduceIte,Int.reduceEq,Int.reduceLT,Int.reduceLE,List.reduceReplicate,intA,setT_nil,setT_cons,hltk,hwk]
    generalize (x :: S).flatMap AV.cells = cs at *
    simp -implicitDefEqProofs only [go_sem,↓reduceIte,Int.reduceEq,Int.reduceLT,Int.reduceLE,List.reduceReplicate,intA,setT_nil,setT_cons,hltk,hwk,c101,ha,cells_g,List.flatMap_cons,List.flatMap_nil,List.append_nil,List.all_cons,List.all_nil,↓boolP_bool,↓iteB_true,↓iteB_false]
    refine Again.mk' μ2 (by omega) (hQ2 _ _ _ ⟨k + 1,by omega, ?_, ?_⟩)
    ·rw [hsn2];simp only [t75,sG,List.length_append,List.length_cons,List.length_nil];rfl
    ·rw [hsn2];simp only [hB75,hfm,List.length_append,List.length_cons,List.length_nil];rfl
end Go.Ev
namespace Go.Ev
open Go.Proofs
attribute [local irreducible] Wp WpS
theorem slice_midA {P : Program} {t et sz : Nat} (hu : P.underlying t = some (.slice et)) (hs : sizeT P et = some sz) (xs : List AV) (cap : Option Nat) (i j : Nat) (hij : i ≤ j) (hj : j ≤ xs.length) : ∃ cap',∀ H : Heap,sliceA P H t (.vs sz xs cap) (some (.v (.int .i64 i))) (some (.v (.int .i64 j))) none = some (.vs sz ((xs.take j).drop i) cap') := by
 have h1 : (0 : Int) ≤ (j : Int) ∧ (j : Int) ≤ (xs.length : Int) := by omega
 have h2 : (0 : Int) ≤ (i : Int) ∧ (i : Int) ≤ (j : Int) := by omega
 refine ⟨capOf none xs.length i cap, ?_⟩
 intro H
 unfold sliceA
 simp [hu,hs,boundA,h1,h2]
theorem ansS43 {e : Exts} (he : Quiet e) (hjn : e.x 127 = some joinStr) (t : Txt) (ht : Fits t) (hT : textB t = true) (ch : AV) (xs : List AV) (hch : SlOf 2 xs ch) (hall : All2 ChapA t xs) (w sd : Nat) (h1 : 12 ≤ w) (h2 : w ≤ 80) (h3 : 1 ≤ sd) (h4 : sd ≤ 3) : Ans (Cx e) 43 [.agg [ch],.agg [intA w,.v (.int .u8 sd)]] (.tup [.vs 6 (slipsT w sd 0 t) none,intA 0]) := by
 have b3 : boundL [AV.agg [ch],.agg [intA w,.v (.int .u8 sd)]] = 0 := by simp only [boundL_cons,bound_agg,hch.bound,boundL_nil];rfl
 have c63 := fun me d H => (ansS63 he t ht ch xs hch hall hT w sd (by omega) (by omega) (by omega) (by omega)).call (me := me) (d := d) (ext_63 he) (pure_63 _ _ _) b3 H
 have c75 := fun me d H => (ansS75 he hjn t ht hT ch xs hch hall w sd h1 h2 h3 h4).call (me := me) (d := d) (ext_75 he) (pure_75 _ _ _) b3 H
 unfold intA at c63 c75
 unfold Ans
 rw [fn_step (fn_43 e) (show Tryz.f43.body = some _ from rfl)]
 simp -implicitDefEqProofs only [Tryz.f43,go_sem,↓reduceIte,Int.reduceEq,Int.reduceLT,Int.reduceLE,List.reduceReplicate,intA,setT_nil,setT_cons,hch.cells,hch.flat,hch.bound,c63,c75,↓boolP_bool,↓iteB_true,↓iteB_false]
 rfl
theorem ansS39 {e : Exts} (he : Quiet e) (hjn : e.x 127 = some joinStr) (t : Txt) (ht : Fits t) (hT : textB t = true) (ch : AV) (xs : List AV) (hch : SlOf 2 xs ch) (hall : All2 ChapA t xs) (w sd : Nat) (h1 : 12 ≤ w) (h2 : w ≤ 80) (h3 : 1 ≤ sd) (h4 : sd ≤ 3) (i j : Nat) (x y : Plc × ByteArray) (hx : (wordsT 0 t)[i]? = some x) (hy : (wordsT 0 t)[j]? = some y) (hij : i ≤ j) :
  ∃ cap,Ans (Cx e) 39 [.agg [ch],.agg [intA w,.v (.int .u8 sd)],plN x.1,plN y.1] (.tup [.vs 6 (((slipsT w sd 0 t).take (j + 1)).drop i) cap,intA 0]) := by
 have b3 : boundL [AV.agg [ch],.agg [intA w,.v (.int .u8 sd)]] = 0 := by simp only [boundL_cons,bound_agg,hch.bound,boundL_nil];rfl
 have b4 : ∀ p : Plc,boundL [AV.agg [ch],plN p] = 0 := fun p => by simp only [plN,boundL_cons,bound_agg,hch.bound,boundL_nil];rfl
 have c63 := fun me d H => (ansS63 he t ht ch xs hch hall hT w sd (by omega) (by omega) (by omega) (by omega)).call (me := me) (d := d) (ext_63 he) (pure_63 _ _ _) b3 H
 have c75 := fun me d H => (ansS75 he hjn t ht hT ch xs hch hall w sd h1 h2 h3 h4).call (me := me) (d := d) (ext_75 he) (pure_75 _ _ _) b3 H
 have c79x := fun me d H => (ans16 he t ht ch xs hch hall hT i x hx).call (me := me) (d := d) (ext_79 he) (pure_79 _ _ _) (b4 _) H
 have c79y := fun me d H => (ans16 he t ht ch xs hch hall hT j y hy).call (me := me) (d := d) (ext_79 he) (pure_79 _ _ _) (b4 _) H
 have hyl := (List.getElem?_eq_some_iff.1 hy).1
 have hN := wordsT_small (small_of hT)
 have hsl := slipsT_len w sd t 0
 obtain ⟨cap,hsc⟩ := slice_midA (P := Tryz.prog) (t := 31) (et := 30) (sz := 6) (by kernel_rfl) (by kernel_rfl) (slipsT w sd 0 t) none i (j + 1) (by omega) (by omega)
 refine ⟨cap, ?_⟩
 have hlt : ¬ (j : Int) < (i : Int) := by omega
 have hw := wrap_succ j (by omega)
 unfold plN at c79x c79y ⊢
 unfold intA at c63 c75 c79x c79y
 unfold Ans
 rw [fn_step (fn_39 e) (show Tryz.f39.body = some _ from rfl)]
 simp -implicitDefEqProofs only [Tryz.f39,go_sem,↓reduceIte,Int.reduceEq,Int.reduceLT,Int.reduceLE,List.reduceReplicate,intA,setT_nil,setT_cons,hch.cells,hch.flat,hch.bound,c63,c75,c79x,c79y,hlt,hw,hsc,decide_false,↓boolP_bool,↓iteB_true,↓iteB_false]
 rfl
theorem slipAt_str (Z : List (Plc × ByteArray)) (w sd i : Nat) : ∃ (p1 p2 p3 : Int) (s1 s2 s3 : ByteArray),slipAt Z w sd i = .agg [.v (.int .i64 p1),.v (.int .i64 p2),.v (.int .i64 p3),.v (.string s1),.v (.string s2),.v (.string s3)] := ⟨_,_,_,_,_,_,rfl⟩
def SlipG (x : AV) : Prop := ∃ (p1 p2 p3 : Int) (s1 s2 s3 : ByteArray),x = .agg [.v (.int .i64 p1),.v (.int .i64 p2),.v (.int .i64 p3),.v (.string s1),.v (.string s2),.v (.string s3)]
theorem slipsT_g (w sd : Nat) : ∀ (t : Txt) (a : Nat),∀ x ∈ slipsT w sd a t,SlipG x
 | cp :: r,a,x,h => by
  rcases List.mem_append.1 h with h | h
  ·obtain ⟨i, -,rfl⟩ := List.mem_map.1 h;exact slipAt_str _ _ _ _
  ·exact slipsT_g w sd r (a + 1) x h
theorem ansS30 {e : Exts} (L : List AV) (hL : ∀ x ∈ L,SlipG x) (hn : L.length < 100000) (x y : AV) (hx : SlOf 6 L x) (hy : SlOf 6 L y) : Ans (Cx e) 30 [x,y] (.v (.bool true)) := by
 unfold Ans
 rw [fn_step (fn_30 e) (show Tryz.f30.body = some _ from rfl)]
 have hlx := hx.len
 have hly := hy.len
 simp -implicitDefEqProofs only [Tryz.f30,go_sem,↓reduceIte,Int.reduceEq,Int.reduceLT,Int.reduceLE,List.reduceReplicate,intA,setT_nil,setT_cons,hx.cells,hx.flat,hx.bound,hy.cells,hy.flat,hy.bound,hlx,hly,↓boolP_bool,↓iteB_true,↓iteB_false]
 refine Lp_ruleQ (P := fun μ a H => ∃ j,j + μ = L.length ∧ a = ⟨26,[(0,x),(1,y),(4,.v (.bool false)),(10,.v (.bool false)),(5,intA j)],[]⟩ ∧ H = ⟨[],0⟩) ?_ L.length _ _ ⟨0,by omega,rfl,rfl⟩
 rintro Q KK hQ hKK μ _ _ ⟨j,hj,rfl,rfl⟩
 cases μ with
 | zero =>
  obtain rfl : j = L.length := by omega
  have hlt : ¬ (L.length : Int) < (L.length : Int) := by omega
  simp -implicitDefEqProofs only [go_sem,↓reduceIte,Int.reduceEq,Int.reduceLT,Int.reduceLE,List.reduceReplicate,intA,setT_nil,setT_cons,hx.cells,hx.flat,hx.bound,hy.cells,hy.flat,hy.bound,hlx,hly,hlt,↓boolP_bool,↓iteB_true,↓iteB_false]
  refine hKK _ _ _ ?_
  simp -implicitDefEqProofs only [go_sem,↓reduceIte,Int.reduceEq,Int.reduceLT,Int.reduceLE,List.reduceReplicate,intA,setT_nil,setT_cons,↓boolP_bool,↓iteB_true,↓iteB_false]
 | succ μ =>
  obtain ⟨z,hz⟩ := at_lt L j (by omega)
  have hlt : (j : Int) < ((L.length : Nat) : Int) := by omega
  have hw := wrap_succ j (by omega)
  obtain ⟨p1,p2,p3,s1,s2,s3,rfl⟩ := hL z (List.mem_of_getElem? hz)
  have hix := hx.idx hz
  have hiy := hy.idx hz
  simp -implicitDefEqProofs only [go_sem,↓reduceIte,Int.reduceEq,Int.reduceLT,Int.reduceLE,List.reduceReplicate,intA,setT_nil,setT_cons,hx.cells,hx.flat,hx.bound,hy.cells,hy.flat,hy.bound,hlx,hly,hlt,↓boolP_bool,↓iteB_true,↓iteB_false]
  refine wp_drawX [([],[],false),([],[],false),([],[],false),([],[],false),([],[],false),([],[],false),([],[],false),([3],[],false),([],[],false)] (by kernel_rfl) (by kernel_rfl) ?_
  simp -implicitDefEqProofs only [go_sem,↓reduceIte,Int.reduceEq,Int.reduceLT,Int.reduceLE,List.reduceReplicate,intA,setT_nil,setT_cons,hx.cells,hx.flat,hx.bound,hy.cells,hy.flat,hy.bound,hix,hiy,ne30_self,hw,↓boolP_bool,↓iteB_true,↓iteB_false]
  exact Again.mk' μ (by omega) (hQ _ _ _ ⟨j + 1,by omega,rfl,rfl⟩)
end Go.Ev
namespace Go.Ev
open Go.Proofs
attribute [local irreducible] Wp WpS
theorem flatGat {sz : Nat} : ∀ {L : List AV},(∀ x ∈ L,ItG sz x) → ∀ (i : Nat) (cs : List AV),L[i]? = some (.agg cs) → ((L.flatMap AV.cells).drop (i * sz)).take sz = cs
 | [],_,i,cs,h => by simp at h
 | x :: r,hL,0,cs,h => by
  obtain rfl : x = .agg cs := by simpa using h
  obtain ⟨c2,h2,h3⟩ := hL _ (List.mem_cons_self ..)
  cases h2
  rw [Nat.zero_mul,List.drop_zero,List.flatMap_cons,cells_g,List.take_left' h3]
 | x :: r,hL,i + 1,cs,h => by
  obtain ⟨c2,rfl,h3⟩ := hL x (List.mem_cons_self ..)
  have := flatGat (L := r) (fun y hy => hL y (List.mem_cons_of_mem _ hy)) i cs (by simpa using h)
  rw [List.flatMap_cons,cells_g,Nat.add_mul,Nat.one_mul,Nat.add_comm,← List.drop_drop,List.drop_left' h3,this]
theorem isAgg30 : isAggT Tryz.prog 30 = some true := by kernel_rfl
theorem size30 : sizeT Tryz.prog 30 = some 6 := by kernel_rfl
theorem slG_get {X : Heap} {N : Nat} (hN : X.size = N) {L : List AV} (hL : ∀ x ∈ L,ItG 6 x) {b v : Nat} (hb : b < N) (hr : X.row b v = some (0,30,6,true,L.flatMap AV.cells)) {i : Nat} {cs : List AV} (hz : L[i]? = some (.agg cs)) :
  ∃ p,slIdx 6 (.sl b v 0 L.length none) (.v (.int .i64 (i : Int))) = some p ∧ (∀ E,loadA Tryz.prog (X.plus E) 30 p = some (.agg cs)) ∧ ∀ top,N ≤ top → (objsOf p).all (fun c => ltB c top) = true := by
 have hi := (List.getElem?_eq_some_iff.1 hz).1
 refine ⟨.ptr b v (0 + i * 6), ?_,fun E => ?_,fun top h => ?_⟩
 ·unfold slIdx
  simp;omega
 ·have hrow : (X.plus E).row b v = some (0,30,6,true,L.flatMap AV.cells) := by rw [rowLo (by omega),hr]
  have hfl := flatG hL
  unfold loadA
  simp only [hrow]
  unfold partOf
  rw [isAgg30,size30]
  simp only [Nat.zero_add]
  rw [if_pos (by rw [hfl];omega),flatGat hL i cs hz]
 ·simp only [objsOf,List.all_cons,List.all_nil,Bool.and_true]
  unfold ltB
  simp;omega
theorem fn30H {e : Exts} {X : Heap} {N : Nat} (hN : X.size = N) (L : List AV) (hL : ∀ x ∈ L,SlipG x) (hn : L.length < 100000) (b v : Nat) (hb : b < N) (hr : X.row b v = some (0,30,6,true,L.flatMap AV.cells)) (y : AV) (hy : SlOf 6 L y) :
  Fn' (Cx e) 30 [.sl b v 0 L.length none,y] X (fun v _ => v = .v (.bool true)) := by
 have hit : ∀ x ∈ L,ItG 6 x := fun x hx => by obtain ⟨p1,p2,p3,s1,s2,s3,rfl⟩ := hL x hx;exact ⟨_,rfl,rfl⟩
 rw [fn_step (fn_30 e) (show Tryz.f30.body = some _ from rfl)]
 have hly := hy.len
 have hlx : slLen (.sl b v 0 L.length none) = some (.v (.int .i64 L.length)) := rfl
 simp -implicitDefEqProofs only [Tryz.f30,go_sem,↓reduceIte,Int.reduceEq,Int.reduceLT,Int.reduceLE,List.reduceReplicate,intA,setT_nil,setT_cons,hy.cells,hy.flat,hy.bound,hlx,hly,↓boolP_bool,↓iteB_true,↓iteB_false]
 refine Lp_ruleQ (P := fun μ a H => ∃ j,j + μ = L.length ∧ a = ⟨26,[(0,.sl b v 0 L.length none),(1,y),(4,.v (.bool false)),(10,.v (.bool false)),(5,intA j)],[]⟩ ∧ X = H) ?_ L.length _ _ ⟨0,by omega,rfl,rfl⟩
 rintro Q KK hQ hKK μ _ _ ⟨j,hj,rfl,rfl⟩
 cases μ with
 | zero =>
  obtain rfl : j = L.length := by omega
  have hlt : ¬ (L.length : Int) < (L.length : Int) := by omega
  simp -implicitDefEqProofs only [go_sem,↓reduceIte,Int.reduceEq,Int.reduceLT,Int.reduceLE,List.reduceReplicate,intA,setT_nil,setT_cons,hy.cells,hy.flat,hy.bound,hlx,hly,hlt,↓boolP_bool,↓iteB_true,↓iteB_false]
  refine hKK _ _ _ ?_
  simp -implicitDefEqProofs only [go_sem,↓reduceIte,Int.reduceEq,Int.reduceLT,Int.reduceLE,List.reduceReplicate,intA,setT_nil,setT_cons,↓boolP_bool,↓iteB_true,↓iteB_false]
  rfl
 | succ μ =>
  obtain ⟨z,hz⟩ := at_lt L j (by omega)
  have hlt : (j : Int) < ((L.length : Nat) : Int) := by omega
  have hw := wrap_succ j (by omega)
  obtain ⟨p1,p2,p3,s1,s2,s3,rfl⟩ := hL z (List.mem_of_getElem? hz)
  obtain ⟨p,hp1,hp2,hp3⟩ := slG_get hN hit hb hr hz
  have hiy := hy.idx hz
  rw [← plus_nil X]
  simp -implicitDefEqProofs only [go_sem,↓reduceIte,Int.reduceEq,Int.reduceLT,Int.reduceLE,List.reduceReplicate,intA,setT_nil,setT_cons,hy.cells,hy.flat,hy.bound,hlx,hly,hlt,↓boolP_bool,↓iteB_true,↓iteB_false]
  refine wp_drawX [([],[],false),([],[],false),([],[],false),([],[],false),([],[],false),([],[],false),([],[],false),([3],[],false),([],[],false)] (by kernel_rfl) (by kernel_rfl) ?_
  simp -implicitDefEqProofs only [go_sem,↓reduceIte,Int.reduceEq,Int.reduceLT,Int.reduceLE,List.reduceReplicate,intA,setT_nil,setT_cons,hy.cells,hy.flat,hy.bound,hp1,hiy,sizeP hN,hp3 _ (Nat.le_refl N),hp2,ne30_self,hw,settleP0 hN,settleP hN,trimP0 hN,↓boolP_bool,↓iteB_true,↓iteB_false]
  rw [plus_nil]
  exact Again.mk' μ (by omega) (hQ _ _ _ ⟨j + 1,by omega,rfl,rfl⟩)
theorem call30H {e : Exts} (he : Quiet e) {X : Heap} (L : List AV) (hL : ∀ x ∈ L,SlipG x) (hn : L.length < 100000) (b v : Nat) (hb : b < X.size) (hr : X.row b v = some (0,30,6,true,L.flatMap AV.cells)) (y : AV) (hy : SlOf 6 L y) (me : FuncId) (d : Option Tmp) : callA (Cx e) (lim (Cx e)) me 30 d [.sl b v 0 L.length none,y] X = some (.v (.bool true),X) := by
 refine callA_still (ext_30 he) (pure_30 _ _ _) ?_ (fun h0 => ?_) (fn30H (X := { X with lock := X.size }) rfl L hL hn b v hb ?_ y hy)
 ·rcases hy with ⟨rfl,_⟩ | ⟨c,rfl⟩ <;> rfl
 ·have h9 := boundL_le.1 (Nat.le_of_eq h0) (.sl b v 0 L.length none) (by simp)
  exact absurd h9 (by show ¬ b + 1 ≤ 0;omega)
 ·exact hr
end Go.Ev
namespace Go.Ev
open Go.Proofs
attribute [local irreducible] Wp WpS
theorem min_three (x y z : Int) : minmaxA false (.v (.int .i64 x)) [.v (.int .i64 y),.v (.int .i64 z)] = some (.v (.int .i64 (min (min x y) z))) := by
 have h := min_two x y
 have h2 := min_two (min x y) z
 unfold minmaxA at h ⊢
 cases hm : minmax2 false (.v (.int .i64 x)) (.v (.int .i64 y)) with
 | none => rw [hm] at h;cases h
 | some v =>
  rw [hm] at h
  obtain rfl : v = .v (.int .i64 (min x y)) := by simpa [minmaxA] using h
  exact h2
theorem max_three (x y z : Int) : minmaxA true (.v (.int .i64 x)) [.v (.int .i64 y),.v (.int .i64 z)] = some (.v (.int .i64 (max (max x y) z))) := by
 have h := max_two x y
 have h2 := max_two (max x y) z
 unfold minmaxA at h ⊢
 cases hm : minmax2 true (.v (.int .i64 x)) (.v (.int .i64 y)) with
 | none => rw [hm] at h;cases h
 | some v =>
  rw [hm] at h
  obtain rfl : v = .v (.int .i64 (max x y)) := by simpa [minmaxA] using h
  exact h2
theorem u16_small (n : Nat) (h : n < 65536) : convA Tryz.prog 3 76 (.v (.int .i64 n)) = some (.v (.int .u16 n)) := by
 have h1 : convA Tryz.prog 3 76 (.v (.int .i64 n)) = some (.v (.int .u16 (IntKind.u16.wrap n))) := by kernel_rfl
 rw [h1,show IntKind.u16.wrap (n : Int) = n from IntWalk.u16_in _ (by omega)]
theorem slipG_flat {L : List AV} (h : ∀ x ∈ L,SlipG x) : (L.flatMap AV.cells).all AV.flat = true ∧ boundL (L.flatMap AV.cells) = 0 := by
 induction L with
 | nil => exact ⟨rfl,rfl⟩
 | cons x r ih =>
  obtain ⟨p1,p2,p3,s1,s2,s3,rfl⟩ := h x (List.mem_cons_self ..)
  obtain ⟨h1,h2⟩ := ih fun y hy => h y (List.mem_cons_of_mem _ hy)
  rw [List.flatMap_cons,cells_g]
  refine ⟨?_, ?_⟩
  ·rw [List.all_append,h1];rfl
  ·refine Nat.le_zero.1 (boundL_le.2 fun z hz => ?_)
   rcases List.mem_append.1 hz with hz | hz
   ·have : z = .v (.int .i64 p1) ∨ z = .v (.int .i64 p2) ∨ z = .v (.int .i64 p3) ∨ z = .v (.string s1) ∨ z = .v (.string s2) ∨ z = .v (.string s3) := by simpa using hz
    rcases this with rfl | rfl | rfl | rfl | rfl | rfl <;> exact Nat.le_refl _
   ·exact boundL_le.1 (Nat.le_of_eq h2) z hz
theorem appTo_vsN {e sz b' : Nat} {H : Heap} {slot n : Nat} {new : List AV} (hn : n ≠ 0) (hf : fitsA b' n = true) (hb : boundL new = 0) : appTo e sz b' H slot n new (.vs sz [] (some 0)) = some (.sl slot 0 0 n none,H.put slot (.cells 0 0 e sz true new)) := by
 unfold appTo
 simp [hn,hf,hb,boundL]
theorem take_drop_app (S : List AV) (f g k : Nat) (h1 : f ≤ g) (h2 : g ≤ k) : (S.take g).drop f ++ (S.take k).drop g = (S.take k).drop f := by
 have e1 : S.take g = (S.take k).take g := by rw [List.take_take,Nat.min_eq_left h2]
 rw [e1]
 generalize S.take k = T
 rw [List.drop_take]
 conv => rhs;rw [← List.take_append_drop (g - f) (T.drop f),List.drop_drop,show f + (g - f) = g by omega]
theorem ansS10 (t : Txt) (ht : Fits t) (ch : AV) (xs : List AV) (hch : SlOf 2 xs ch) (hall : All2 ChapA t xs) (w sd : Int) (hsd : 0 ≤ sd) (hsd2 : sd < 256) (n1 : Nat) (hn1 : n1 < 65536) (n2 : Nat) (hn2 : n2 < 65536) (n3 : Nat) (hn3 : n3 < 65536) : Ans (Cx eA) 10 [.agg [ch],.agg [intA w,.v (.int .u8 sd)],.v (.int .u16 n1),.v (.int .u16 n2),.v (.int .u16 n3)] (.v (.bool true)) := by
 have he := quietA
 have b0 : boundL [AV.agg [ch],.agg [intA w,.v (.int .u8 sd)]] = 0 := by simp only [boundL_cons,bound_agg,hch.bound,boundL_nil];rfl
 have h42 := fun me d H => (ansS42 he t ht ch xs hch hall w sd hsd hsd2).call (me := me) (d := d) (ext_42 he) (pure_42 _ _ _) b0 H
 unfold intA at h42
 unfold Ans
 rw [fn_step (fn_10 eA) (show Tryz.f10.body = some _ from rfl)]
 cases hr : (!greatT t && textB t && cutB w sd)
 ·rw [hr] at h42
  simp -implicitDefEqProofs only [Tryz.f10,go_sem,↓reduceIte,Int.reduceEq,Int.reduceLT,Int.reduceLE,List.reduceReplicate,intA,setT_nil,setT_cons,hch.cells,hch.flat,hch.bound,call31,h42,Bool.not_false,↓boolP_bool,↓iteB_true,↓iteB_false]
 ·rw [hr] at h42
  simp only [Bool.and_eq_true,Bool.not_eq_true'] at hr
  obtain ⟨⟨hg,hT⟩,hcut⟩ := hr
  obtain ⟨w,rfl⟩ : ∃ w' : Nat,w = w' := ⟨w.toNat,by unfold cutB inB at hcut;simp at hcut;omega⟩
  obtain ⟨sd,rfl⟩ : ∃ s' : Nat,sd = s' := ⟨sd.toNat,by omega⟩
  have hcw : 12 ≤ w ∧ w ≤ 80 ∧ 1 ≤ sd ∧ sd ≤ 3 := by unfold cutB inB at hcut;simp at hcut;omega
  obtain ⟨w1,w2,w3,w4⟩ := hcw
  have hs := small_of hT
  have hN := wordsT_small hs
  have h44 := call14 he t ht ch xs hch hall hT
  have b1 : ∀ k : Nat,boundL [AV.agg [ch],.v (.int .u16 k)] = 0 := fun k => by simp only [boundL_cons,bound_agg,hch.bound,boundL_nil];rfl
  have b5 : ∀ a b c a' b' c' : Int,boundL [AV.agg [ch],.agg [intA w,.v (.int .u8 sd)],.agg [intA a,intA b,intA c],.agg [intA a',intA b',intA c']] = 0 := fun a b c a' b' c' => by simp only [boundL_cons,bound_agg,hch.bound,boundL_nil];rfl
  have a43 := ansS43 he eAj t ht hT ch xs hch hall w sd w1 w2 w3 w4
  have c43 := fun me d H => a43.call (ext_43 he) (pure_43 eA me d) b0 H
  have hSl := slipsT_len w sd t 0
  have hSg := slipsT_g w sd t 0
  -- the three numbers in order
  obtain ⟨f,g,k,hf,hg2,hk,hfg,hgk,hmn,hmx,hmd⟩ : ∃ f g k : Nat,f < (wordsT 0 t).length ∧ g < (wordsT 0 t).length ∧ k < (wordsT 0 t).length ∧ f ≤ g ∧ g ≤ k ∧ min (min ((n1 % (wordsT 0 t).length : Nat) : Int) ((n2 % (wordsT 0 t).length : Nat) : Int)) ((n3 % (wordsT 0 t).length : Nat) : Int) = (f : Int) ∧ max (max ((n1 % (wordsT 0 t).length : Nat) : Int) ((n2 % (wordsT 0 t).length : Nat) : Int)) ((n3 % (wordsT 0 t).length : Nat) : Int) = (k : Int) ∧ n1 % (wordsT 0 t).length + n2 % (wordsT 0 t).length + n3 % (wordsT 0 t).length = f + g + k := by
   have e1 := Nat.mod_lt n1 (show (wordsT 0 t).length > 0 by omega)
   have e2 := Nat.mod_lt n2 (show (wordsT 0 t).length > 0 by omega)
   have e3 := Nat.mod_lt n3 (show (wordsT 0 t).length > 0 by omega)
   generalize n1 % (wordsT 0 t).length = a at *
   generalize n2 % (wordsT 0 t).length = b at *
   generalize n3 % (wordsT 0 t).length = c at *
   refine ⟨min (min a b) c,a + b + c - min (min a b) c - max (max a b) c,max (max a b) c, ?_⟩
   omega
  obtain ⟨pf,hpf⟩ := at_lt (wordsT 0 t) f hf
  obtain ⟨pg,hpg⟩ := at_lt (wordsT 0 t) g hg2
  obtain ⟨pk,hpk⟩ := at_lt (wordsT 0 t) k hk
  have c47 := fun (i : Nat) (hi : i < (wordsT 0 t).length) (p : Plc × ByteArray) (hp : (wordsT 0 t)[i]? = some p) (me : FuncId) (d : Option Tmp) (H : Heap) => (ansS47 he t ht ch xs hch hall hT i (by omega) p (by rw [Nat.mod_eq_of_lt hi];exact hp)).call (ext_47 he) (pure_47 eA me d) (b1 i) H
  have c47f := c47 f hf pf hpf
  have c47g := c47 g hg2 pg hpg
  have c47k := c47 k hk pk hpk
  obtain ⟨q1,a39fk⟩ := ansS39 he eAj t ht hT ch xs hch hall w sd w1 w2 w3 w4 f k pf pk hpf hpk (by omega)
  obtain ⟨q2,a39fg⟩ := ansS39 he eAj t ht hT ch xs hch hall w sd w1 w2 w3 w4 f g pf pg hpf hpg (by omega)
  unfold plN at a39fk a39fg
  have c39fk := fun me d H => a39fk.call (ext_39 he) (pure_39 eA me d) (b5 _ _ _ _ _ _) H
  have c39fg := fun me d H => a39fg.call (ext_39 he) (pure_39 eA me d) (b5 _ _ _ _ _ _) H
  have hrem : ∀ (x y : Operand) (m : Int),binA Tryz.prog .rem 3 x y (.v (.int .i64 m)) (.v (.int .i64 (wordsT 0 t).length)) = some (.v (.int .i64 (Int.tmod m (wordsT 0 t).length))) := fun x y m => bin_rem x y m _ (by omega)
  have hcv : ∀ n : Nat,n < 65536 → convA Tryz.prog 76 3 (.v (.int .u16 n)) = some (.v (.int .i64 n)) := fun n h => by rw [conv_u16,wrap_nat n (by omega)]
  have hcv1 := hcv n1 hn1
  have hcv2 := hcv n2 hn2
  have hcv3 := hcv n3 hn3
  have hm1 : Int.tmod (n1 : Int) ((wordsT 0 t).length : Int) = ((n1 % (wordsT 0 t).length : Nat) : Int) := rfl
  have hm2 : Int.tmod (n2 : Int) ((wordsT 0 t).length : Int) = ((n2 % (wordsT 0 t).length : Nat) : Int) := rfl
  have hm3 : Int.tmod (n3 : Int) ((wordsT 0 t).length : Int) = ((n3 % (wordsT 0 t).length : Nat) : Int) := rfl
  generalize n1 % (wordsT 0 t).length = a at *
  generalize n2 % (wordsT 0 t).length = b at *
  generalize n3 % (wordsT 0 t).length = c at *
  have hs1 : IntKind.i64.wrap ((a : Int) + (b : Int)) = (a : Int) + (b : Int) := wrap_in _ (by omega) (by omega)
  have hs2 : IntKind.i64.wrap ((a : Int) + (b : Int) + (c : Int)) = (a : Int) + (b : Int) + (c : Int) := wrap_in _ (by omega) (by omega)
  have hs3 : IntKind.i64.wrap ((a : Int) + (b : Int) + (c : Int) - (f : Int)) = (a : Int) + (b : Int) + (c : Int) - (f : Int) := wrap_in _ (by omega) (by omega)
  have hs4 : IntKind.i64.wrap ((a : Int) + (b : Int) + (c : Int) - (f : Int) - (k : Int)) = (g : Int) := by rw [wrap_in _ (by omega) (by omega)];omega
  have hlt1 : ¬ ((wordsT 0 t).length : Int) < 1 := by omega
  have huf := u16_small f (by omega)
  have hug := u16_small g (by omega)
  have huk := u16_small k (by omega)
  unfold intA at c47f c47g c47k c39fk c39fg c43
  have hslS : SlOf 6 (slipsT w sd 0 t) (.vs 6 (slipsT w sd 0 t) none) := Or.inr ⟨none,rfl⟩
  have hlnS := hslS.len
  rw [hSl] at hlnS
  have hk1 := wrap_succ k (by omega)
  obtain ⟨q3,hsc⟩ := slice_midA (P := Tryz.prog) (t := 31) (et := 30) (sz := 6) (by kernel_rfl) (by kernel_rfl) (slipsT w sd 0 t) none f (k + 1) (by omega) (by omega)
  have hgW : ∀ i j,∀ z ∈ ((slipsT w sd 0 t).take j).drop i,SlipG z := fun i j z hz => hSg z (List.mem_of_mem_take (List.mem_of_mem_drop hz))
  have hlW : ∀ i j,(((slipsT w sd 0 t).take j).drop i).length < 100000 := fun i j => by rw [List.length_drop,List.length_take];omega
  have c30 := fun i j p q me d H => (ansS30 (e := eA) _ (hgW i j) (hlW i j) (.vs 6 (((slipsT w sd 0 t).take j).drop i) p) (.vs 6 (((slipsT w sd 0 t).take j).drop i) q) (Or.inr ⟨_,rfl⟩) (Or.inr ⟨_,rfl⟩)).call (me := me) (d := d) (ext_30 he) (pure_30 _ _ _) rfl H
  have c30a := c30 f (k + 1) q1 q3
  rcases Nat.lt_or_ge g k with hgk2 | hgk2
  ·have hltg : (g : Int) < (k : Int) := by omega
   have hg1 := wrap_succ g (by omega)
   have hug1 := u16_small (g + 1) (by omega)
   obtain ⟨pn,hpn⟩ := at_lt (wordsT 0 t) (g + 1) (by omega)
   have c47n := c47 (g + 1) (by omega) pn hpn
   obtain ⟨q4,a39nk⟩ := ansS39 he eAj t ht hT ch xs hch hall w sd w1 w2 w3 w4 (g + 1) k pn pk hpn hpk (by omega)
   unfold plN at a39nk
   have c39nk := fun me d H => a39nk.call (ext_39 he) (pure_39 eA me d) (b5 _ _ _ _ _ _) H
   unfold intA at c47n c39nk
   simp -implicitDefEqProofs only [Tryz.f10,go_sem,↓reduceIte,Int.reduceEq,Int.reduceLT,Int.reduceLE,List.reduceReplicate,intA,setT_nil,setT_cons,hch.cells,hch.flat,hch.bound,call31,h42,h44,c43,hlt1,decide_false,Bool.not_true,Bool.not_false,↓boolP_bool,↓iteB_true,↓iteB_false]
   refine wp_drawX [([],[],false),([],[],false),([],[],false),([],[],false),([],[],false),([],[],false),([],[],false),([],[],false),([],[],false),([],[],false),([],[],false),([],[],false),([],[],false),([],[],false),([],[],false)] (by kernel_rfl) (by kernel_rfl) ?_
   simp -implicitDefEqProofs only [go_sem,↓reduceIte,Int.reduceEq,Int.reduceLT,Int.reduceLE,List.reduceReplicate,intA,setT_nil,setT_cons,hcv1,hcv2,hcv3,hrem,hm1,hm2,hm3,min_three,max_three,hmn,hmx,hs1,hs2,hs3,hs4,huf,hug,huk,c47f,c47g,c47k,c39fk,c39fg,hlnS,hk1,hsc,c30a,hltg,hg1,hug1,c47n,c39nk,hch.cells,hch.flat,hch.bound,Bool.not_true,Bool.not_false,↓boolP_bool,↓iteB_true,↓iteB_false]
   have hX1 := slipG_flat (hgW f (g + 1))
   have hX2 := slipG_flat (hgW (g + 1) (k + 1))
   have happ := take_drop_app (slipsT w sd 0 t) f (g + 1) (k + 1) (by omega) (by omega)
   have hn1' : (((slipsT w sd 0 t).take (g + 1)).drop f).length = g + 1 - f := by rw [List.length_drop,List.length_take];omega
   have hn2' : (((slipsT w sd 0 t).take (k + 1)).drop (g + 1)).length = k - g := by rw [List.length_drop,List.length_take];omega
   have hn3' : (((slipsT w sd 0 t).take (k + 1)).drop f).length = k + 1 - f := by rw [List.length_drop,List.length_take];omega
   have hg3 := hgW f (k + 1)
   have hl3 := hlW f (k + 1)
   have hi1 : ∀ z ∈ ((slipsT w sd 0 t).take (g + 1)).drop f,ItG 6 z := fun z hz => by obtain ⟨p1,p2,p3,s1,s2,s3,rfl⟩ := hgW f (g + 1) z hz;exact ⟨_,rfl,rfl⟩
   have hfl1 := flatG hi1
   rw [hn1'] at hfl1
   have hfm : (((slipsT w sd 0 t).take (k + 1)).drop f).flatMap AV.cells = (((slipsT w sd 0 t).take (g + 1)).drop f).flatMap AV.cells ++ (((slipsT w sd 0 t).take (k + 1)).drop (g + 1)).flatMap AV.cells := by rw [← happ,List.flatMap_append]
   have hf1 : fitsA 72 (g + 1 - f) = true := by unfold fitsA;exact decide_eq_true (by omega)
   have hf2 : fitsA 72 (g + 1 - f + (k - g)) = true := by unfold fitsA;exact decide_eq_true (by omega)
   generalize hW3 : ((slipsT w sd 0 t).take (k + 1)).drop f = W3 at *
   generalize ((slipsT w sd 0 t).take (g + 1)).drop f = W1 at *
   generalize ((slipsT w sd 0 t).take (k + 1)).drop (g + 1) = W2 at *
   rw [if_neg (by rw [hX1.1];decide),hn1',appTo_vsN (by omega) hf1 hX1.2]
   simp only [bindO_some,hn2',hX2.1]
   generalize W1.flatMap AV.cells = F1 at *
   generalize W2.flatMap AV.cells = F2 at *
   rw [if_neg (by decide),appTo_own (m := 0) (e' := 30) (cs := F1) rfl hfl1.symm (Nat.zero_le _) hf2 (by omega) (by omega),hX2.2]
   simp only [bindO_some]
   rw [show g + 1 - f + (k - g) = W3.length by omega,call30H he W3 hg3 hl3 6 (0 + 1) (by show 6 < 7;decide) (by rw [hfm];rfl) (.vs 6 W3 q1) (Or.inr ⟨_,rfl⟩)]
   rfl
  ·have hltg : ¬ (g : Int) < (k : Int) := by omega
   obtain rfl : g = k := by omega
   have c30b := c30 f (g + 1)
   simp -implicitDefEqProofs only [Tryz.f10,go_sem,↓reduceIte,Int.reduceEq,Int.reduceLT,Int.reduceLE,List.reduceReplicate,intA,setT_nil,setT_cons,hch.cells,hch.flat,hch.bound,call31,h42,h44,c43,hlt1,decide_false,Bool.not_true,Bool.not_false,↓boolP_bool,↓iteB_true,↓iteB_false]
   refine wp_drawX [([],[],false),([],[],false),([],[],false),([],[],false),([],[],false),([],[],false),([],[],false),([],[],false),([],[],false),([],[],false),([],[],false),([],[],false),([],[],false),([],[],false),([],[],false)] (by kernel_rfl) (by kernel_rfl) ?_
   simp -implicitDefEqProofs only [go_sem,↓reduceIte,Int.reduceEq,Int.reduceLT,Int.reduceLE,List.reduceReplicate,intA,setT_nil,setT_cons,hcv1,hcv2,hcv3,hrem,hm1,hm2,hm3,min_three,max_three,hmn,hmx,hs1,hs2,hs3,hs4,huf,hug,huk,c47f,c47g,c47k,c39fk,c39fg,hlnS,hk1,hsc,c30a,c30b,hltg,hch.cells,hch.flat,hch.bound,Bool.not_true,Bool.not_false,↓boolP_bool,↓iteB_true,↓iteB_false]
end Go.Ev
namespace Go.Ev
open Go.Lib
theorem tabIs_of_vars {P : Program} {W : World} {name : String} {k : IntKind} {zs : List Int} {g : Nat} {t e : TypeId} {n : Nat}
  (hg : P.globalNamed name = some g) (hty : (P.globals[g]?).map (·.type) = some t) (ht : P.underlying t = some (.array n e)) (he : P.underlying e = some (.int k)) (hce : P.cellsOf e = 1) (hct : P.cellsOf t = n) :
  ∀ {l : List (String × DataW Unit)} {ps : List MemPlace},(name,tabData k zs) ∈ l → DataW.LaidVars P W l ps → TabIs P W name k zs
 | [],_,hm,_ => by cases hm
 | (nm,d) :: rest,ps,hm,h => by
  obtain ⟨g',t',cs,fuel,p,q,hg',ht',hvar,hd,hr,_⟩ := h
  rcases List.mem_cons.1 hm with hm | hm
  ·cases hm
   obtain rfl := Option.some.inj (hg.symm.trans hg')
   obtain rfl := Option.some.inj (hty.symm.trans ht')
   unfold TabIs
   rw [hvar,← cells_of_tab ht he hce hct hd]
  ·exact tabIs_of_vars hg hty ht he hce hct hm hr
theorem heap_of_tab {P : Program} {W : World} {name : String} {k : IntKind} {zs : List Int} {g : Nat} (hg : P.globalNamed name = some g) (h : TabIs P W name k zs) :
  ∃ e fz,allZ W g = some (.cells (zs.map fun z => Value.int k z).toArray e fz) := by
 unfold TabIs World.var? at h
 rw [hg] at h
 simp only [Option.bind_some] at h
 unfold allZ
 cases ho : W.heap[g]? with
 | none => rw [ho] at h;cases h
 | some o =>
  rw [ho] at h
  cases o <;> simp at h
  subst h
  exact ⟨_,_,rfl⟩
end Go.Ev
