/- What the proof of this claim stands on, part 5: an evaluator of the model, proved right, and what it answers for functions of the program. -/
import Derived.Test.YtpfbekhkakfoiaaGreatDoorPk03
import Derived.WalkKit
set_option maxHeartbeats 8000000
set_option maxRecDepth 1000000
set_option linter.unusedSimpArgs false
namespace Go.Ev
open Go.Proofs
attribute [local irreducible] Wp WpS
structure Cst where
 id : AV
 ls : List AV
 b : Nat
 v : Nat
def Cst.sl (c : Cst) : AV := if c.ls = [] then .v (.slice none 0 0) else .sl c.b c.v 0 c.ls.length none
def Cst.cells (c : Cst) : List AV := [c.id,c.sl]
def rowsC (cs : List Cst) : Fm := cs.flatMap fun c => if c.ls = [] then [] else [(c.b,.cells c.v 0 87 1 true c.ls)]
theorem rowsC_mem {cs : List Cst} {p : Nat × AObj} : p ∈ rowsC cs ↔ ∃ c ∈ cs,c.ls ≠ [] ∧ p = (c.b,.cells c.v 0 87 1 true c.ls) := by
 unfold rowsC
 rw [List.mem_flatMap]
 constructor
 ·rintro ⟨c,hc,hp⟩
  by_cases h : c.ls = []
  ·rw [if_pos h] at hp;cases hp
  ·rw [if_neg h] at hp;exact ⟨c,hc,h,by simpa using hp⟩
 ·rintro ⟨c,hc,h,rfl⟩
  exact ⟨c,hc,by rw [if_neg h];simp⟩
abbrev St55 := List (AV × List AV)
structure Cs55 (s : St55) (cs : List Cst) (m5 : Nat) : Prop where
 st : cs.map (fun c => (c.id,c.ls)) = s
 lo : ∀ c ∈ cs,c.ls ≠ [] → 8 ≤ c.b ∧ c.b < m5
 inj : ∀ (i j : Nat) (c c' : Cst),cs[i]? = some c → cs[j]? = some c' → c.ls ≠ [] → c'.ls ≠ [] → c.b = c'.b → i = j
 fl : ∀ c ∈ cs,∃ t,c.id = intA t
 lb : ∀ c ∈ cs,boundL c.ls = 0 ∧ c.ls.all AV.flat = true
def base55 (n : Nat) (chv : AV) (id : Int) (rs : AV) (c4 : List AV) (v5 m5 : Nat) (cs : List Cst) : Fm :=
 [(0,.cells 0 0 140 1 false [chv]),(1,.cells 0 0 66 1 false [intA id,rs]),(2,.cells 0 0 24 1 false [.v (.slice none 0 0)]),(3,.cells 0 6 24 1 false [.sl 5 v5 0 n none]),(4,.cells 0 0 112 1 false c4),(5,.cells v5 m5 112 2 true (cs.flatMap Cst.cells))]
def R55 (n : Nat) (chv : AV) (id : Int) (rs : AV) (c4 : List AV) (v5 : Nat) (s : St55) (m : Fm) : Prop := ∃ cs m5,Cs55 s cs m5 ∧ m = base55 n chv id rs c4 v5 m5 cs ++ rowsC cs
def stp55 (wf : Nat → Nat → AV) (s : St55) (x : List AV) : AExit × St55 :=
 match x with
 | [.agg [.v (.int _ i),.v (.int _ k),_],_] => (.normal,s.modify i.toNat fun c => (c.1,c.2 ++ [wf i.toNat k.toNat]))
 | _ => (.normal,s)
theorem R55_anch {n : Nat} {chv : AV} {id : Int} {rs : AV} {c4 : List AV} {v5 : Nat} (s : St55) (m : Fm) (h : R55 n chv id rs c4 v5 s m) : Anch 6 m := by
 obtain ⟨cs,m5,hc,rfl⟩ := h
 rintro k hk ⟨p,hp,hpk⟩
 rcases List.mem_append.1 hp with hp | hp
 ·exfalso
  unfold base55 at hp
  simp only [List.mem_cons,List.not_mem_nil,or_false] at hp
  rcases hp with rfl | rfl | rfl | rfl | rfl | rfl <;> simp at hpk <;> omega
 ·obtain ⟨c,hcm,hne,rfl⟩ := rowsC_mem.1 hp
  refine ⟨(5,.cells v5 m5 112 2 true (cs.flatMap Cst.cells)),List.mem_append_left _ (by unfold base55;simp),by simp only;omega, ?_⟩
  have := (hc.lo c hcm hne).2
  simp only at hpk
  show k < m5
  omega
theorem R55_free {n : Nat} {chv : AV} {id : Int} {rs : AV} {c4 : List AV} {v5 : Nat} (s : St55) (m : Fm) (h : R55 n chv id rs c4 v5 s m) : ¬ keyIn 6 m ∧ ¬ keyIn 7 m := by
 obtain ⟨cs,m5,hc,rfl⟩ := h
 constructor <;> (
  rintro ⟨p,hp,hpk⟩
  rcases List.mem_append.1 hp with hp | hp
  ·unfold base55 at hp
   simp only [List.mem_cons,List.not_mem_nil,or_false] at hp
   rcases hp with rfl | rfl | rfl | rfl | rfl | rfl <;> simp at hpk
  ·obtain ⟨c,hcm,hne,rfl⟩ := rowsC_mem.1 hp
   have := (hc.lo c hcm hne).1
   simp only at hpk
   omega)
theorem base55_lt {n : Nat} {chv : AV} {id : Int} {rs : AV} {c4 : List AV} {v5 m5 : Nat} {cs : List Cst} {p : Nat × AObj} (h : p ∈ base55 n chv id rs c4 v5 m5 cs) : p.1 < 5 ∨ p = (5,.cells v5 m5 112 2 true (cs.flatMap Cst.cells)) := by
 unfold base55 at h
 simp only [List.mem_cons,List.not_mem_nil,or_false] at h
 rcases h with rfl | rfl | rfl | rfl | rfl | rfl
 ·exact Or.inl (by simp)
 ·exact Or.inl (by simp)
 ·exact Or.inl (by simp)
 ·exact Or.inl (by simp)
 ·exact Or.inl (by simp)
 ·exact Or.inr rfl
theorem base55_lo {n : Nat} {chv : AV} {id : Int} {rs : AV} {c4 : List AV} {v5 m5 m5' : Nat} {cs cs' : List Cst} {p : Nat × AObj} (h : p ∈ base55 n chv id rs c4 v5 m5 cs) (hp : p.1 < 5) : p ∈ base55 n chv id rs c4 v5 m5' cs' := by
 unfold base55 at h ⊢
 simp only [List.mem_cons,List.not_mem_nil,or_false] at h ⊢
 rcases h with h | h | h | h | h | h
 ·exact Or.inl h
 ·exact Or.inr (Or.inl h)
 ·exact Or.inr (Or.inr (Or.inl h))
 ·exact Or.inr (Or.inr (Or.inr (Or.inl h)))
 ·exact Or.inr (Or.inr (Or.inr (Or.inr (Or.inl h))))
 ·rw [h] at hp;simp at hp
theorem base55_five {n : Nat} {chv : AV} {id : Int} {rs : AV} {c4 : List AV} {v5 m5 : Nat} {cs : List Cst} : (5,AObj.cells v5 m5 112 2 true (cs.flatMap Cst.cells)) ∈ base55 n chv id rs c4 v5 m5 cs := by unfold base55;simp
theorem fin55 {n : Nat} {chv : AV} {id : Int} {rs : AV} {c4 : List AV} {v m5 i : Nat} {s : St55} {cs : List Cst} {c0 : Cst} {X Y W : Heap} {N : Nat} {L' : ALoop} (hXY : ∀ b,b ≠ 7 → Y.get b = X.get b) (hl7 : Y.get 7 = some (.loop L')) (hXN : X.size = N) (hYN : Y.size = N) (hXl : X.lock = 0) (hN : 8 ≤ N)
  (hH : Has (base55 n chv id rs c4 v m5 cs ++ rowsC cs) Y) (hcs : Cs55 s cs m5) (hc0 : cs[i]? = some c0) (b' v' m5' : Nat) (w : AV) (hw : w.flat = true ∧ bound w = 0)
  (hW5 : W.get 5 = some (.cells v m5' 112 2 true ((cs.set i ⟨c0.id,c0.ls ++ [w],b',v'⟩).flatMap Cst.cells))) (hWb : W.get b' = some (.cells v' 0 87 1 true (c0.ls ++ [w]))) (hWo : ∀ b,b < N → b ≠ 5 → b ≠ b' → W.get b = Y.get b)
  (hWl : W.lock = 0) (hWs : N ≤ W.size) (hb : (c0.ls = [] ∧ N ≤ b') ∨ (c0.ls ≠ [] ∧ b' = c0.b)) (hm : m5 ≤ m5') (hbm : b' < m5') :
  ∃ m',R55 n chv id rs c4 v (s.modify i fun c => (c.1,c.2 ++ [w])) m' ∧ Has m' W ∧ loopObj W 7 = some L' ∧ Moves ((7,.loop L') :: (base55 n chv id rs c4 v m5 cs ++ rowsC cs)) X ((7,.loop L') :: m') W := by
 have hcm := List.mem_of_getElem? hc0
 have hi := (List.getElem?_eq_some_iff.1 hc0).1
 have hb8 : 8 ≤ b' := by
  rcases hb with ⟨_,h⟩ | ⟨h,rfl⟩
  ·omega
  ·exact (hcs.lo c0 hcm h).1
 have hrow : ∀ c ∈ cs,c.ls ≠ [] → c.b < N := fun c hc hne => by
  have := get_ltS (hH _ (List.mem_append_right _ (rowsC_mem.2 ⟨c,hc,hne,rfl⟩)))
  simp only at this;omega
 have hother : ∀ t c,t ≠ i → cs[t]? = some c → c.ls ≠ [] → c.b ≠ b' := by
  intro t c ht hc hne e
  rcases hb with ⟨_,h⟩ | ⟨h,h2⟩
  ·have := hrow c (List.mem_of_getElem? hc) hne;omega
  ·exact ht (hcs.inj t i c c0 hc hc0 hne h (e.trans h2))
 have hset : ∀ (t : Nat) (c : Cst),(cs.set i ⟨c0.id,c0.ls ++ [w],b',v'⟩)[t]? = some c → (t = i ∧ c = ⟨c0.id,c0.ls ++ [w],b',v'⟩) ∨ (t ≠ i ∧ cs[t]? = some c) := by
  intro t c h
  rw [List.getElem?_set] at h
  by_cases hti : i = t
  ·rw [if_pos hti,if_pos (by omega)] at h
   exact Or.inl ⟨hti.symm,(Option.some.inj h).symm⟩
  ·rw [if_neg hti] at h;exact Or.inr ⟨fun e => hti e.symm,h⟩
 have hmem : ∀ c ∈ cs.set i ⟨c0.id,c0.ls ++ [w],b',v'⟩,c ∈ cs ∨ c = ⟨c0.id,c0.ls ++ [w],b',v'⟩ := fun c hc => List.mem_or_eq_of_mem_set hc
 have hne' : c0.ls ++ [w] ≠ [] := by simp
 refine ⟨base55 n chv id rs c4 v m5' (cs.set i ⟨c0.id,c0.ls ++ [w],b',v'⟩) ++ rowsC (cs.set i ⟨c0.id,c0.ls ++ [w],b',v'⟩),⟨_,m5',⟨?_, ?_, ?_, ?_, ?_⟩,rfl⟩, ?_, ?_,⟨?_, ?_, ?_, ?_⟩⟩
 ·rw [← hcs.st]
  apply List.ext_getElem?
  intro t
  rw [List.getElem?_map,List.getElem?_set,List.getElem?_modify,List.getElem?_map]
  by_cases hti : i = t
  ·subst hti;rw [if_pos rfl,if_pos hi,hc0];simp
  ·rw [if_neg hti];cases cs[t]? <;> simp [hti]
 ·intro c hc hne
  rcases hmem c hc with h | rfl
  ·have := hcs.lo c h hne;omega
  ·exact ⟨hb8,hbm⟩
 ·intro t u c c' hc hc' h1 h2 e
  rcases hset t c hc with ⟨rfl,rfl⟩ | ⟨ht,hct⟩ <;> rcases hset u c' hc' with ⟨rfl,rfl⟩ | ⟨hu,hcu⟩
  ·rfl
  ·exact absurd e.symm (hother u c' hu hcu h2)
  ·exact absurd e (hother t c ht hct h1)
  ·exact hcs.inj t u c c' hct hcu h1 h2 e
 ·intro c hc
  rcases hmem c hc with h | rfl
  ·exact hcs.fl c h
  ·exact hcs.fl c0 hcm
 ·intro c hc
  rcases hmem c hc with h | rfl
  ·exact hcs.lb c h
  ·have h0 := hcs.lb c0 hcm
   refine ⟨Nat.le_zero.1 (boundL_le.2 fun x hx => ?_), ?_⟩
   ·rcases List.mem_append.1 hx with hx | hx
    ·exact boundL_le.1 (Nat.le_of_eq h0.1) x hx
    ·rw [List.mem_singleton.1 hx,hw.2];exact Nat.le_refl _
   ·rw [List.all_append,h0.2];simp [hw.1]
 ·intro p hp
  rcases List.mem_append.1 hp with hp | hp
  ·rcases base55_lt hp with h | rfl
   ·rw [hWo p.1 (by omega) (by omega) (by omega)]
    exact hH p (List.mem_append_left _ (base55_lo hp h))
   ·exact hW5
  ·obtain ⟨c,hc,hne,rfl⟩ := rowsC_mem.1 hp
   obtain ⟨t,ht⟩ := List.getElem?_of_mem hc
   rcases hset t c ht with ⟨rfl,rfl⟩ | ⟨hti,hct⟩
   ·exact hWb
   ·have hcm2 := List.mem_of_getElem? hct
    have h8 := hcs.lo c hcm2 hne
    rw [hWo c.b (hrow c hcm2 hne) (by omega) (hother t c hti hct hne)]
    exact hH _ (List.mem_append_right _ (rowsC_mem.2 ⟨c,hcm2,hne,rfl⟩))
 ·refine get_loopObj ?_
  rw [hWo 7 (by omega) (by omega) (by omega)];exact hl7
 ·rw [hWl,hXl]
 ·omega
 ·intro b hbN hk
  have h7 : b ≠ 7 := fun e => hk ⟨_,List.mem_cons_self,e.symm⟩
  have h5 : b ≠ 5 := fun e => hk ⟨_,List.mem_cons_of_mem _ (List.mem_append_left _ base55_five),e.symm⟩
  have hbb : b ≠ b' := by
   rcases hb with ⟨_,h⟩ | ⟨h,h2⟩
   ·omega
   ·exact fun e => hk ⟨_,List.mem_cons_of_mem _ (List.mem_append_right _ (rowsC_mem.2 ⟨c0,hcm,h,rfl⟩)),by simp only;omega⟩
  rw [hWo b (by omega) h5 hbb,hXY b h7]
 ·intro p hp
  rcases List.mem_cons.1 hp with rfl | hp
  ·exact Or.inl ⟨_,List.mem_cons_self,rfl⟩
  ·rcases List.mem_append.1 hp with hp | hp
   ·rcases base55_lt hp with h | rfl
    ·exact Or.inl ⟨p,List.mem_cons_of_mem _ (List.mem_append_left _ (base55_lo hp h)),rfl⟩
    ·exact Or.inl ⟨_,List.mem_cons_of_mem _ (List.mem_append_left _ base55_five),rfl⟩
   ·obtain ⟨c,hc,hne,rfl⟩ := rowsC_mem.1 hp
    obtain ⟨t,ht⟩ := List.getElem?_of_mem hc
    rcases hset t c ht with ⟨rfl,rfl⟩ | ⟨hti,hct⟩
    ·rcases hb with ⟨_,h⟩ | ⟨h,h2⟩
     ·exact Or.inr (by simp only;omega)
     ·exact Or.inl ⟨_,List.mem_cons_of_mem _ (List.mem_append_right _ (rowsC_mem.2 ⟨c0,hcm,h,rfl⟩)),h2.symm⟩
    ·exact Or.inl ⟨_,List.mem_cons_of_mem _ (List.mem_append_right _ (rowsC_mem.2 ⟨c,List.mem_of_getElem? hct,hne,rfl⟩)),rfl⟩
def Cst.fz (c : Cst) : AV := if c.ls = [] then .v (.slice none 0 0) else .vs 1 c.ls none
theorem freeze_sl1 {H : Heap} {b v : Nat} {ls : List AV} {k : Nat} (hk : H.lock = 0) (hr : H.row b v = some (0,87,1,true,ls)) : freezeV H (k + 1) (.sl b v 0 ls.length none) = some (.vs 1 ls none) := by
 unfold freezeV
 simp only [hr,hk]
 rw [if_neg (by omega),if_pos ⟨by omega,by omega⟩,if_pos trivial,List.drop_zero,List.take_of_length_le (by omega),chunk_one]
theorem freeze_cells {H : Heap} (hk : H.lock = 0) : ∀ (cs : List Cst) (k : Nat),2 * cs.length + 4 < k → (∀ c ∈ cs,∃ t,c.id = intA t) → (∀ c ∈ cs,c.ls ≠ [] → H.row c.b c.v = some (0,87,1,true,c.ls)) →
  freezeL H k (cs.flatMap Cst.cells) = some (cs.flatMap fun c => [c.id,c.fz])
 | [],k + 1,_,_,_ => rfl
 | c :: r,k,hl,hi,hr => by
  obtain ⟨k',rfl⟩ : ∃ k',k = k' + 1 + 1 + 1 := ⟨k - 3,by simp at hl;omega⟩
  obtain ⟨t,ht⟩ := hi c (by simp)
  have ih := freeze_cells hk r (k' + 1) (by simp at hl;omega) (fun x hx => hi x (by simp [hx])) (fun x hx => hr x (by simp [hx]))
  have h1 : freezeV H (k' + 1 + 1) c.id = some c.id := by rw [ht];rfl
  have h2 : freezeV H (k' + 1) c.sl = some c.fz := by
   unfold Cst.sl Cst.fz
   by_cases hne : c.ls = []
   ·rw [if_pos hne,if_pos hne];rfl
   ·rw [if_neg hne,if_neg hne];exact freeze_sl1 hk (hr c (by simp) hne)
  rw [List.flatMap_cons,List.flatMap_cons]
  show (match freezeV H (k' + 1 + 1) c.id,freezeL H (k' + 1 + 1) (c.sl :: r.flatMap Cst.cells) with | some y,some ys => some (y :: ys) | _,_ => none) = _
  rw [h1]
  show (match some c.id,(match freezeV H (k' + 1) c.sl,freezeL H (k' + 1) (r.flatMap Cst.cells) with | some y,some ys => some (y :: ys) | _,_ => none) with | some y,some ys => some (y :: ys) | _,_ => none) = _
  rw [h2,ih];rfl
theorem chunk_two : ∀ cs : List Cst,chunk 2 cs.length (cs.flatMap fun c => [c.id,c.fz]) = cs.map fun c => .agg [c.id,c.fz]
 | [] => rfl
 | c :: r => by
  rw [List.flatMap_cons]
  show (if 2 = 1 then _ else AV.agg (([c.id,c.fz] ++ _).take 2)) :: chunk 2 r.length (([c.id,c.fz] ++ _).drop 2) = _
  rw [if_neg (by omega)]
  show AV.agg [c.id,c.fz] :: chunk 2 r.length (r.flatMap fun c => [c.id,c.fz]) = _
  rw [chunk_two r];rfl
theorem fz_bound {cs : List Cst} (hi : ∀ c ∈ cs,∃ t,c.id = intA t) : boundL (cs.flatMap fun c => [c.id,c.fz]) = 0 := by
 refine Nat.le_zero.1 (boundL_le.2 fun x hx => ?_)
 obtain ⟨c,hc,hx⟩ := List.mem_flatMap.1 hx
 rcases List.mem_cons.1 hx with rfl | hx
 ·obtain ⟨t,ht⟩ := hi c hc;rw [ht];exact Nat.le_refl _
 ·rw [List.mem_singleton.1 hx];unfold Cst.fz;split <;> exact Nat.le_refl _
theorem flatMap_eq {α β : Type} {f g : α → List β} : ∀ {l : List α},(∀ c ∈ l,f c = g c) → l.flatMap f = l.flatMap g
 | [],_ => rfl
 | c :: r,h => by rw [List.flatMap_cons,List.flatMap_cons,h c (by simp),flatMap_eq fun x hx => h x (by simp [hx])]
theorem freeze_copied {H : Heap} {v m5 : Nat} {cs : List Cst} {s : St55} (hk : H.lock = 0) (hcs : Cs55 s cs m5) (hr5 : H.row 5 v = some (m5,112,2,true,cs.flatMap Cst.cells)) (hr : ∀ c ∈ cs,c.ls ≠ [] → H.row c.b c.v = some (0,87,1,true,c.ls)) (hl : cs.length ≤ 1000) :
  freezeV H 1000000 (.agg [.sl 5 v 0 cs.length none]) = some (.agg [.vs 2 (cs.map fun c => .agg [c.id,c.fz]) none]) := by
 have hlen : (cs.flatMap Cst.cells).length = cs.length * 2 := by
  clear hl hr hr5 hcs
  induction cs with
  | nil => rfl
  | cons c r ih => rw [List.flatMap_cons,List.length_append,ih];simp [Cst.cells];omega
 have key : freezeV H 999998 (.sl 5 v 0 cs.length none) = some (.vs 2 (cs.map fun c => .agg [c.id,c.fz]) none) := by
  have hfl := freeze_cells hk cs 999997 (by omega) hcs.fl hr
  show freezeV H (999997 + 1) _ = _
  unfold freezeV
  simp only [hr5,hk]
  rw [if_neg (by omega),if_pos ⟨by omega,by omega⟩,List.drop_zero,List.take_of_length_le (by omega)]
  by_cases hm : m5 = 0
  ·rw [if_pos hm]
   have he : cs.flatMap Cst.cells = cs.flatMap fun c => [c.id,c.fz] := by
    refine flatMap_eq fun c hc => ?_
    have : c.ls = [] := Classical.byContradiction fun h => by have := (hcs.lo c hc h).2;omega
    unfold Cst.cells Cst.sl Cst.fz;rw [if_pos this,if_pos this]
   rw [he,chunk_two]
  ·rw [if_neg hm,hfl]
   simp only [fz_bound hcs.fl,if_true,chunk_two]
 have e1 : freezeL H 999999 [.sl 5 v 0 cs.length none] = some [.vs 2 (cs.map fun c => .agg [c.id,c.fz]) none] := by
  show (match freezeV H 999998 (.sl 5 v 0 cs.length none),freezeL H 999998 [] with | some y,some ys => some (y :: ys) | _,_ => none) = _
  rw [key];rfl
 show (freezeL H 999999 [.sl 5 v 0 cs.length none]).map AV.agg = _
 rw [e1];rfl
end Go.Ev
namespace Go.Ev
open Go.Proofs
attribute [local irreducible] Wp WpS
def idOf (y : AV) : AV := match y with | .agg (i :: _) => i | _ => .v .nilFunc
def stAt (xs : List AV) (wf : Nat → Nat → AV) (i k : Nat) : St55 := xs.mapIdx fun t y => (idOf y,(List.range (if t < i then (linesOf y).length else if t = i then k else 0)).map (wf t))
theorem cells_set : ∀ {cs : List Cst} {i : Nat} {c0 : Cst},cs[i]? = some c0 → ∀ (w : AV) (b v : Nat) {x : AV},x = .sl b v 0 (c0.ls.length + 1) none →
  (cs.flatMap Cst.cells).take (i * 2 + 1) ++ [x] ++ (cs.flatMap Cst.cells).drop (i * 2 + 1 + 1) = (cs.set i ⟨c0.id,c0.ls ++ [w],b,v⟩).flatMap Cst.cells
 | [],_,_,h,_,_,_,_,_ => by simp at h
 | y :: r,0,c0,h,w,b,v,x,hx => by
  simp at h;subst h;subst hx
  simp [Cst.cells,Cst.sl]
 | y :: r,i + 1,c0,h,w,b,v,x,hx => by
  have ih := cells_set (cs := r) (i := i) (c0 := c0) (by simpa using h) w b v hx
  rw [List.set_cons_succ,List.flatMap_cons,List.flatMap_cons,← ih]
  rw [show (i + 1) * 2 + 1 = (i * 2 + 1) + 2 by omega]
  show (y.cells ++ _).take _ ++ [x] ++ (y.cells ++ _).drop _ = _
  simp [Cst.cells]
theorem ofV_bound (l : List Rd) : bound (ofV l) = 0 := by cases l <;> rfl
theorem storeLoK {X : Heap} {b v k m e sz : Nat} {g : Bool} {cs : List AV} {x : AV} (hb : b < X.size) (hlk : X.lock ≤ b) (hr : X.row b v = some (m,e,sz,g,cs)) (hx : k + 1 ≤ cs.length) (hf : x.flat = true) (E : List (Option AObj)) :
  storeCells (X.plus E) b v k [x] = some ((X.put b (.cells v (Nat.max m (bound x)) e sz g (splice k [x] cs))).plus E) := by
 unfold storeCells
 rw [rowLo hb,hr]
 have hl : (X.plus E).lock ≤ b := hlk
 have hbl : boundL [x] = bound x := by simp only [boundL];exact Nat.max_zero _
 simp only [hl,hbl,List.length_singleton,hx,List.all_cons,List.all_nil,hf,Bool.and_true,and_self,if_true,putLo hb]
theorem cells_len : ∀ cs : List Cst,(cs.flatMap Cst.cells).length = 2 * cs.length
 | [] => rfl
 | c :: r => by rw [List.flatMap_cons,List.length_append,cells_len r];simp [Cst.cells];omega
theorem cells_get : ∀ {cs : List Cst} {i : Nat} {c : Cst},cs[i]? = some c → (cs.flatMap Cst.cells)[2 * i + 1]? = some c.sl
 | [],_,_,h => by simp at h
 | x :: r,0,c,h => by simp at h;subst h;rfl
 | x :: r,i + 1,c,h => by
  rw [List.flatMap_cons,show 2 * (i + 1) + 1 = (2 * i + 1) + 2 by omega,List.getElem?_append_right (by simp [Cst.cells])]
  simpa [Cst.cells] using cells_get (cs := r) (i := i) (by simpa using h)
def okP (xs : List AV) (s : St55) (x : List AV) : Prop := ∃ (i k : Nat) (y z : AV) (c : AV × List AV),xs[i]? = some y ∧ (linesOf y)[k]? = some z ∧ x = [placeA i k 0,z] ∧ s[i]? = some c ∧ c.2.length = k
theorem stAt_get (xs : List AV) (wf : Nat → Nat → AV) (i k t : Nat) : (stAt xs wf i k)[t]? = (xs[t]?).map fun y => (idOf y,(List.range (if t < i then (linesOf y).length else if t = i then k else 0)).map (wf t)) := by
 unfold stAt;rw [List.getElem?_mapIdx]
theorem stp_at {xs : List AV} {wf : Nat → Nat → AV} {i k : Nat} {y : AV} (hy : xs[i]? = some y) (z : AV) : stp55 wf (stAt xs wf i k) [placeA i k 0,z] = (.normal,stAt xs wf i (k + 1)) := by
 unfold stp55 placeA intA
 simp only [Int.toNat_natCast]
 congr 1
 apply List.ext_getElem?
 intro t
 rw [List.getElem?_modify,stAt_get,stAt_get]
 by_cases hti : i = t
 ·subst hti;rw [hy];simp [List.range_succ]
 ·cases xs[t]? with
  | none => rfl
  | some w => simp [hti,show ¬ t = i from fun h => hti h.symm]
theorem stAt_next {xs : List AV} {wf : Nat → Nat → AV} {i : Nat} {y : AV} (hy : xs[i]? = some y) : stAt xs wf i (linesOf y).length = stAt xs wf (i + 1) 0 := by
 apply List.ext_getElem?
 intro t
 rw [stAt_get,stAt_get]
 rcases Nat.lt_trichotomy t i with h | h | h
 ·simp [h,show t < i + 1 by omega]
 ·subst h;rw [hy];simp
 ·cases xs[t]? with
  | none => rfl
  | some w => simp [show ¬ t < i by omega,show ¬ t = i by omega,show ¬ t < i + 1 by omega]
theorem run_line {xs : List AV} {wf : Nat → Nat → AV} {i : Nat} {y : AV} (hy : xs[i]? = some y) (T : List (List AV)) (F : AExit × St55)
  (h : okRun (fun s x => (isGo (stp55 wf s x).1,(stp55 wf s x).2)) (okP xs) T (stAt xs wf i (linesOf y).length) ∧ foldE (stp55 wf) T (stAt xs wf i (linesOf y).length) = F) :
  ∀ (r : List AV) (k : Nat),r = (linesOf y).drop k → k ≤ (linesOf y).length →
   okRun (fun s x => (isGo (stp55 wf s x).1,(stp55 wf s x).2)) (okP xs) (lineIts i k r ++ T) (stAt xs wf i k) ∧ foldE (stp55 wf) (lineIts i k r ++ T) (stAt xs wf i k) = F
 | [],k,hr,hk => by
  have : k = (linesOf y).length := by
   have := congrArg List.length hr
   rw [List.length_drop] at this;simp at this;omega
  subst this;exact h
 | x :: r,k,hr,hk => by
  have hlt : k < (linesOf y).length := by
   have := congrArg List.length hr
   rw [List.length_drop] at this;simp at this;omega
  have hx : (linesOf y)[k]? = some x := by
   rw [List.drop_eq_getElem_cons hlt] at hr
   rw [List.getElem?_eq_getElem hlt,(List.cons.inj hr).1]
  have hr' : r = (linesOf y).drop (k + 1) := by
   rw [List.drop_eq_getElem_cons hlt] at hr;exact (List.cons.inj hr).2
  have ih := run_line hy T F h r (k + 1) hr' hlt
  have hs := stp_at (k := k) (wf := wf) hy x
  refine ⟨⟨⟨i,k,y,x,_,hy,hx,rfl,by rw [stAt_get,hy];rfl,by simp⟩,fun _ => ?_⟩, ?_⟩
  ·show okRun _ _ (lineIts i (k + 1) r ++ T) (stp55 wf (stAt xs wf i k) [placeA i k 0,x]).2
   rw [hs];exact ih.1
  ·show foldE (stp55 wf) ([placeA i k 0,x] :: (lineIts i (k + 1) r ++ T)) _ = _
   rw [foldE_go (by rw [hs]),hs];exact ih.2
theorem run_chap {xs : List AV} {wf : Nat → Nat → AV} : ∀ (r : List AV) (i : Nat),r = xs.drop i → i ≤ xs.length →
  okRun (fun s x => (isGo (stp55 wf s x).1,(stp55 wf s x).2)) (okP xs) (chapIts i r) (stAt xs wf i 0) ∧ foldE (stp55 wf) (chapIts i r) (stAt xs wf i 0) = (.normal,stAt xs wf xs.length 0)
 | [],i,hr,hi => by
  have : i = xs.length := by
   have := congrArg List.length hr
   rw [List.length_drop] at this;simp at this;omega
  subst this;exact ⟨trivial,rfl⟩
 | y :: r,i,hr,hi => by
  have hlt : i < xs.length := by
   have := congrArg List.length hr
   rw [List.length_drop] at this;simp at this;omega
  rw [List.drop_eq_getElem_cons hlt] at hr
  have hy : xs[i]? = some y := by rw [List.getElem?_eq_getElem hlt,(List.cons.inj hr).1]
  have ih := run_chap (wf := wf) r (i + 1) (List.cons.inj hr).2 hlt
  exact run_line hy (chapIts (i + 1) r) _ (by rw [stAt_next hy];exact ih) (linesOf y) 0 rfl (Nat.zero_le _)
theorem chId_cs {xs : List AV} (hall : ∀ y ∈ xs,OkCh y) : xs.flatMap chId = (xs.map fun y => (⟨idOf y,[],0,0⟩ : Cst)).flatMap Cst.cells := by
 induction xs with
 | nil => rfl
 | cons y r ih =>
  obtain ⟨a,b,c,rfl, -⟩ := hall y (by simp)
  rw [List.flatMap_cons,List.map_cons,List.flatMap_cons,← ih (fun z hz => hall z (by simp [hz]))]
  rfl
def lnOf (ls : List AV) : AV := if ls = [] then .v (.slice none 0 0) else .vs 1 ls none
def out55 (s : St55) : AV := .agg [.vs 2 (s.map fun c => .agg [c.1,lnOf c.2]) none]
theorem cs0_of {xs : List AV} (hall : ∀ y ∈ xs,OkCh y) (wf : Nat → Nat → AV) : Cs55 (stAt xs wf 0 0) (xs.map fun y => ⟨idOf y,[],0,0⟩) 0 := by
 refine ⟨?_, ?_, ?_, ?_, ?_⟩
 ·apply List.ext_getElem?
  intro t
  rw [stAt_get,List.map_map,List.getElem?_map]
  cases xs[t]? with
  | none => rfl
  | some w => simp
 ·intro c hc h
  obtain ⟨y,hy,rfl⟩ := List.mem_map.1 hc
  exact absurd rfl h
 ·intro i j c c' hc _ h
  obtain ⟨y,hy,rfl⟩ := List.mem_map.1 (List.mem_of_getElem? hc)
  exact absurd rfl h
 ·intro c hc
  obtain ⟨y,hy,rfl⟩ := List.mem_map.1 hc
  obtain ⟨a,b,d,rfl, -⟩ := hall y hy
  exact ⟨a,rfl⟩
 ·intro c hc
  obtain ⟨y,hy,rfl⟩ := List.mem_map.1 hc
  exact ⟨rfl,rfl⟩
theorem rows0 (xs : List AV) : rowsC (xs.map fun y => (⟨idOf y,[],0,0⟩ : Cst)) = [] := by
 cases h : rowsC (xs.map fun y => (⟨idOf y,[],0,0⟩ : Cst)) with
 | nil => rfl
 | cons p r =>
  obtain ⟨c,hc,hne, -⟩ := rowsC_mem.1 (show p ∈ rowsC _ by rw [h];simp)
  obtain ⟨y,hy,rfl⟩ := List.mem_map.1 hc
  exact absurd rfl hne
theorem ans55x {e : Exts} (he : Quiet e) (xs : List AV) (ch : AV) (hch : SlOf 2 xs ch) (hall : ∀ y ∈ xs,OkCh y) (hlen : xs.length < 2 ^ 32) (h1 : 1 ≤ xs.length) (id : Int) (l : List Rd) (rs : AV) (hrs : RdsA l rs) (hln : l.length < 2 ^ 32) (wf : Nat → Nat → AV) (hwf : ∀ (i k : Nat) (y z : AV),xs[i]? = some y → (linesOf y)[k]? = some z → Ans (Cx e) 122 [z,ofV (l.filter (atLine i k 0))] (wf i k)) (hwc : ∀ (i k : Nat),(wf i k).flat = true ∧ (wf i k).cells = [wf i k] ∧ bound (wf i k) = 0) (hll : ∀ y ∈ xs,(linesOf y).length < 2 ^ 32) (hlb : ∀ y ∈ xs,∀ z ∈ linesOf y,bound z = 0) (hx1000 : xs.length ≤ 1000) : Ans (Cx e) 96 [.agg [ch],.agg [intA id,rs]] (out55 (stAt xs wf xs.length 0)) := by
 unfold Ans
 have hrs0 := hrs
 have hrs : SlOf 5 (l.map rdV) rs := hrs
 rw [fn_step (fn_96 e) (show Tryz.f96.body = some _ from rfl)]
 simp -implicitDefEqProofs only [Tryz.f96,go_sem,↓reduceIte,Int.reduceEq,Int.reduceLT,Int.reduceLE,List.reduceReplicate,intA,setT_nil,setT_cons,hch.cells,hch.flat,hch.bound,hch.len,hrs.cells,hrs.flat,hrs.bound]
 refine Lp_rule (P := fun μ a X => ∃ j,j + μ = xs.length ∧ a = ⟨53,[(0,.agg [ch]),(1,.agg [intA id,rs]),(2,.ptr 0 0 0),(3,.ptr 1 0 0),(4,.ptr 2 0 0),(5,.ptr 3 0 0),(13,ch),(14,intA xs.length),(15,intA j)],[]⟩ ∧
  ((j = 0 ∧ X = ⟨[o55 140 [ch],o55 66 [intA id,rs],o55 24 [.v (.slice none 0 0)],o55 24 [.v (.slice none 0 0)]],0⟩) ∨ ∃ c4 v,1 ≤ j ∧ X = ⟨[o55 140 [ch],o55 66 [intA id,rs],o55 24 [.v (.slice none 0 0)],some (.cells 0 6 24 1 false [.sl 5 v 0 j none]),some (.cells 0 0 112 1 false c4),some (.cells v 0 112 2 true ((xs.take j).flatMap chId))],0⟩)) ?_ xs.length _ _ ?_
 ·rintro μ _ X ⟨j,hj,rfl,hX⟩
  cases μ with
  | zero =>
   obtain rfl : j = xs.length := by omega
   rcases hX with ⟨h0, -⟩ | ⟨c4,v,hj1,rfl⟩
   ·omega
   ·simp -implicitDefEqProofs only [go_sem,↓reduceIte,Int.reduceEq,Int.reduceLT,Int.reduceLE,List.reduceReplicate,intA,setT_nil,setT_cons,Int.lt_irrefl,call64 he ch xs hch,trim_at,hch.bound,hrs.bound,hch.cells,hch.flat]
    refine wp_range2 (yields2_88 ch xs hch hall (by omega)) rfl (R55 xs.length ch id rs c4 v) (stp55 wf) (fun s => s.length = xs.length) (okP xs) (n0 := 6) (k := 0) (Nat.le_refl _) (Nat.zero_le _) ?_ (fun s m h => R55_anch s m h) (fun s m h => R55_free s m h) ?_ ?_ (stAt xs wf 0 0) (base55 xs.length ch id rs c4 v 0 (xs.map fun y => ⟨idOf y,[],0,0⟩) ++ rowsC (xs.map fun y => ⟨idOf y,[],0,0⟩)) ?_ ?_ ?_ ?_ rfl ?_
    ·intro x hx
     obtain ⟨i,y,j,z, -, -,rfl⟩ := chapIts_of _ _ _ hx
     rfl
    ·intro s x hs hx _
     obtain ⟨i,k,y,z,c, -, -,rfl, -, -⟩ := hx
     unfold stp55 placeA intA
     simp only [List.length_modify];exact hs
    ·intro L L' s m x X hL hs hx hxl hR hH hd0 hl1 hlk hsz
     obtain ⟨i,k,y,z,c,hy,hz,rfl,hc,hck⟩ := hx
     obtain ⟨cs,m5,hcs,rfl⟩ := hR
     have hsz : 8 ≤ X.size := hsz
     have hl1 : loopObj X 7 = some L := hl1
     have hd0 : X.get 6 = some .dfr := hd0
     generalize hN : X.size = N at *
     have hlkN : X.lock ≤ N := by rw [hlk];exact Nat.zero_le _
     rw [← plus_nil X]
     simp -implicitDefEqProofs only [placeA,intA,go_sem,↓reduceIte,Int.reduceEq,Int.reduceLT,Int.reduceLE,List.reduceReplicate,intA,setT_nil,setT_cons,sizeP hN,putP0 hN,putP hN,settleP0 hN,settleP hN,rowP0 hN,rowP hN,storeP0 hN hlkN,storeP hN hlkN]
     refine ⟨rfl, ?_, ?_⟩
     ·refine get_loopObj ?_
      rw [plus_get _ (by omega)];exact loopObj_getI hl1
     ·rw [putLo (by omega)]
      have hf := R55_free (n := xs.length) (chv := ch) (id := id) (rs := rs) (c4 := c4) (v5 := v) _ _ ⟨cs,m5,hcs,rfl⟩
      have hH7 := hH.put (.loop L') (b := 7) (by omega) hf.2
      have hN7 : (X.put 7 (.loop L')).size = N := by rw [put_sizeI _ (by omega)];exact hN
      have hlk7 : (X.put 7 (.loop L')).lock = 0 := hlk
      have hl7 : (X.put 7 (.loop L')).get 7 = some (.loop L') := put_get_eq _ (by omega)
      have hsm7 : ∀ b,b ≠ 7 → (X.put 7 (.loop L')).get b = X.get b := fun b hb => put_get_ne _ (by omega) hb
      generalize X.put 7 (.loop L') = Y at *
      have hlkY : Y.lock ≤ N := by rw [hlk7];exact Nat.zero_le _
      have h1' : Y.row 1 0 = some (0,66,1,false,[intA id,rs]) := get_row (hH7 (1,_) (List.mem_append_left _ (by unfold base55;simp)))
      have h3' : Y.row 3 0 = some (6,24,1,false,[.sl 5 v 0 xs.length none]) := get_row (hH7 (3,_) (List.mem_append_left _ (by unfold base55;simp)))
      have h5' : Y.row 5 v = some (m5,112,2,true,cs.flatMap Cst.cells) := get_row (hH7 (5,_) (List.mem_append_left _ (by unfold base55;simp)))
      have hi : i < xs.length := (List.getElem?_eq_some_iff.1 hy).1
      have hr1 : ∀ E,(Y.plus E).row 1 0 = some (0,66,1,false,[.v (.int .i64 id),rs]) := fun E => by rw [rowLo (by omega)];exact h1'
      have hr3 : ∀ E,(Y.plus E).row 3 0 = some (6,24,1,false,[.sl 5 v 0 xs.length none]) := fun E => by rw [rowLo (by omega)];exact h3'
      have hr5 : ∀ E,(Y.plus E).row 5 v = some (m5,112,2,true,cs.flatMap Cst.cells) := fun E => by rw [rowLo (by omega)];exact h5'
      have hcl : ∃ c0,cs[i]? = some c0 ∧ c0.id = c.1 ∧ c0.ls = c.2 := by
       have := hcs.st
       rw [← this,List.getElem?_map] at hc
       cases h : cs[i]? with
       | none => rw [h] at hc;exact nomatch hc
       | some c0 => rw [h] at hc;simp only [Option.map_some,Option.some.injEq] at hc;exact ⟨c0,rfl,by rw [← hc],by rw [← hc]⟩
      obtain ⟨c0,hc0,hc1,hc2⟩ := hcl
      have hcell : (cs.flatMap Cst.cells)[2 * i + 1]? = some c0.sl := cells_get hc0
      have hclen : (cs.flatMap Cst.cells).length = 2 * cs.length := cells_len cs
      have hlen5 : cs.length = xs.length := by rw [← hs,← hcs.st,List.length_map]
      have hii : (0 : Int) ≤ (i : Int) ∧ (i : Int) < ((xs.length : Nat) : Int) := by omega
      have hsx : slIdx 2 (.sl 5 v 0 xs.length none) (.v (.int .i64 (i : Int))) = some (.ptr 5 v (i * 2)) := by
       unfold slIdx
       simp [hii]
      have hcell : (cs.flatMap Cst.cells)[i * 2 + 1]? = some c0.sl := by rw [Nat.mul_comm];exact hcell
      have hz0 : bound z = 0 := hlb y (List.mem_of_getElem? hy) z (List.mem_of_getElem? hz)
      have hc77 := fun d => (ans77 he l rs hrs0 (by omega) i k 0).callI (me := 96) (d := d) (ext_123 he) (pure_123 _ _ _) (by simp only [boundL_cons,hrs.bound,boundL_nil,intA,bound_agg,bound_v];rfl)
      have hc76 := fun d => (hwf i k y z hy hz).callI (me := 96) (d := d) (ext_122 he) (pure_122 _ _ _) (by simp only [boundL_cons,hz0,boundL_nil,ofV_bound];rfl)
      simp only [intA] at hc77
      simp -implicitDefEqProofs only [go_sem,↓reduceIte,Int.reduceEq,Int.reduceLT,Int.reduceLE,List.reduceReplicate,intA,setT_nil,setT_cons,sizeP hN7,putP0 hN7,putP hN7,settleP0 hN7,settleP hN7,rowP0 hN7,rowP hN7,storeP0 hN7 hlkY,storeP hN7 hlkY,hr1,hr3,hr5,hsx]
      refine wp_drawX [([],[],false),([],[],false),([],[],false),([],[],false),([],[],false),([],[],false),([],[],false),([4],[],false),([4,7],[],false),([4],[],false),([4],[],false),([4],[],false),([],[11],false),([],[],false),([],[],false),([],[11,12],false)] (by kernel_rfl) (by kernel_rfl) ?_
      have hnc : nilCk (.ptr 5 v (i * 2)) = some (.ptr 5 v (i * 2)) := rfl
      have hwq := hwc i k
      have hq0 : ltB 5 (N + 1) = true := by unfold ltB;simp;omega
      have hq1 : ltB 0 N = true := by unfold ltB;simp;omega
      have hq2 : ltB N (N + 1) = true := by unfold ltB;simp
      have hq3 : ltB 1 (N + 1) = true := by unfold ltB;simp;omega
      have hq4 : ltB 3 (N + 1) = true := by unfold ltB;simp;omega
      have hfit : fitsA 24 1 = true := by decide
      have hst := fun (x : AV) (hx : x.flat = true) E => storeLoK (X := Y) (b := 5) (v := v) (k := i * 2 + 1) (x := x) (by omega) (by omega) h5' (by rw [hclen];omega) hx E
      have hst := fun b' v' l' c' E => hst (.sl b' v' 0 l' c') rfl E
      have n13 : N + 1 + 12 = N + 13 := rfl
      by_cases hne : c0.ls = []
      ·have hslv : c0.sl = .v (.slice none 0 0) := by unfold Cst.sl;rw [if_pos hne]
       rw [hslv] at hcell
       simp -implicitDefEqProofs only [go_sem,↓reduceIte,Int.reduceEq,Int.reduceLT,Int.reduceLE,List.reduceReplicate,intA,setT_nil,setT_cons,sizeP hN7,putP0 hN7,putP hN7,settleP0 hN7,settleP hN7,rowP0 hN7,rowP hN7,storeP0 hN7 hlkY,storeP hN7 hlkY,hr1,hr3,hr5,hcell,hc77,hc76,hrs.cells,hrs.flat,hrs.bound,hnc,hwq.1,hwq.2.1,hwq.2.2,hq0,hq1,hq2,hq3,hq4,hfit,hst,List.flatMap_cons,List.flatMap_nil,n13]
       have hmm : ∀ (m5' : Nat),m5' = (if m5 ≤ bound (AV.sl (N + 13) 0 0 1 none) then bound (AV.sl (N + 13) 0 0 1 none) else m5) → N + 13 < m5' ∧ m5 ≤ m5' := fun m5' h => by
        rw [bound_sl] at h;subst h;split <;> omega
       generalize hM5 : (if m5 ≤ bound (AV.sl (N + 13) 0 0 1 none) then bound (AV.sl (N + 13) 0 0 1 none) else m5) = m5' at *
       have hmm := hmm m5' rfl
       have hci := (List.getElem?_eq_some_iff.1 hc0).1
       have hcset : (cs.flatMap Cst.cells).take (i * 2 + 1) ++ [AV.sl (N + 13) 0 0 1 none] ++ (cs.flatMap Cst.cells).drop (i * 2 + 1 + 1) = (cs.set i ⟨c0.id,c0.ls ++ [wf i k],N + 13,0⟩).flatMap Cst.cells := by
        exact cells_set hc0 (wf i k) (N + 13) 0 (by rw [hne];rfl)
       rw [hcset]
       have hYN5 : (Y.put 5 (.cells v m5' 112 2 true ((cs.set i ⟨c0.id,c0.ls ++ [wf i k],N + 13,0⟩).flatMap Cst.cells))).size = N := by rw [put_sizeI _ (by omega)];exact hN7
       have hstp : stp55 wf s [.agg [.v (.int .i64 (i : Int)),.v (.int .i64 (k : Int)),.v (.int .i64 0)],z] = (.normal,s.modify i fun c => (c.1,c.2 ++ [wf i k])) := by
        unfold stp55;simp only [Int.toNat_natCast]
       rw [hstp,plus_nil]
       refine ⟨rfl, ?_⟩
       refine fin55 hsm7 hl7 hN hN7 hlk hsz hH7 hcs hc0 (N + 13) 0 m5' (wf i k) ⟨hwq.1,hwq.2.2⟩ ?_ ?_ ?_ ?_ ?_ (Or.inl ⟨hne,by omega⟩) hmm.2 hmm.1
       ·rw [settle_lo (by omega),plus_get _ (by omega)];exact put_get_eq _ (by omega)
       ·refine settle_some ?_
        rw [plus_get_hi _ (by omega),hYN5,show N + 13 - N = 13 by omega,hne];rfl
       ·intro b hb h5 _
        rw [settle_lo (by omega),plus_get _ (by omega),put_get_ne _ (by omega) h5]
       ·rw [settle_lock];exact hlk7
       ·have := settle_size' (n := N + 1) (H := (Y.put 5 (.cells v m5' 112 2 true ((cs.set i ⟨c0.id,c0.ls ++ [wf i k],N + 13,0⟩).flatMap Cst.cells))).plus [some (.cells 0 0 28 1 false [.v (.int .i64 (i : Int)),.v (.int .i64 (k : Int)),.v (.int .i64 0)]),none,none,none,none,none,none,none,none,none,none,none,none,some (.cells 0 0 87 1 true [wf i k]),none,none,none]) (by rw [plus_size,hYN5];simp)
        omega
      ·have hslv : c0.sl = .sl c0.b c0.v 0 c0.ls.length none := by unfold Cst.sl;rw [if_neg hne]
       rw [hslv] at hcell
       have hcm := List.mem_of_getElem? hc0
       have hlo := hcs.lo c0 hcm hne
       have hgb : Y.get c0.b = some (.cells c0.v 0 87 1 true c0.ls) := hH7 _ (List.mem_append_right _ (rowsC_mem.2 ⟨c0,hcm,hne,rfl⟩))
       have hbN : c0.b < N := by have := get_ltS hgb;omega
       have hrb : ∀ E,(Y.plus E).row c0.b c0.v = some (0,87,1,true,c0.ls) := fun E => by rw [rowLo (by omega)];exact get_row hgb
       have hkl : c0.ls.length < 2 ^ 32 := by
        have h1 := (List.getElem?_eq_some_iff.1 hz).1
        have h2 := hll y (List.mem_of_getElem? hy)
        rw [hc2,hck];omega
       have happ := fun E slot => appTo_own (H := Y.plus E) (slot := slot) (e := 87) (sz := 1) (b' := 24) (n := 1) (new := [wf i k]) (hrb E) (Nat.mul_one _) (by show Y.lock ≤ _;omega) (by unfold fitsA;exact decide_eq_true (by omega)) (by omega) (by omega)
       have hpl := fun E o => putLo (X := Y) (b := c0.b) (by omega) E o
       have hq5 : ltB c0.b (N + 1) = true := by unfold ltB;simp;omega
       have hsto := fun o (x : AV) (hx : x.flat = true) E => storeLoK (X := Y.put c0.b o) (b := 5) (v := v) (k := i * 2 + 1) (x := x) (by rw [put_sizeI _ (by omega)];omega) (by show Y.lock ≤ 5;omega) (get_row ((put_get_ne o (by omega) (by omega)).trans (row_of_get h5'))) (by rw [hclen];omega) hx E
       have hsto := fun o b' v' l' c' E => hsto o (.sl b' v' 0 l' c') rfl E
       simp -implicitDefEqProofs only [go_sem,↓reduceIte,Int.reduceEq,Int.reduceLT,Int.reduceLE,List.reduceReplicate,intA,setT_nil,setT_cons,sizeP hN7,putP0 hN7,putP hN7,settleP0 hN7,settleP hN7,rowP0 hN7,rowP hN7,storeP0 hN7 hlkY,storeP hN7 hlkY,hr1,hr3,hr5,hcell,hc77,hc76,hrs.cells,hrs.flat,hrs.bound,hnc,hwq.1,hwq.2.1,hwq.2.2,hq0,hq1,hq2,hq3,hq4,hq5,hfit,hst,List.flatMap_cons,List.flatMap_nil,n13,happ,hpl,hsto]
       have hm5 : (if m5 ≤ bound (AV.sl c0.b (c0.v + 1) 0 (c0.ls.length + 1) none) then bound (AV.sl c0.b (c0.v + 1) 0 (c0.ls.length + 1) none) else m5) = m5 := by
        rw [bound_sl];split <;> omega
       have hcset := cells_set hc0 (wf i k) c0.b (c0.v + 1) rfl
       rw [hm5,hcset]
       have hs1 : (Y.put c0.b (.cells (c0.v + 1) 0 87 1 true (c0.ls ++ [wf i k]))).size = N := by rw [put_sizeI _ (by omega)];exact hN7
       have hYN5 : ((Y.put c0.b (.cells (c0.v + 1) 0 87 1 true (c0.ls ++ [wf i k]))).put 5 (.cells v m5 112 2 true ((cs.set i ⟨c0.id,c0.ls ++ [wf i k],c0.b,c0.v + 1⟩).flatMap Cst.cells))).size = N := by rw [put_sizeI _ (by omega)];exact hs1
       have hstp : stp55 wf s [.agg [.v (.int .i64 (i : Int)),.v (.int .i64 (k : Int)),.v (.int .i64 0)],z] = (.normal,s.modify i fun c => (c.1,c.2 ++ [wf i k])) := by
        unfold stp55;simp only [Int.toNat_natCast]
       rw [hstp,plus_nil]
       refine ⟨rfl, ?_⟩
       refine fin55 hsm7 hl7 hN hN7 hlk hsz hH7 hcs hc0 c0.b (c0.v + 1) m5 (wf i k) ⟨hwq.1,hwq.2.2⟩ ?_ ?_ ?_ ?_ ?_ (Or.inr ⟨hne,rfl⟩) (Nat.le_refl _) hlo.2
       ·rw [settle_lo (by omega),plus_get _ (by omega)];exact put_get_eq _ (by omega)
       ·rw [settle_lo (by omega),plus_get _ (by omega),put_get_ne _ (by omega) (by omega)];exact put_get_eq _ (by omega)
       ·intro b hb h5 hbb
        rw [settle_lo (by omega),plus_get _ (by omega),put_get_ne _ (by omega) h5,put_get_ne _ (by omega) hbb]
       ·rw [settle_lock];exact hlk7
       ·have := settle_size' (n := N + 1) (H := ((Y.put c0.b (.cells (c0.v + 1) 0 87 1 true (c0.ls ++ [wf i k]))).put 5 (.cells v m5 112 2 true ((cs.set i ⟨c0.id,c0.ls ++ [wf i k],c0.b,c0.v + 1⟩).flatMap Cst.cells))).plus [some (.cells 0 0 28 1 false [.v (.int .i64 (i : Int)),.v (.int .i64 (k : Int)),.v (.int .i64 0)]),none,none,none,none,none,none,none,none,none,none,none,none,none,none,none,none]) (by rw [plus_size,hYN5];simp)
        omega
    ·exact (run_chap (wf := wf) xs 0 rfl (Nat.zero_le _)).1
    ·unfold stAt;rw [List.length_mapIdx]
    ·exact ⟨_,0,cs0_of hall wf,rfl⟩
    ·rw [rows0,List.append_nil]
     intro p hp
     have hcc := chId_cs hall
     rcases base55_lt hp with h | rfl
     ·unfold base55 at hp
      simp only [List.mem_cons,List.not_mem_nil,or_false] at hp
      rcases hp with rfl | rfl | rfl | rfl | rfl | rfl
      ·rfl
      ·rfl
      ·rfl
      ·rfl
      ·rfl
      ·simp at h
     ·rw [← hcc];rfl
    ·intro m' X hR hH hd0 hd1 hmv hsz
     rw [(run_chap (wf := wf) xs 0 rfl (Nat.zero_le _)).2] at hR ⊢
     obtain ⟨cs,m5,hcs,rfl⟩ := hR
     have hsz : 8 ≤ X.size := hsz
     have hd0 : X.get 6 = some .dfr := hd0
     generalize hN : X.size = N at *
     have hlk : X.lock = 0 := hmv.lock
     have hlkN : X.lock ≤ N := by rw [hlk];exact Nat.zero_le _
     have h2 : ∀ E,(X.plus E).row 2 0 = some (0,24,1,false,[.v (.slice none 0 0)]) := fun E => by rw [rowLo (by omega)];exact get_row (hH (2,_) (List.mem_append_left _ (by unfold base55;simp)))
     have h3 : ∀ E,(X.plus E).row 3 0 = some (6,24,1,false,[.sl 5 v 0 xs.length none]) := fun E => by rw [rowLo (by omega)];exact get_row (hH (3,_) (List.mem_append_left _ (by unfold base55;simp)))
     have hst := fun (x : AV) (hx : x.flat = true) E => storeLo (X := X) (b := 2) (m := 0) (e := 24) (sz := 1) (g := false) (cs := [.v (.slice none 0 0)]) (xs := [x]) (by omega) (by omega) (by have := h2 [];rwa [plus_nil] at this) rfl (by simp [hx]) E
     have hst := fun b' v' l' c' E => hst (.sl b' v' 0 l' c') rfl E
     rw [← plus_nil X]
     simp -implicitDefEqProofs only [go_sem,↓reduceIte,Int.reduceEq,Int.reduceLT,Int.reduceLE,List.reduceReplicate,intA,setT_nil,setT_cons,sizeP hN,putP0 hN,putP hN,settleP0 hN,settleP hN,rowP0 hN,rowP hN,storeP0 hN hlkN,storeP hN hlkN,h2,h3,hst]
     generalize hW : settleH N _ = W
     have hwl : W.lock = 0 := by rw [← hW,settle_lock];exact hlk
     have hwg : ∀ b,b < N → b ≠ 2 → W.get b = X.get b := fun b hb h2 => by
      rw [← hW,settle_lo hb,plus_nil,put_get_ne _ (by omega) h2]
     have hws : N ≤ W.size := by
      rw [← hW]
      refine settle_size' ?_
      rw [plus_nil,put_sizeI _ (by omega)];omega
     have hw2 : ∃ mm,W.get 2 = some (.cells 0 mm 24 1 false [.sl 5 v 0 xs.length none]) := by
      rw [← hW,settle_lo (by omega),plus_nil];exact ⟨_,put_get_eq _ (by omega)⟩
     obtain ⟨mm,hw2⟩ := hw2
     have hkill : killAll [6] W = some (W.put 6 .dead) := by
      unfold killAll
      rw [hwg 6 (by omega) (by omega),hd0]
      show (if W.lock ≤ 6 then killAll [] (W.put 6 .dead) else none) = _
      rw [if_pos (by omega)];rfl
     have hg : ∀ b,b < N → b ≠ 2 → b ≠ 6 → (W.put 6 .dead).get b = X.get b := fun b hb h2 h6 => by
      rw [put_get_ne _ (by omega) h6,hwg b hb h2]
     have hr2 : (W.put 6 .dead).row 2 0 = some (mm,24,1,false,[.sl 5 v 0 xs.length none]) := get_row ((put_get_ne _ (by omega) (by omega)).trans hw2)
     have hk6 : (W.put 6 .dead).lock = 0 := hwl
     have hcl : cs.length = xs.length := by
      have := congrArg List.length hcs.st
      rw [List.length_map] at this;rw [this];unfold stAt;rw [List.length_mapIdx]
     have hr5 : (W.put 6 .dead).row 5 v = some (m5,112,2,true,cs.flatMap Cst.cells) := get_row ((hg 5 (by omega) (by omega) (by omega)).trans (hH (5,_) (List.mem_append_left _ base55_five)))
     have hrc : ∀ c ∈ cs,c.ls ≠ [] → (W.put 6 .dead).row c.b c.v = some (0,87,1,true,c.ls) := fun c hc hne => by
      have h1 := hH _ (List.mem_append_right _ (rowsC_mem.2 ⟨c,hc,hne,rfl⟩))
      have h2 := hcs.lo c hc hne
      have h3 := get_ltS h1
      simp only at h1 h3
      exact get_row ((hg c.b (by omega) (by omega) (by omega)).trans h1)
     rw [hkill]
     generalize W.put 6 .dead = V at *
     have hfin := freeze_copied hk6 hcs hr5 hrc (by omega)
     rw [hcl] at hfin
     have hout : (AV.agg [.vs 2 (cs.map fun c => .agg [c.id,c.fz]) none]) = out55 (stAt xs wf xs.length 0) := by
      have hst := hcs.st;simp only at hst;unfold out55;rw [← hst,List.map_map];rfl
     rw [hout] at hfin
     simp -implicitDefEqProofs only [go_sem,↓reduceIte,Int.reduceEq,Int.reduceLT,Int.reduceLE,List.reduceReplicate,intA,setT_nil,setT_cons,hr2]
     show freezeV { V with lock := 0 } 1000000 _ = _
     have hV : ({ V with lock := 0 } : Heap) = V := by cases V;simp only at hk6;subst hk6;rfl
     rw [hV];exact hfin
  | succ μ =>
   obtain ⟨y,hy⟩ := at_lt xs j (by omega)
   obtain ⟨cid,l0,lxs,rfl,hl0,hlc,hll⟩ := hall y (List.mem_of_getElem? hy)
   have hlt : (j : Int) < ((xs.length : Nat) : Int) := by omega
   have hw := wrap_succ j (by omega)
   have hix := hch.idx hy
   have ht : (xs.take (j + 1)).flatMap chId = (xs.take j).flatMap chId ++ [intA cid,.v (.slice none 0 0)] := by
    rw [List.take_add_one,hy,List.flatMap_append];rfl
   have hcl : ((xs.take j).flatMap chId).length = j * 2 := by
    rw [chId_len (fun y hy => by obtain ⟨a,b,c,h, -⟩ := hall y (List.mem_of_mem_take hy);exact ⟨_,_,h⟩),List.length_take];omega
   have hcb : boundL ((xs.take j).flatMap chId) = 0 := chId_bound (fun y hy => by obtain ⟨a,b,c,h, -⟩ := hall y (List.mem_of_mem_take hy);exact ⟨_,_,h⟩)
   have hf1 : fitsA 32 1 = true := by decide
   rcases hX with ⟨rfl,rfl⟩ | ⟨c4,v,hj1,rfl⟩
   ·simp -implicitDefEqProofs only [go_sem,↓reduceIte,Int.reduceEq,Int.reduceLT,Int.reduceLE,List.reduceReplicate,intA,setT_nil,setT_cons,hlt,hw,hix,hl0.cells,hl0.flat,hl0.bound,List.flatMap_cons,List.flatMap_nil,hf1,bound_sl]
    rw [trim_no4 _ _ 4 3 _ _ _ rfl (by omega) (by show 4 < 6;omega)]
    refine ⟨μ,by omega,1,by omega,rfl,Or.inr ⟨[intA cid,l0],0,by omega, ?_⟩⟩
    rw [ht];rfl
   ·simp -implicitDefEqProofs only [go_sem,↓reduceIte,Int.reduceEq,Int.reduceLT,Int.reduceLE,List.reduceReplicate,intA,setT_nil,setT_cons,hlt,hw,hix,hl0.cells,hl0.flat,hl0.bound,List.flatMap_cons,List.flatMap_nil]
    rw [appTo_own (m := 0) (e' := 112) (cs := (xs.take j).flatMap chId) (by simp [Heap.row,Heap.get]) hcl.symm (Nat.zero_le _) (by unfold fitsA;exact decide_eq_true (by omega)) (by omega) (by omega)]
    simp -implicitDefEqProofs only [go_sem,↓reduceIte,Int.reduceEq,Int.reduceLT,Int.reduceLE,List.reduceReplicate,intA,setT_nil,setT_cons,bound_sl,trim_at,hch.bound,hrs.bound]
    exact ⟨μ,by omega,j + 1,by omega,rfl,Or.inr ⟨_,v + 1,by omega,by rw [ht];rfl⟩⟩
 ·exact ⟨0,by omega,rfl,Or.inl ⟨rfl,rfl⟩⟩
end Go.Ev
namespace Go.Ev
open Go.Proofs
attribute [local irreducible] Wp WpS
def SlH (X : Heap) (xs : List AV) (x : AV) : Prop := SlOf 1 xs x ∨ ∃ b v cap m e g cs,x = .sl b v 0 xs.length cap ∧ b < X.size ∧ X.row b v = some (m,e,1,g,cs) ∧ cs.take xs.length = xs ∧ xs.length ≤ cs.length
theorem SlH.len {X : Heap} {xs : List AV} {x : AV} (h : SlH X xs x) : slLen x = some (.v (.int .i64 xs.length)) := by
 rcases h with h | ⟨b,v,cap,m,e,g,cs,rfl, -⟩
 ·exact h.len
 ·rfl
theorem SlH.get {X : Heap} {N : Nat} (hN : X.size = N) {xs : List AV} {x : AV} (h : SlH X xs x) {i : Nat} {z : AV} (hz : xs[i]? = some z) (hzc : z.cells = [z]) (k : IntKind) :
  ∃ p,slIdx 1 x (.v (.int k (i : Int))) = some p ∧ (∀ (t : TypeId) E,isAggT Tryz.prog t = some false → sizeT Tryz.prog t = some 1 → loadA Tryz.prog (X.plus E) t p = some z) ∧ ∀ top,N ≤ top → (objsOf p).all (fun c => ltB c top) = true := by
 have hi := (List.getElem?_eq_some_iff.1 hz).1
 rcases h with h | ⟨b,v,cap,m,e,g,cs,rfl,hb,hr,ht,hl⟩
 ·refine ⟨.ro z 0,h.idx hz k,fun t E ha hs => ?_,fun _ _ => rfl⟩
  unfold loadA partOf
  rw [ha,hs]
  show z.cells[0]? = some z
  rw [hzc];rfl
 ·refine ⟨.ptr b v (0 + i * 1), ?_,fun t E ha hs => ?_,fun top h => ?_⟩
  ·unfold slIdx
   simp;omega
  ·have hrow : (X.plus E).row b v = some (m,e,1,g,cs) := by rw [rowLo hb,hr]
   unfold loadA
   simp only [hrow]
   unfold partOf
   rw [ha,hs]
   simp only
   rw [Nat.zero_add,Nat.mul_one,← List.getElem?_take_of_lt (j := xs.length) hi,ht,hz]
  ·simp only [objsOf,List.all_cons,List.all_nil,Bool.and_true]
   unfold ltB
   simp;omega
theorem SlH.lock {X : Heap} {xs : List AV} {x : AV} (h : SlH X xs x) (k : Nat) : SlH { X with lock := k } xs x := by
 rcases h with h | ⟨b,v,cap,m,e,g,cs,rfl,hb,hr,ht⟩
 ·exact Or.inl h
 ·exact Or.inr ⟨b,v,cap,m,e,g,cs,rfl,hb,hr,ht⟩
theorem SlH.closed {X : Heap} {xs : List AV} {x : AV} (h : SlH X xs x) (hb : bound x = 0) (Y : Heap) : SlH Y xs x := by
 rcases h with h | ⟨b,v,cap,m,e,g,cs,rfl, -⟩
 ·exact Or.inl h
 ·simp [bound] at hb
theorem SlH.yld {X : Heap} {xs : List AV} {x : AV} (h : SlH X xs x) : isYld x = false := by
 rcases h with h | ⟨b,v,cap,m,e,g,cs,rfl, -⟩
 ·rcases h with ⟨rfl,_⟩ | ⟨c,rfl⟩ <;> rfl
 ·rfl
theorem callA_still {C : Cfg} {me f : FuncId} {d : Option Tmp} {args : List AV} {X : Heap} {w : Value} (hx : C.ext f = none) (hp : C.pure me f d = true) (hy : args.any isYld = false)
  (h1 : boundL args = 0 → Fn' C f args { objs := [],lock := 0 } (fun v _ => v = .v w)) (h2 : Fn' C f args { X with lock := X.size } (fun v _ => v = .v w)) (hh : C.exh f = none := by rfl) : callA C (lim C) me f d args X = some (.v w,X) := by
 rw [callA_none hx hh];unfold callB callKind
 simp only [hp,if_true]
 by_cases hb : boundL args = 0
 ·have h1 := h1 hb
  unfold Fn' at h1
  rw [bindO_iff] at h1
  obtain ⟨o,h3,h4⟩ := h1
  rw [if_pos (by rw [hb];rfl)]
  cases o with
  | ret v H => obtain rfl : v = .v w := h4;simp only [h3];rfl
  | _ => exact h4.elim
 ·unfold Fn' at h2
  rw [bindO_iff] at h2
  obtain ⟨o,h3,h4⟩ := h2
  rw [if_neg (fun h => hb (Nat.eq_of_beq_eq_true h)),hy]
  simp only [Bool.false_eq_true,if_false]
  cases o with
  | ret v H => obtain rfl : v = .v w := h4;simp only [h3];rfl
  | _ => exact h4.elim
end Go.Ev
namespace Go.Ev
open Go.Proofs
attribute [local irreducible] Wp WpS
theorem drop_eq_cons {α : Type} {xs : List α} {j : Nat} {x : α} (h : xs[j]? = some x) : xs.drop j = x :: xs.drop (j + 1) := by
 obtain ⟨hj,rfl⟩ := List.getElem?_eq_some_iff.1 h
 exact List.drop_eq_getElem_cons hj
theorem trimP0 {X : Heap} {N : Nat} (hN : X.size = N) (vs : List AV) (ms : List Nat) : (X.plus []).trim N vs ms = X.plus [] := by rw [plus_nil,← hN,trim_size]
theorem isAgg9 : isAggT Tryz.prog 9 = some false := by kernel_rfl
end Go.Ev
namespace Go.Ev
open Go.Proofs
attribute [local irreducible] Wp WpS
end Go.Ev
namespace Go.Ev
open Go.Proofs
attribute [local irreducible] Wp WpS
def greatCB (l : List Rd) : Bool := decide (30 < l.length) || l.any fun r => decide (40 < r.word.size)
theorem any_cons_drop {α : Type} {xs : List α} {j : Nat} {x : α} (h : xs[j]? = some x) (p : α → Bool) : (xs.drop j).any p = (p x || (xs.drop (j + 1)).any p) := by rw [drop_eq_cons h];rfl
theorem ans56 {e : Exts} (id : Int) (l : List Rd) (x : AV) (hx : RdsA l x) : Ans (Cx e) 57 [.agg [intA id,x]] (.v (.bool (greatCB l))) := by
 have hx : SlOf 5 (l.map rdV) x := hx
 unfold Ans
 rw [fn_step (fn_57 e) (show Tryz.f57.body = some _ from rfl)]
 by_cases hl : 30 < (l.length : Int)
 ·have hg : greatCB l = true := by unfold greatCB;rw [decide_eq_true (by omega)];rfl
  simp -implicitDefEqProofs only [Tryz.f57,go_sem,↓reduceIte,Int.reduceEq,Int.reduceLT,Int.reduceLE,List.reduceReplicate,intA,setT_nil,setT_cons,hx.len,hx.cells,hx.flat,hx.bound,List.length_map,hl]
  rw [hg]
 ·have hg : greatCB l = l.any fun r => decide (40 < r.word.size) := by unfold greatCB;rw [decide_eq_false (by omega)];rfl
  simp -implicitDefEqProofs only [Tryz.f57,go_sem,↓reduceIte,Int.reduceEq,Int.reduceLT,Int.reduceLE,List.reduceReplicate,intA,setT_nil,setT_cons,hx.len,hx.cells,hx.flat,hx.bound,List.length_map,hl]
  refine Lp_rule (P := fun μ a' H => ∃ j,j ≤ l.length ∧ l.length = j + μ ∧ a' = ⟨23,[(0,.agg [intA id,x]),(1,.ptr 0 0 0),(2,.v (.bool false)),(7,.v (.bool false)),(3,intA j)],[]⟩ ∧ H = ⟨[some (.cells 0 0 66 1 false [intA id,x])],0⟩ ∧ greatCB l = (l.drop j).any fun r => decide (40 < r.word.size)) ?_ l.length _ _ ⟨0,by omega,by omega,rfl,rfl,hg⟩
  rintro μ _ _ ⟨j,hj1,hj2,rfl,rfl,ho⟩
  by_cases hlt : (j : Int) < (l.length : Int)
  ·obtain ⟨r,hr⟩ := at_lt l j (by omega)
   have hw := wrap_succ j (by omega)
   have hi := hx.idx (rds_get hr)
   unfold rdV at hi
   rw [any_cons_drop hr] at ho
   by_cases hs : 40 < (r.word.size : Int)
   ·have h0 : greatCB l = true := by rw [ho,decide_eq_true (by omega)];rfl
    simp -implicitDefEqProofs only [go_sem,↓reduceIte,Int.reduceEq,Int.reduceLT,Int.reduceLE,List.reduceReplicate,intA,setT_nil,setT_cons,hx.len,List.length_map,hlt,hw,hi,hs]
    rw [h0]
   ·have h0 : greatCB l = (l.drop (j + 1)).any fun r => decide (40 < r.word.size) := by rw [ho,decide_eq_false (by omega)];rfl
    simp -implicitDefEqProofs only [go_sem,↓reduceIte,Int.reduceEq,Int.reduceLT,Int.reduceLE,List.reduceReplicate,intA,setT_nil,setT_cons,hx.len,List.length_map,hlt,hw,hi,hs,trim_at,hx.bound]
    exact ⟨μ - 1,by omega,j + 1,by omega,by omega,rfl,rfl,h0⟩
  ·have h0 : greatCB l = false := by rw [ho,show l.drop j = [] from List.drop_eq_nil_of_le (by omega)];rfl
   simp -implicitDefEqProofs only [go_sem,↓reduceIte,Int.reduceEq,Int.reduceLT,Int.reduceLE,List.reduceReplicate,intA,setT_nil,setT_cons,hx.len,List.length_map,hlt]
   rw [h0]
theorem call56 {e : Exts} (he : Quiet e) (id : Int) (l : List Rd) (x : AV) (hx : RdsA l x) (me : FuncId) (d : Option Tmp) (H : Heap) : callA (Cx e) (lim (Cx e)) me 57 d [.agg [.v (.int .i64 id),x]] H = some (.v (.bool (greatCB l)),H) :=
 (ans56 id l x hx).call (ext_57 he) (pure_57 _ _ _) (by simp only [boundL_cons,bound_agg,intA,bound_v,SlOf.bound hx,boundL_nil];rfl) H
end Go.Ev
namespace Go.Ev
open Go.Proofs
attribute [local irreducible] Wp WpS
def readB (t : Txt) (r : Rd) : Bool := match lineAt t r.ch r.ln with | none => false | some l => if r.kind = 1 then fits1 l r else if r.kind = 2 then fits2 l r else if r.kind = 3 then fits3 l r else false
theorem callI61 {e : Exts} (he : Quiet e) (s : ByteArray) (hn : s.size < 2 ^ 63) (me : FuncId) (d : Option Tmp) : callI (Cx e) me 89 d [.v (.string s)] = some (.v (.bool (wordB s))) :=
 (ans61 he s hn).callI (ext_89 he) (pure_89 _ _ _) rfl
theorem bin_eq8 (x y : Operand) (m n : Int) : binA Tryz.prog .eql 5 x y (.v (.int .u8 m)) (.v (.int .u8 n)) = some (.v (.bool (decide (m = n)))) := bin_eql m n
theorem ans78 {e : Exts} (he : Quiet e) (t : Txt) (ht : Fits t) (ch : AV) (xs : List AV) (hch : SlOf 2 xs ch) (hall : All2 ChapA t xs) (r : Rd) (hr : RdF r) : Ans (Cx e) 93 [.agg [ch],rdV r] (.v (.bool (readB t r))) := by
 obtain ⟨y,hy,hc⟩ := call42 he t ht ch xs hch hall r.ch r.ln r.wd
 unfold Ans
 rw [fn_step (fn_93 e) (show Tryz.f93.body = some _ from rfl)]
 cases hL : lineAt t r.ch r.ln with
 | none =>
  rw [hL] at hc hy
  simp only [LineO] at hy
  subst hy
  have hB : readB t r = false := by unfold readB;rw [hL]
  rw [hB]
  simp -implicitDefEqProofs only [Tryz.f93,rdV,go_sem,↓reduceIte,Int.reduceEq,Int.reduceLT,Int.reduceLE,List.reduceReplicate,intA,setT_nil,setT_cons,hch.cells,hch.flat,hch.bound,hc,Option.isSome_none]
 | some ln =>
  rw [hL] at hc hy
  have hy : SlOf 1 (strs ln) y := hy
  obtain ⟨cp,hcm,hlm⟩ := lineAt_mem hL
  have hll := ht.words cp hcm ln hlm
  have hw1 : IntKind.i64.wrap ((ln.length : Int) - 1) = (ln.length : Int) - 1 := wrap_in _ (by omega) (by omega)
  have h43 := call43 he r.wd 0 ((ln.length : Int) - 1)
  rw [within_len] at h43
  have h43' := call43 he r.wd 0 (ln.length : Int)
  have hi43 := callI43 he r.wd 0 ((ln.length : Int) - 1)
  rw [within_len] at hi43
  have h61 := call61 he r.word hr.word
  have hi61 := callI61 he r.word hr.word
  have hB : readB t r = (if r.kind = 1 then fits1 ln r else if r.kind = 2 then fits2 ln r else if r.kind = 3 then fits3 ln r else false) := by unfold readB;rw [hL]
  rw [hB]
  cases k1 : decide (r.kind = 1)
  ·have n1 : ¬ r.kind = 1 := of_decide_eq_false k1
   rw [if_neg n1]
   cases k2 : decide (r.kind = 2)
   ·have n2 : ¬ r.kind = 2 := of_decide_eq_false k2
    rw [if_neg n2]
    cases k3 : decide (r.kind = 3)
    ·rw [if_neg (of_decide_eq_false k3)]
     simp -implicitDefEqProofs only [Tryz.f93,rdV,go_sem,↓reduceIte,Int.reduceEq,Int.reduceLT,Int.reduceLE,List.reduceReplicate,intA,setT_nil,setT_cons,hch.cells,hch.flat,hch.bound,hc,Option.isSome_some,hy.cells,hy.flat,hy.bound,bin_eq8,k1,k2,k3]
    ·rw [if_pos (of_decide_eq_true k3)]
     unfold fits3
     simp -implicitDefEqProofs only [Tryz.f93,rdV,go_sem,↓reduceIte,Int.reduceEq,Int.reduceLT,Int.reduceLE,List.reduceReplicate,intA,setT_nil,setT_cons,hch.cells,hch.flat,hch.bound,hc,Option.isSome_some,hy.cells,hy.flat,hy.bound,bin_eq8,k1,k2,k3]
     refine wp_drawX [([],[],false),([],[],false),([],[],false),([],[],false),([2],[],false),([],[],false),([],[],false),([],[],false),([],[],false),([],[],false),([],[],false),([],[],false),([],[],false),([],[],false),([],[],false),([],[],false),([],[],false),([],[],false),([14],[],false),([],[],false),([14],[],false),([],[],false),([],[],false),([],[],false)] (by kernel_rfl) (by kernel_rfl) ?_
     by_cases h1 : 0 ≤ r.wd ∧ r.wd < ln.length
     ·rw [decide_eq_true h1] at hi43 ⊢
      obtain ⟨w,hwn⟩ : ∃ n : Nat,r.wd = n := ⟨r.wd.toNat,by omega⟩
      obtain ⟨s,hs⟩ := at_lt ln w (by omega)
      have hi := hy.idx (strs_get hs)
      rw [hwn] at hi43 ⊢
      have ha : at0 ln w = s := by unfold at0;rw [Int.toNat_natCast,hs];rfl
      cases h2 : wordB r.word
      ·rw [h2] at hi61
       simp -implicitDefEqProofs only [go_sem,↓reduceIte,Int.reduceEq,Int.reduceLT,Int.reduceLE,List.reduceReplicate,intA,setT_nil,setT_cons,hy.len,hy.lenI,strs_len,hw1,hi43,hi61]
      ·rw [h2] at hi61
       simp -implicitDefEqProofs only [go_sem,↓reduceIte,Int.reduceEq,Int.reduceLT,Int.reduceLE,List.reduceReplicate,intA,setT_nil,setT_cons,hy.len,hy.lenI,strs_len,hw1,hi43,hi61,hi,bin_sne,ha]
     ·rw [decide_eq_false h1] at hi43 ⊢
      simp -implicitDefEqProofs only [go_sem,↓reduceIte,Int.reduceEq,Int.reduceLT,Int.reduceLE,List.reduceReplicate,intA,setT_nil,setT_cons,hy.len,hy.lenI,strs_len,hw1,hi43]
   ·rw [if_pos (of_decide_eq_true k2)]
    unfold fits2
    cases h1 : withinB 0 ln.length [r.wd]
    ·rw [h1] at h43'
     simp -implicitDefEqProofs only [Tryz.f93,rdV,go_sem,↓reduceIte,Int.reduceEq,Int.reduceLT,Int.reduceLE,List.reduceReplicate,intA,setT_nil,setT_cons,hch.cells,hch.flat,hch.bound,hc,Option.isSome_some,hy.cells,hy.flat,hy.bound,hy.len,strs_len,bin_eq8,k1,k2,h43']
    ·rw [h1] at h43'
     simp -implicitDefEqProofs only [Tryz.f93,rdV,go_sem,↓reduceIte,Int.reduceEq,Int.reduceLT,Int.reduceLE,List.reduceReplicate,intA,setT_nil,setT_cons,hch.cells,hch.flat,hch.bound,hc,Option.isSome_some,hy.cells,hy.flat,hy.bound,hy.len,strs_len,bin_eq8,k1,k2,h43',h61]
  ·rw [if_pos (of_decide_eq_true k1)]
   unfold fits1
   cases h1 : decide (0 ≤ r.wd ∧ r.wd < ln.length)
   ·rw [h1] at h43
    simp -implicitDefEqProofs only [Tryz.f93,rdV,go_sem,↓reduceIte,Int.reduceEq,Int.reduceLT,Int.reduceLE,List.reduceReplicate,intA,setT_nil,setT_cons,hch.cells,hch.flat,hch.bound,hc,Option.isSome_some,hy.cells,hy.flat,hy.bound,hy.len,strs_len,bin_eq8,k1,hw1,h43]
   ·rw [h1] at h43
    simp -implicitDefEqProofs only [Tryz.f93,rdV,go_sem,↓reduceIte,Int.reduceEq,Int.reduceLT,Int.reduceLE,List.reduceReplicate,intA,setT_nil,setT_cons,hch.cells,hch.flat,hch.bound,hc,Option.isSome_some,hy.cells,hy.flat,hy.bound,hy.len,strs_len,bin_eq8,k1,hw1,h43,bin_seq]
    rfl
end Go.Ev
namespace Go.Ev
open Go.Proofs
attribute [local irreducible] Wp WpS
def refI (k n w : Int) (s : List ByteArray × ByteArray) (r : Rd) : List ByteArray × ByteArray :=
 if r.ch = k ∧ r.ln = n ∧ r.wd = w then if r.kind = 2 then (s.1 ++ [r.word],s.2) else (s.1,r.word) else s
def refW (l : Line) (rs : List Rd) (k n : Int) (ds : List ByteArray) (w : Nat) : List ByteArray :=
 let s := rs.foldl (refI k n w) (ds,(l[w]?).getD emp)
 if s.2 = emp then s.1 else s.1 ++ [s.2]
def refLine (l : Line) (rs : List Rd) (k n : Int) : List ByteArray := (List.range (l.length + 1)).foldl (refW l rs k n) []
structure M79 (id : Int) (x : AV) (H : Heap) (ds : List ByteArray) (out : AV) : Prop where
 lock : H.lock = 0
 size : 2 ≤ H.size
 b1 : H.get 1 = some (.cells 0 0 66 1 false [.v (.int .i64 id),x])
 done : DoneR H ds out
theorem M79.row1 {id : Int} {x : AV} {H : Heap} {ds : List ByteArray} {out : AV} (h : M79 id x H ds out) (E : List (Option AObj)) : (H.plus E).row 1 0 = some (0,66,1,false,[.v (.int .i64 id),x]) := by
 rw [rowLo (by have := h.size;omega)];exact get_row h.b1
theorem M79.plus {id : Int} {x : AV} {H : Heap} {ds : List ByteArray} {out : AV} (h : M79 id x H ds out) (E : List (Option AObj)) : M79 id x (H.plus E) ds out :=
 ⟨h.lock,by have := h.size;rw [plus_size];omega,(plus_get E (by have := h.size;omega)).trans h.b1,h.done.plus E⟩
theorem M79.trim {id : Int} {x : AV} {H : Heap} {ds : List ByteArray} {out : AV} (h : M79 id x H ds out) {n : Nat} (hn : 2 ≤ n) (hn2 : n ≤ H.size) (vs : List AV) (ms : List Nat) (hv : bound out ≤ boundL vs) : M79 id x (H.trim n vs ms) ds out := by
 refine ⟨trim_lock.trans h.lock,Nat.le_trans hn (trim_size' hn2),(trim_lo (by omega)).trans h.b1, ?_⟩
 rcases h.done with hd | ⟨b,v,h1,h2,rfl,h4⟩
 ·exact Or.inl hd
 ·unfold Heap.trim
  split
  ·rename_i hq
   rw [Bool.and_eq_true,Bool.and_eq_true,Bool.and_eq_true,Nat.ble_eq] at hq
   have h5 := hq.1.1.1
   have hb : b < n := by simp only [bound] at hv;omega
   have hg := (takeH_get (H := H) hb).trans (row_of_get h4)
   exact Or.inr ⟨b,v,h1,get_size hg,rfl,get_row hg⟩
  ·exact Or.inr ⟨b,v,h1,h2,rfl,h4⟩
theorem M79.more {id : Int} {x : AV} {H : Heap} {ds : List ByteArray} {b v : Nat} (h : M79 id x H ds (.sl b v 0 ds.length none)) (hb : b < H.size) (hr : H.row b v = some (0,9,1,true,strs ds)) (s : List ByteArray) (n : Nat) (hn : n = ds.length + s.length) : M79 id x (H.put b (.cells (v + 1) 0 9 1 true (strs (ds ++ s)))) (ds ++ s) (.sl b (v + 1) 0 n none) := by
 have hne : 1 ≠ b := by
  rintro rfl
  have := (row_of_get hr).symm.trans h.b1
  simp at this
 refine ⟨h.lock,by rw [put_sizeI _ hb];exact h.size,(put_get_ne _ (by have := h.size;omega) hne).trans h.b1,Or.inr ⟨b,v + 1, ?_,by rw [put_sizeI _ hb];exact hb,by rw [hn,List.length_append],row_put_same hb⟩⟩
 have := h.lock
 show H.lock ≤ b
 omega
theorem M79.new {id : Int} {x : AV} {H : Heap} {ds : List ByteArray} {out : AV} (h : M79 id x H ds out) {N : Nat} (hN : H.size = N) (E : List (Option AObj)) (k : Nat) (ds' : List ByteArray) (hE : E[k]? = some (some (.cells 0 0 9 1 true (strs ds')))) : M79 id x (H.plus E) ds' (.sl (N + k) 0 0 ds'.length none) := by
 have hk := (List.getElem?_eq_some_iff.1 hE).1
 refine ⟨h.lock,by have := h.size;rw [plus_size];omega,(plus_get E (by have := h.size;omega)).trans h.b1,Or.inr ⟨N + k,0, ?_,by rw [plus_size];omega,rfl, ?_⟩⟩
 ·have := h.lock
  show H.lock ≤ _
  omega
 ·rw [rowP hN,hE];rfl
theorem le_boundL {v : AV} : ∀ {vs : List AV},v ∈ vs → bound v ≤ boundL vs
 | a :: r,h => by
  rw [boundL_cons]
  rcases List.mem_cons.1 h with rfl | h
  ·exact Nat.le_max_left _ _
  ·exact Nat.le_trans (le_boundL h) (Nat.le_max_right _ _)
theorem fitsA1 : fitsA 16 1 = true := by decide
noncomputable def bodyI79 : Code := ((Tryz.f94.body.map loops).getD [])[1]?.getD .skip
def T79 (ch x lx : AV) (id k n w : Int) (b33 : Bool) (out : AV) (own : ByteArray) (i : Int) : List (Tmp × AV) :=
 [(0,.agg [ch]),(1,.agg [.v (.int .i64 id),x]),(2,.v (.int .i64 k)),(3,.v (.int .i64 n)),(4,.ptr 0 0 0),(5,.ptr 1 0 0),(8,.v (.slice none 0 0)),(9,out),(10,lx),(11,.v (.int .i64 w)),(27,.v (.bool true)),(12,.v (.string own)),(33,.v (.bool b33)),(13,.v (.int .i64 i))]
theorem inner79 {e : Exts} (rs : List Rd) (x : AV) (hx : SlOf 5 (rs.map rdV) x) (ch lx : AV) (id k n w : Int) (b33 : Bool) (ds0 : List ByteArray) (own0 : ByteArray) (K : Post)
  (hK : ∀ H out,M79 id x H (rs.foldl (refI k n w) (ds0,own0)).1 out → AtK K (.exit 2) ⟨86,T79 ch x lx id k n w b33 out (rs.foldl (refI k n w) (ds0,own0)).2 rs.length,[]⟩ H)
  (X : Heap) (out0 : AV) (hM0 : M79 id x X ds0 out0) (hlen : ds0.length + rs.length < 2 ^ 32) :
  Lp (Cx e) 94 none [0,1,2,3,4,5,8,9,10,11,27,12,33,13] bodyI79 ⟨86,T79 ch x lx id k n w b33 out0 own0 0,[]⟩ X K := by
 refine Lp_ruleQ (P := fun μ a H => ∃ (i : Nat) (s : List ByteArray × ByteArray) (out : AV),i + μ = rs.length ∧ s = (rs.take i).foldl (refI k n w) (ds0,own0) ∧ s.1.length ≤ ds0.length + i ∧ a = ⟨86,T79 ch x lx id k n w b33 out s.2 i,[]⟩ ∧ M79 id x H s.1 out) ?_ rs.length _ _ ⟨0,(ds0,own0),out0,by omega,rfl,Nat.le_refl _,rfl,hM0⟩
 rintro Q KK hQ hKK μ _ Y ⟨i,⟨ds,own⟩,out,hi0,hs,hsl,rfl,hM⟩
 unfold bodyI79 T79
 simp only [Tryz.f94,loops,Option.map_some,Option.getD_some,List.nil_append,List.append_nil,List.cons_append,List.getElem?_cons_zero,List.getElem?_cons_succ]
 obtain ⟨N,hN⟩ : ∃ N,Y.size = N := ⟨_,rfl⟩
 have hlk : Y.lock ≤ N := by have := hM.lock;omega
 have hr1 := hM.row1
 by_cases hlt : (i : Int) < (rs.length : Int)
 ·obtain ⟨r,hr⟩ := at_lt rs i (by omega)
  have hw := wrap_succ i (by omega)
  have hir := hx.idx (rds_get hr)
  unfold rdV at hir
  have ht : (rs.take (i + 1)).foldl (refI k n w) (ds0,own0) = refI k n w (ds,own) r := by
   rw [List.take_add_one,hr,List.foldl_append,← hs];rfl
  rw [← plus_nil Y]
  have hn2 : 2 ≤ N := by have := hM.size;omega
  have stay : refI k n w (ds,own) r = (ds,own) → ∀ E : List (Option AObj),Again Q μ ⟨86,T79 ch x lx id k n w b33 out own (i + 1 : Nat),[]⟩ ((Y.plus E).trim N ((T79 ch x lx id k n w b33 out own (i + 1 : Nat)).map (·.2)) []) := fun hq E =>
   ⟨μ - 1,by omega,hQ _ _ _ ⟨i + 1,(ds,own),out,by omega,(ht.trans hq).symm,by simp only at hsl ⊢;omega,rfl,(hM.plus E).trim hn2 (by rw [plus_size];omega) _ _ (le_boundL (by simp [T79]))⟩⟩
  cases h1 : decide (r.ch = k)
  ·simp -implicitDefEqProofs only [go_sem,↓reduceIte,Int.reduceEq,Int.reduceLT,Int.reduceLE,List.reduceReplicate,intA,setT_nil,setT_cons,hr1,hx.len,List.length_map,hlt,hw,hir,h1,sizeP hN,putP0 hN,putP hN,settleP0 hN,settleP hN,rowP0 hN,rowP hN,storeP0 hN hlk,storeP hN hlk,List.length_nil,Nat.add_zero]
   exact stay (by unfold refI;rw [if_neg (fun h => of_decide_eq_false h1 h.1)]) _
  cases h2 : decide (r.ln = n)
  ·simp -implicitDefEqProofs only [go_sem,↓reduceIte,Int.reduceEq,Int.reduceLT,Int.reduceLE,List.reduceReplicate,intA,setT_nil,setT_cons,hr1,hx.len,List.length_map,hlt,hw,hir,h1,h2,sizeP hN,putP0 hN,putP hN,settleP0 hN,settleP hN,rowP0 hN,rowP hN,storeP0 hN hlk,storeP hN hlk,List.length_nil,Nat.add_zero]
   exact stay (by unfold refI;rw [if_neg (fun h => of_decide_eq_false h2 h.2.1)]) _
  cases h3 : decide (r.wd = w)
  ·simp -implicitDefEqProofs only [go_sem,↓reduceIte,Int.reduceEq,Int.reduceLT,Int.reduceLE,List.reduceReplicate,intA,setT_nil,setT_cons,hr1,hx.len,List.length_map,hlt,hw,hir,h1,h2,h3,sizeP hN,putP0 hN,putP hN,settleP0 hN,settleP hN,rowP0 hN,rowP hN,storeP0 hN hlk,storeP hN hlk,List.length_nil,Nat.add_zero]
   exact stay (by unfold refI;rw [if_neg (fun h => of_decide_eq_false h3 h.2.2)]) _
  have hat : r.ch = k ∧ r.ln = n ∧ r.wd = w := ⟨of_decide_eq_true h1,of_decide_eq_true h2,of_decide_eq_true h3⟩
  cases h4 : decide (r.kind = 2)
  ·have hq : refI k n w (ds,own) r = (ds,r.word) := by unfold refI;rw [if_pos hat,if_neg (of_decide_eq_false h4)]
   simp -implicitDefEqProofs only [go_sem,↓reduceIte,Int.reduceEq,Int.reduceLT,Int.reduceLE,List.reduceReplicate,intA,setT_nil,setT_cons,hr1,hx.len,List.length_map,hlt,hw,hir,h1,h2,h3,bin_eq8,h4,sizeP hN,putP0 hN,putP hN,settleP0 hN,settleP hN,rowP0 hN,rowP hN,storeP0 hN hlk,storeP hN hlk,List.length_nil,Nat.add_zero]
   exact ⟨μ - 1,by omega,hQ _ _ _ ⟨i + 1,(ds,r.word),out,by omega,(ht.trans hq).symm,by simp only at hsl ⊢;omega,rfl,(hM.plus _).trim hn2 (by rw [plus_size];omega) _ _ (le_boundL (by simp))⟩⟩
  have hq : refI k n w (ds,own) r = (ds ++ [r.word],own) := by unfold refI;rw [if_pos hat,if_pos (of_decide_eq_true h4)]
  rcases hM.done with ⟨hd,ho⟩ | ⟨b,v,hb1,hb2,ho,hrow⟩
  ·simp only at hd ho
   subst hd ho
   simp -implicitDefEqProofs only [go_sem,↓reduceIte,Int.reduceEq,Int.reduceLT,Int.reduceLE,List.reduceReplicate,intA,setT_nil,setT_cons,hr1,hx.len,List.length_map,hlt,hw,hir,h1,h2,h3,bin_eq8,h4,fitsA1,List.flatMap_cons,List.flatMap_nil,sizeP hN,putP0 hN,putP hN,settleP0 hN,settleP hN,rowP0 hN,rowP hN,storeP0 hN hlk,storeP hN hlk,List.length_nil,Nat.add_zero]
   have hnew := hM.new hN [some (.cells 0 0 105 1 false [.v (.int .i64 r.ch),.v (.int .i64 r.ln),.v (.int .i64 r.wd),.v (.int .u8 r.kind),.v (.string r.word)]),some (.cells 0 0 9 1 true [.v (.string r.word)])] 1 [r.word] rfl
   exact ⟨μ - 1,by omega,hQ _ _ _ ⟨i + 1,([] ++ [r.word],own),.sl (N + 1) 0 0 1 none,by omega,(ht.trans hq).symm,by simp only [List.nil_append,List.length_cons,List.length_nil] at hsl ⊢;omega,rfl,hnew.trim hn2 (by rw [plus_size];omega) _ _ (le_boundL (by simp))⟩⟩
  ·simp only at ho hrow
   subst ho
   simp -implicitDefEqProofs only [go_sem,↓reduceIte,Int.reduceEq,Int.reduceLT,Int.reduceLE,List.reduceReplicate,intA,setT_nil,setT_cons,hr1,hx.len,List.length_map,hlt,hw,hir,h1,h2,h3,bin_eq8,h4,List.flatMap_cons,List.flatMap_nil,sizeP hN,putP0 hN,putP hN,settleP0 hN,settleP hN,rowP0 hN,rowP hN,storeP0 hN hlk,storeP hN hlk,List.length_nil,Nat.add_zero]
   have hrp : ∀ E,(Y.plus E).row b v = some (0,9,1,true,strs ds) := fun E => by rw [rowLo hb2];exact hrow
   have hf : fitsA 16 (ds.length + 1) = true := by unfold fitsA;exact decide_eq_true (by simp only at hsl;omega)
   have hmore := hM.more hb2 hrow [r.word] (ds.length + 1) rfl
   rw [appTo_own (m := 0) (e' := 9) (cs := strs ds) (hrp _) (by rw [strs_len,Nat.mul_one]) hb1 hf (by omega) (by omega)]
   rw [putLo hb2]
   have hNY : (Y.put b (.cells (v + 1) (Nat.max 0 0) 9 1 true (strs ds ++ [.v (.string r.word)]))).size = N := by rw [put_sizeI _ hb2];exact hN
   have hst : strs (ds ++ [r.word]) = strs ds ++ [.v (.string r.word)] := strs_append _ _
   rw [hst] at hmore
   change M79 id x (Y.put b (.cells (v + 1) (Nat.max 0 0) 9 1 true (strs ds ++ [.v (.string r.word)]))) _ _ at hmore
   change bindO (some (AV.sl b (v + 1) 0 (ds.length + 1) none,(Y.put b (.cells (v + 1) (Nat.max 0 0) 9 1 true (strs ds ++ [.v (.string r.word)]))).plus _)) _
   generalize Y.put b (.cells (v + 1) (Nat.max 0 0) 9 1 true (strs ds ++ [.v (.string r.word)])) = Z at hmore hNY ⊢
   simp -implicitDefEqProofs only [go_sem,↓reduceIte,Int.reduceEq,Int.reduceLT,Int.reduceLE,List.reduceReplicate,intA,setT_nil,setT_cons,sizeP hNY,settleP0 hNY,settleP hNY]
   exact ⟨μ - 1,by omega,hQ _ _ _ ⟨i + 1,(ds ++ [r.word],own),.sl b (v + 1) 0 (ds.length + 1) none,by omega,(ht.trans hq).symm,by simp only [List.length_append,List.length_cons,List.length_nil] at hsl ⊢;omega,rfl,(hmore.plus _).trim hn2 (by rw [plus_size];omega) _ _ (le_boundL (by simp))⟩⟩
 ·obtain rfl : i = rs.length := by omega
  rw [List.take_length] at hs
  have hc := hK Y out (by rw [← hs];exact hM)
  rw [← hs] at hc
  unfold T79 at hc
  rw [← plus_nil Y] at hc ⊢
  simp -implicitDefEqProofs only [go_sem,↓reduceIte,Int.reduceEq,Int.reduceLT,Int.reduceLE,List.reduceReplicate,intA,setT_nil,setT_cons,↓boolP_bool,↓iteB_true,↓iteB_false,hr1,hx.len,List.length_map,Int.lt_irrefl,sizeP hN,settleP0 hN,settleP hN,trimP0 hN,List.length_nil,Nat.add_zero]
  exact hKK _ _ _ hc
end Go.Ev
namespace Go.Ev
open Go.Proofs
attribute [local irreducible] Wp WpS
theorem M79.trim' {id : Int} {x : AV} {H : Heap} {ds : List ByteArray} {out : AV} (h : M79 id x H ds out) {n : Nat} (hn : 2 ≤ n) (vs : List AV) (ms : List Nat) (hv : bound out ≤ boundL vs) : M79 id x (H.trim n vs ms) ds out := by
 by_cases h2 : n ≤ H.size
 ·exact h.trim hn h2 vs ms hv
 ·rw [trim_whole (by omega)];exact h
theorem refI_len (k n w : Int) : ∀ (rs : List Rd) (s : List ByteArray × ByteArray),(rs.foldl (refI k n w) s).1.length ≤ s.1.length + rs.length
 | [],s => Nat.le_refl _
 | r :: rs,s => by
  have h := refI_len k n w rs (refI k n w s r)
  have h2 : (refI k n w s r).1.length ≤ s.1.length + 1 := by
   unfold refI;split
   ·split
    ·simp
    ·exact Nat.le_succ _
   ·exact Nat.le_succ _
  simp only [List.foldl_cons,List.length_cons];omega
theorem refW_len (l : Line) (rs : List Rd) (k n : Int) (w : Nat) (ds : List ByteArray) : (refW l rs k n ds w).length ≤ ds.length + rs.length + 1 := by
 have h := refI_len k n w rs (ds,(l[w]?).getD emp)
 unfold refW
 simp only at h ⊢
 split
 ·omega
 ·rw [List.length_append];simp only [List.length_cons,List.length_nil];omega
theorem refs_len (l : Line) (rs : List Rd) (k n : Int) (hrs : rs.length ≤ 1000) : ∀ w : Nat,((List.range w).foldl (refW l rs k n) []).length ≤ w * 1001
 | 0 => Nat.le_refl _
 | w + 1 => by
  rw [List.range_succ,List.foldl_append]
  have h := refs_len l rs k n hrs w
  have h2 := refW_len l rs k n w ((List.range w).foldl (refW l rs k n) [])
  show (refW l rs k n _ w).length ≤ _
  omega
theorem ans79 {e : Exts} (t : Txt) (ht : Fits t) (ch : AV) (xs : List AV) (hch : SlOf 2 xs ch) (hall : All2 ChapA t xs) (id : Int) (rs : List Rd) (x : AV) (hx : RdsA rs x) (k n : Nat) (cp : Chap) (hk : t[k]? = some cp) (ln : Line) (hn : cp.2[n]? = some ln) (hlen : ln.length ≤ 1000) (hrs : rs.length ≤ 1000) : ∃ v,SlOf 1 (strs (refLine ln rs k n)) v ∧ Ans (Cx e) 94 [.agg [ch],.agg [intA id,x],intA k,intA n] v := by
 have hx : SlOf 5 (rs.map rdV) x := hx
 obtain ⟨z,hz,l,rfl,lxs,hl,hls⟩ := hall.get hk
 obtain ⟨lx,hlx,hll⟩ := hls.get hn
 have hll : SlOf 1 (strs ln) lx := hll
 have hi := hch.idx hz
 unfold intA at hi
 refine ans_of_P ?_
 rw [fn_step (fn_94 e) (show Tryz.f94.body = some _ from rfl)]
 simp -implicitDefEqProofs only [Tryz.f94,go_sem,↓reduceIte,Int.reduceEq,Int.reduceLT,Int.reduceLE,List.reduceReplicate,intA,setT_nil,setT_cons,hch.cells,hch.flat,hch.bound,hx.cells,hx.flat,hx.bound,hi,hl.cells,hl.idx hlx,hll.cells,hll.flat]
 refine Lp_rule (P := fun μ a H => ∃ w ds out,w + μ = ln.length + 1 ∧ a = ⟨86,[(0,.agg [ch]),(1,.agg [intA id,x]),(2,intA k),(3,intA n),(4,.ptr 0 0 0),(5,.ptr 1 0 0),(8,.v (.slice none 0 0)),(9,out),(10,lx),(11,intA w)],[]⟩ ∧ M79 id x H ds out ∧ ds = (List.range w).foldl (refW ln rs k n) []) ?_ (ln.length + 1) _ _ ⟨0,[],.v (.slice none 0 0),by omega,rfl,⟨rfl,Nat.le_refl _,rfl,Or.inl ⟨rfl,rfl⟩⟩,rfl⟩
 rintro μ _ X ⟨w,ds,out,hw0,rfl,hM,hds⟩
 have hfit := ht.words cp (List.mem_of_getElem? hk) ln (List.mem_of_getElem? hn)
 by_cases hle : (w : Int) ≤ (ln.length : Int)
 ·have hw := wrap_succ w (by omega)
  have hds2 : ds.length ≤ w * 1001 := by rw [hds];exact refs_len ln rs k n hrs w
  have hNx : ds.length + rs.length < 2 ^ 32 := by omega
  have hstep : (List.range (w + 1)).foldl (refW ln rs k n) [] = refW ln rs k n ds w := by rw [List.range_succ,List.foldl_append,← hds];rfl
  by_cases hlt : (w : Int) < (ln.length : Int)
  ·obtain ⟨s,hs⟩ := at_lt ln w (by omega)
   have hsi := hll.idx (strs_get hs)
   have how : (ln[w]?).getD emp = s := by rw [hs];rfl
   simp -implicitDefEqProofs only [go_sem,↓reduceIte,Int.reduceEq,Int.reduceLT,Int.reduceLE,List.reduceReplicate,intA,setT_nil,setT_cons,↓boolP_bool,↓iteB_true,↓iteB_false,hll.len,strs_len,hle,hlt,hsi]
   refine inner79 rs x hx ch lx id k n w true ds s _ ?_ X out hM hNx
   intro Y o2 hM2
   unfold T79
   obtain ⟨N,hN⟩ : ∃ N,Y.size = N := ⟨_,rfl⟩
   have hlk : Y.lock ≤ N := by have := hM2.lock;omega
   have hl2 := refI_len k n w rs (ds,s)
   have hqW : refW ln rs k n ds w = if (rs.foldl (refI k n w) (ds,s)).2 = emp then (rs.foldl (refI k n w) (ds,s)).1 else (rs.foldl (refI k n w) (ds,s)).1 ++ [(rs.foldl (refI k n w) (ds,s)).2] := by unfold refW;rw [how]
   generalize rs.foldl (refI k n w) (ds,s) = st at hM2 hl2 hqW ⊢
   obtain ⟨ds2,own2⟩ := st
   simp only at hM2 hl2 hqW
   rw [← plus_nil Y]
   by_cases he : own2 = ({ data := #[] } : ByteArray)
   ·rw [if_pos (show own2 = emp from he)] at hqW
    have he' : decide (own2 = ({ data := #[] } : ByteArray)) = true := decide_eq_true he
    simp -implicitDefEqProofs only [go_sem,↓reduceIte,Int.reduceEq,Int.reduceLT,Int.reduceLE,List.reduceReplicate,intA,setT_nil,setT_cons,↓boolP_bool,↓iteB_true,↓iteB_false,bin_sne,he',hw,sizeP hN,settleP0 hN,settleP hN,List.length_nil,Nat.add_zero]
    exact ⟨μ - 1,by omega,w + 1,ds2,o2,by omega,rfl,(hM2.plus _).trim' hM.size _ _ (le_boundL (by simp)),by rw [hstep,hqW]⟩
   ·rw [if_neg (show ¬ own2 = emp from he)] at hqW
    have he' : decide (own2 = ({ data := #[] } : ByteArray)) = false := decide_eq_false he
    rcases hM2.done with ⟨hd,ho⟩ | ⟨b,v,hb1,hb2,ho,hrow⟩
    ·subst hd ho
     simp -implicitDefEqProofs only [go_sem,↓reduceIte,Int.reduceEq,Int.reduceLT,Int.reduceLE,List.reduceReplicate,intA,setT_nil,setT_cons,↓boolP_bool,↓iteB_true,↓iteB_false,bin_sne,he',hw,fitsA1,List.flatMap_cons,List.flatMap_nil,sizeP hN,putP0 hN,putP hN,settleP0 hN,settleP hN,rowP0 hN,rowP hN,storeP0 hN hlk,storeP hN hlk,List.length_nil,Nat.add_zero]
     have hnew := hM2.new hN [some (.cells 0 0 9 1 true [.v (.string own2)])] 0 [own2] rfl
     exact ⟨μ - 1,by omega,w + 1,[] ++ [own2],.sl N 0 0 1 none,by omega,rfl,hnew.trim' hM.size _ _ (le_boundL (by simp)),by rw [hstep,hqW]⟩
    ·subst ho
     have hrp : ∀ E,(Y.plus E).row b v = some (0,9,1,true,strs ds2) := fun E => by rw [rowLo hb2];exact hrow
     have hf : fitsA 16 (ds2.length + 1) = true := by unfold fitsA;exact decide_eq_true (by omega)
     have hmore := hM2.more hb2 hrow [own2] (ds2.length + 1) rfl
     simp -implicitDefEqProofs only [go_sem,↓reduceIte,Int.reduceEq,Int.reduceLT,Int.reduceLE,List.reduceReplicate,intA,setT_nil,setT_cons,↓boolP_bool,↓iteB_true,↓iteB_false,bin_sne,he',hw,List.flatMap_cons,List.flatMap_nil,sizeP hN,putP0 hN,putP hN,settleP0 hN,settleP hN,rowP0 hN,rowP hN,storeP0 hN hlk,storeP hN hlk,List.length_nil,Nat.add_zero]
     rw [appTo_own (m := 0) (e' := 9) (cs := strs ds2) (hrp _) (by rw [strs_len,Nat.mul_one]) hb1 hf (by omega) (by omega)]
     rw [putLo hb2]
     have hNY : (Y.put b (.cells (v + 1) (Nat.max 0 0) 9 1 true (strs ds2 ++ [.v (.string own2)]))).size = N := by rw [put_sizeI _ hb2];exact hN
     have hst : strs (ds2 ++ [own2]) = strs ds2 ++ [.v (.string own2)] := strs_append _ _
     rw [hst] at hmore
     change M79 id x (Y.put b (.cells (v + 1) (Nat.max 0 0) 9 1 true (strs ds2 ++ [.v (.string own2)]))) _ _ at hmore
     change bindO (some (AV.sl b (v + 1) 0 (ds2.length + 1) none,(Y.put b (.cells (v + 1) (Nat.max 0 0) 9 1 true (strs ds2 ++ [.v (.string own2)]))).plus _)) _
     generalize Y.put b (.cells (v + 1) (Nat.max 0 0) 9 1 true (strs ds2 ++ [.v (.string own2)])) = Z at hmore hNY ⊢
     simp -implicitDefEqProofs only [go_sem,↓reduceIte,Int.reduceEq,Int.reduceLT,Int.reduceLE,List.reduceReplicate,intA,setT_nil,setT_cons,↓boolP_bool,↓iteB_true,↓iteB_false,hw,sizeP hNY,settleP0 hNY,settleP hNY]
     exact ⟨μ - 1,by omega,w + 1,ds2 ++ [own2],.sl b (v + 1) 0 (ds2.length + 1) none,by omega,rfl,(hmore.plus _).trim' hM.size _ _ (le_boundL (by simp)),by rw [hstep,hqW]⟩
  ·obtain rfl : w = ln.length := by omega
   simp -implicitDefEqProofs only [go_sem,↓reduceIte,Int.reduceEq,Int.reduceLT,Int.reduceLE,List.reduceReplicate,intA,setT_nil,setT_cons,↓boolP_bool,↓iteB_true,↓iteB_false,hll.len,strs_len,hle,hlt]
   refine inner79 rs x hx ch lx id k n ln.length false ds emp _ ?_ X out hM hNx
   intro Y o2 hM2
   have how : (ln[ln.length]?).getD emp = emp := by rw [List.getElem?_eq_none_iff.2 (Nat.le_refl _)];rfl
   unfold T79
   obtain ⟨N,hN⟩ : ∃ N,Y.size = N := ⟨_,rfl⟩
   have hlk : Y.lock ≤ N := by have := hM2.lock;omega
   have hl2 := refI_len k n ln.length rs (ds,emp)
   have hqW : refW ln rs k n ds ln.length = if (rs.foldl (refI k n ln.length) (ds,emp)).2 = emp then (rs.foldl (refI k n ln.length) (ds,emp)).1 else (rs.foldl (refI k n ln.length) (ds,emp)).1 ++ [(rs.foldl (refI k n ln.length) (ds,emp)).2] := by unfold refW;rw [how]
   generalize rs.foldl (refI k n ln.length) (ds,emp) = st at hM2 hl2 hqW ⊢
   obtain ⟨ds2,own2⟩ := st
   simp only at hM2 hl2 hqW
   rw [← plus_nil Y]
   by_cases he : own2 = ({ data := #[] } : ByteArray)
   ·rw [if_pos (show own2 = emp from he)] at hqW
    have he' : decide (own2 = ({ data := #[] } : ByteArray)) = true := decide_eq_true he
    simp -implicitDefEqProofs only [go_sem,↓reduceIte,Int.reduceEq,Int.reduceLT,Int.reduceLE,List.reduceReplicate,intA,setT_nil,setT_cons,↓boolP_bool,↓iteB_true,↓iteB_false,bin_sne,he',hw,sizeP hN,settleP0 hN,settleP hN,List.length_nil,Nat.add_zero]
    exact ⟨μ - 1,by omega,ln.length + 1,ds2,o2,by omega,rfl,(hM2.plus _).trim' hM.size _ _ (le_boundL (by simp)),by rw [hstep,hqW]⟩
   ·rw [if_neg (show ¬ own2 = emp from he)] at hqW
    have he' : decide (own2 = ({ data := #[] } : ByteArray)) = false := decide_eq_false he
    rcases hM2.done with ⟨hd,ho⟩ | ⟨b,v,hb1,hb2,ho,hrow⟩
    ·subst hd ho
     simp -implicitDefEqProofs only [go_sem,↓reduceIte,Int.reduceEq,Int.reduceLT,Int.reduceLE,List.reduceReplicate,intA,setT_nil,setT_cons,↓boolP_bool,↓iteB_true,↓iteB_false,bin_sne,he',hw,fitsA1,List.flatMap_cons,List.flatMap_nil,sizeP hN,putP0 hN,putP hN,settleP0 hN,settleP hN,rowP0 hN,rowP hN,storeP0 hN hlk,storeP hN hlk,List.length_nil,Nat.add_zero]
     have hnew := hM2.new hN [some (.cells 0 0 9 1 true [.v (.string own2)])] 0 [own2] rfl
     exact ⟨μ - 1,by omega,ln.length + 1,[] ++ [own2],.sl N 0 0 1 none,by omega,rfl,hnew.trim' hM.size _ _ (le_boundL (by simp)),by rw [hstep,hqW]⟩
    ·subst ho
     have hrp : ∀ E,(Y.plus E).row b v = some (0,9,1,true,strs ds2) := fun E => by rw [rowLo hb2];exact hrow
     have hf : fitsA 16 (ds2.length + 1) = true := by unfold fitsA;exact decide_eq_true (by omega)
     have hmore := hM2.more hb2 hrow [own2] (ds2.length + 1) rfl
     simp -implicitDefEqProofs only [go_sem,↓reduceIte,Int.reduceEq,Int.reduceLT,Int.reduceLE,List.reduceReplicate,intA,setT_nil,setT_cons,↓boolP_bool,↓iteB_true,↓iteB_false,bin_sne,he',hw,List.flatMap_cons,List.flatMap_nil,sizeP hN,putP0 hN,putP hN,settleP0 hN,settleP hN,rowP0 hN,rowP hN,storeP0 hN hlk,storeP hN hlk,List.length_nil,Nat.add_zero]
     rw [appTo_own (m := 0) (e' := 9) (cs := strs ds2) (hrp _) (by rw [strs_len,Nat.mul_one]) hb1 hf (by omega) (by omega)]
     rw [putLo hb2]
     have hNY : (Y.put b (.cells (v + 1) (Nat.max 0 0) 9 1 true (strs ds2 ++ [.v (.string own2)]))).size = N := by rw [put_sizeI _ hb2];exact hN
     have hst : strs (ds2 ++ [own2]) = strs ds2 ++ [.v (.string own2)] := strs_append _ _
     rw [hst] at hmore
     change M79 id x (Y.put b (.cells (v + 1) (Nat.max 0 0) 9 1 true (strs ds2 ++ [.v (.string own2)]))) _ _ at hmore
     change bindO (some (AV.sl b (v + 1) 0 (ds2.length + 1) none,(Y.put b (.cells (v + 1) (Nat.max 0 0) 9 1 true (strs ds2 ++ [.v (.string own2)]))).plus _)) _
     generalize Y.put b (.cells (v + 1) (Nat.max 0 0) 9 1 true (strs ds2 ++ [.v (.string own2)])) = Z at hmore hNY ⊢
     simp -implicitDefEqProofs only [go_sem,↓reduceIte,Int.reduceEq,Int.reduceLT,Int.reduceLE,List.reduceReplicate,intA,setT_nil,setT_cons,↓boolP_bool,↓iteB_true,↓iteB_false,hw,sizeP hNY,settleP0 hNY,settleP hNY]
     exact ⟨μ - 1,by omega,ln.length + 1,ds2 ++ [own2],.sl b (v + 1) 0 (ds2.length + 1) none,by omega,rfl,(hmore.plus _).trim' hM.size _ _ (le_boundL (by simp)),by rw [hstep,hqW]⟩
 ·have hw1 : w = ln.length + 1 := by omega
  have hfin : ds = refLine ln rs k n := by rw [hds,hw1];rfl
  rw [hfin] at hM
  obtain ⟨v,hv1,hv2⟩ := freeze_done hM.done hM.lock
  simp -implicitDefEqProofs only [go_sem,↓reduceIte,Int.reduceEq,Int.reduceLT,Int.reduceLE,List.reduceReplicate,intA,setT_nil,setT_cons,↓boolP_bool,↓iteB_true,↓iteB_false,hll.len,strs_len,hle]
  exact ⟨v,hv2,hv1⟩
end Go.Ev
namespace Go.Ev
open Go.Proofs
attribute [local irreducible] Wp WpS
theorem call78 {e : Exts} (he : Quiet e) (t : Txt) (ht : Fits t) (ch : AV) (xs : List AV) (hch : SlOf 2 xs ch) (hall : All2 ChapA t xs) (r : Rd) (hr : RdF r) (me : FuncId) (d : Option Tmp) (H : Heap) : callA (Cx e) (lim (Cx e)) me 93 d [.agg [ch],rdV r] H = some (.v (.bool (readB t r)),H) :=
 (ans78 he t ht ch xs hch hall r hr).call (ext_93 he) (pure_93 _ _ _) (by simp only [boundL_cons,bound_agg,hch.bound,rdV_bound,boundL_nil];rfl) H
theorem call79 {e : Exts} (he : Quiet e) (t : Txt) (ht : Fits t) (ch : AV) (xs : List AV) (hch : SlOf 2 xs ch) (hall : All2 ChapA t xs) (id : Int) (rs : List Rd) (x : AV) (hx : RdsA rs x) (k n : Nat) (cp : Chap) (hk : t[k]? = some cp) (ln : Line) (hn : cp.2[n]? = some ln) (hlen : ln.length ≤ 1000) (hrs : rs.length ≤ 1000) :
  ∃ v,SlOf 1 (strs (refLine ln rs k n)) v ∧ ∀ (me : FuncId) (d : Option Tmp) (H : Heap),callA (Cx e) (lim (Cx e)) me 94 d [.agg [ch],.agg [.v (.int .i64 id),x],.v (.int .i64 k),.v (.int .i64 n)] H = some (v,H) := by
 obtain ⟨v,hv,ha⟩ := ans79 (e := e) t ht ch xs hch hall id rs x hx k n cp hk ln hn hlen hrs
 exact ⟨v,hv,fun me d H => ha.call (ext_94 he) (pure_94 _ _ _) (by simp only [boundL_cons,bound_agg,hch.bound,intA,bound_v,SlOf.bound hx,boundL_nil];rfl) H⟩
theorem fit_read {t : Txt} {r : Rd} (h : ∀ l,lineAt t r.ch r.ln = some l → l.length ≠ 0) : fitOne t r = readB t r := by
 unfold fitOne readB
 cases hL : lineAt t r.ch r.ln with
 | none => rfl
 | some l =>
  have h0 := h l hL
  have hz : decide (l.length = 0) = false := decide_eq_false h0
  simp only [hz,Bool.not_false,Bool.true_and]
  by_cases h1 : r.kind = 1
  ·rw [h1];rfl
  ·by_cases h2 : r.kind = 2
   ·rw [h2];rfl
   ·by_cases h3 : r.kind = 3
    ·rw [h3];rfl
    ·rw [if_neg h1,if_neg h1,if_neg h2,if_neg h2,if_neg h3]
     have : withinB 1 3 [r.kind] = false := by
      simp only [withinB,List.all_cons,List.all_nil,Bool.and_true,Bool.and_eq_false_iff,decide_eq_false_iff_not];omega
     rw [this];rfl
end Go.Ev
namespace Go.Ev
open Go.Proofs
attribute [local irreducible] Wp WpS
def pairR (p r : Rd) : Bool := !(beforeB (r.ch,r.ln,r.wd) (p.ch,p.ln,p.wd) || (eqP r.ch r.ln r.wd p.ch p.ln p.wd && !decide (p.kind = 2)))
def rdsB (t : Txt) : Option Rd → List Rd → Bool
 | _,[] => true
 | p,r :: l => readB t r && (match p with | none => true | some p => pairR p r) && rdsB t (some r) l
def linesN (rs : List Rd) (k : Nat) : Nat → List Line → Bool
 | _,[] => true
 | n,l :: r => withinB 1 10 [((refLine l rs k n).length : Int)] && linesN rs k (n + 1) r
def chapsN (rs : List Rd) : Nat → Txt → Bool
 | _,[] => true
 | k,c :: r => linesN rs k 0 c.2 && chapsN rs (k + 1) r
def copyB (t : Txt) (id : Int) (rs : List Rd) : Bool := withinB 0 9999 [id] && !decide (20 < (rs.length : Int)) && (rdsB t none rs && chapsN rs 0 t)
theorem ans57 {e : Exts} (he : Quiet e) (t : Txt) (ht : Fits t) (hlen : ∀ c ∈ t,∀ l ∈ c.2,l.length ≤ 1000) (ch : AV) (xs : List AV) (hch : SlOf 2 xs ch) (hall : All2 ChapA t xs) (id : Int) (rs : List Rd) (x : AV) (hx : RdsA rs x) (hrf : ∀ r ∈ rs,RdF r) : Ans (Cx e) 58 [.agg [ch],.agg [intA id,x]] (.v (.bool (copyB t id rs))) := by
 have hxr := hx
 have hx : SlOf 5 (rs.map rdV) x := hx
 have hfit := ht.chs
 have h43 := call43 he id 0 9999
 unfold Ans
 rw [fn_step (fn_58 e) (show Tryz.f58.body = some _ from rfl)]
 cases h1 : withinB 0 9999 [id]
 ·rw [h1] at h43
  have hB : copyB t id rs = false := by unfold copyB;rw [h1];rfl
  rw [hB]
  simp -implicitDefEqProofs only [Tryz.f58,go_sem,↓reduceIte,Int.reduceEq,Int.reduceLT,Int.reduceLE,List.reduceReplicate,intA,setT_nil,setT_cons,↓boolP_bool,↓iteB_true,↓iteB_false,hch.cells,hch.flat,hch.bound,hx.cells,hx.flat,hx.bound,hx.len,List.length_map,h43]
 by_cases h20 : 20 < (rs.length : Int)
 ·have h2 : decide (20 < (rs.length : Int)) = true := decide_eq_true h20
  rw [h1] at h43
  have hB : copyB t id rs = false := by unfold copyB;rw [h1,h2];rfl
  rw [hB]
  simp -implicitDefEqProofs only [Tryz.f58,go_sem,↓reduceIte,Int.reduceEq,Int.reduceLT,Int.reduceLE,List.reduceReplicate,intA,setT_nil,setT_cons,↓boolP_bool,↓iteB_true,↓iteB_false,hch.cells,hch.flat,hch.bound,hx.cells,hx.flat,hx.bound,hx.len,List.length_map,h43,h2]
 have h2 : decide (20 < (rs.length : Int)) = false := decide_eq_false h20
 rw [h1] at h43
 have hB : copyB t id rs = (rdsB t none rs && chapsN rs 0 t) := by unfold copyB;rw [h1,h2];rfl
 rw [hB]
 simp -implicitDefEqProofs only [Tryz.f58,go_sem,↓reduceIte,Int.reduceEq,Int.reduceLT,Int.reduceLE,List.reduceReplicate,intA,setT_nil,setT_cons,↓boolP_bool,↓iteB_true,↓iteB_false,hch.cells,hch.flat,hch.bound,hx.cells,hx.flat,hx.bound,hx.len,List.length_map,h43,h2]
 refine Lp_rule (P := fun μ a H => ∃ j,j + μ = rs.length ∧ a = ⟨97,[(0,.agg [ch]),(1,.agg [intA id,x]),(2,.ptr 0 0 0),(3,.ptr 1 0 0),(4,.v (.bool false)),(18,.v (.bool false)),(5,intA j)],[]⟩ ∧ H = ⟨[some (.cells 0 0 24 1 false [ch]),some (.cells 0 0 66 1 false [intA id,x])],0⟩ ∧ rdsB t none rs = rdsB t (if j = 0 then none else rs[j - 1]?) (rs.drop j)) ?_ rs.length _ _ ⟨0,by omega,rfl,rfl,rfl⟩
 rintro μ _ _ ⟨j,hj,rfl,rfl,ho⟩
 by_cases hlt : (j : Int) < (rs.length : Int)
 ·obtain ⟨r,hr⟩ := at_lt rs j (by omega)
  have hw := wrap_succ j (by omega)
  have hir := hx.idx (rds_get hr)
  have hc78 := call78 he t ht ch xs hch hall r (hrf r (List.mem_of_getElem? hr))
  unfold rdV at hir hc78
  rw [drop_eq_cons hr] at ho
  cases hrd : readB t r
  ·have hf : rdsB t none rs = false := by rw [ho];unfold rdsB;rw [hrd,Bool.false_and,Bool.false_and]
   rw [hrd] at hc78
   rw [hf,Bool.false_and]
   simp -implicitDefEqProofs only [go_sem,↓reduceIte,Int.reduceEq,Int.reduceLT,Int.reduceLE,List.reduceReplicate,intA,setT_nil,setT_cons,↓boolP_bool,↓iteB_true,↓iteB_false,trim_at,hx.bound,hch.bound,hx.len,List.length_map,hch.cells,hx.cells,hlt,hw,hir,hc78]
  rw [hrd] at hc78
  cases j with
  | zero =>
   have hf : rdsB t none rs = rdsB t (some r) (rs.drop 1) := by rw [ho];show (readB t r && true && _) = _;rw [hrd];rfl
   simp -implicitDefEqProofs only [go_sem,↓reduceIte,Int.reduceEq,Int.reduceLT,Int.reduceLE,List.reduceReplicate,intA,setT_nil,setT_cons,↓boolP_bool,↓iteB_true,↓iteB_false,trim_at,hx.bound,hch.bound,hx.len,List.length_map,hch.cells,hx.cells,hlt,hw,hir,hc78]
   refine wp_drawX [([],[],false),([],[],false),([],[],false),([],[],false),([],[],false),([],[],false),([4],[],false),([],[],false),([],[],false),([],[],false),([],[],false),([4],[],false),([],[],false),([],[],false),([],[],false),([],[],false),([],[],false),([15],[],false),([],[],false),([],[],false),([],[],false),([],[],false),([15],[],false),([],[],false),([],[],false),([],[],false),([],[],false),([],[],false),([],[],false),([],[],false),([],[],false),([],[],false),([],[],false),([],[],false),([],[],false),([],[],false)] (by kernel_rfl) (by kernel_rfl) ?_
   simp -implicitDefEqProofs only [go_sem,↓reduceIte,Int.reduceEq,Int.reduceLT,Int.reduceLE,List.reduceReplicate,intA,setT_nil,setT_cons,↓boolP_bool,↓iteB_true,↓iteB_false,trim_at,hx.bound,hch.bound,hx.len,List.length_map,hch.cells,hx.cells,hw,Int.natCast_zero,Int.lt_irrefl,decide_false,show IntKind.i64.wrap (0 + 1) = 1 from rfl]
   exact ⟨μ - 1,by omega,1,by omega,rfl,rfl,by rw [hf,if_neg (by omega)];show _ = rdsB t rs[0]? _;rw [hr]⟩
  | succ i =>
   obtain ⟨p,hp⟩ := at_lt rs i (by omega)
   have hip := hx.idx (rds_get hp)
   unfold rdV at hip
   have hw1 : IntKind.i64.wrap (((i + 1 : Nat) : Int) - 1) = (i : Int) := by rw [wrap_in _ (by omega) (by omega)];omega
   have hpos : (0 : Int) < ((i + 1 : Nat) : Int) := by omega
   have hc18 : ∀ (me : FuncId) (d : Option Tmp),callI (Cx e) me 61 d [.agg [.v (.int .i64 r.ch),.v (.int .i64 r.ln),.v (.int .i64 r.wd)],.agg [.v (.int .i64 p.ch),.v (.int .i64 p.ln),.v (.int .i64 p.wd)]] = some (.v (.bool (beforeB (r.ch,r.ln,r.wd) (p.ch,p.ln,p.wd)))) := fun me d => (ans18 r.ch r.ln r.wd p.ch p.ln p.wd).callI (ext_61 he) (pure_61 _ _ _) rfl
   have hf : rdsB t none rs = (pairR p r && rdsB t (some r) (rs.drop (i + 1 + 1))) := by rw [ho,if_neg (by omega),Nat.add_sub_cancel,hp];show (readB t r && pairR p r && _) = _;rw [hrd];rfl
   simp -implicitDefEqProofs only [go_sem,↓reduceIte,Int.reduceEq,Int.reduceLT,Int.reduceLE,List.reduceReplicate,intA,setT_nil,setT_cons,↓boolP_bool,↓iteB_true,↓iteB_false,trim_at,hx.bound,hch.bound,hx.len,List.length_map,hch.cells,hx.cells,hlt,hw,hir,hc78]
   refine wp_drawX [([],[],false),([],[],false),([],[],false),([],[],false),([],[],false),([],[],false),([4],[],false),([],[],false),([],[],false),([],[],false),([],[],false),([4],[],false),([],[],false),([],[],false),([],[],false),([],[],false),([],[],false),([15],[],false),([],[],false),([],[],false),([],[],false),([],[],false),([15],[],false),([],[],false),([],[],false),([],[],false),([],[],false),([],[],false),([],[],false),([],[],false),([],[],false),([],[],false),([],[],false),([],[],false),([],[],false),([],[],false)] (by kernel_rfl) (by kernel_rfl) ?_
   cases k1 : beforeB (r.ch,r.ln,r.wd) (p.ch,p.ln,p.wd)
   ·cases k2 : eqP r.ch r.ln r.wd p.ch p.ln p.wd
    ·have hpr : pairR p r = true := by unfold pairR;rw [k1,k2];rfl
     rw [k1] at hc18
     simp -implicitDefEqProofs only [go_sem,↓reduceIte,Int.reduceEq,Int.reduceLT,Int.reduceLE,List.reduceReplicate,intA,setT_nil,setT_cons,↓boolP_bool,↓iteB_true,↓iteB_false,trim_at,hx.bound,hch.bound,hx.len,List.length_map,hch.cells,hx.cells,hw,hw1,hpos,hip,hc18,eq32,k2]
     exact ⟨μ - 1,by omega,i + 1 + 1,by omega,rfl,rfl,by rw [hf,hpr,Bool.true_and,if_neg (by omega),Nat.add_sub_cancel,hr]⟩
    ·cases k3 : decide (p.kind = 2)
     ·have hpr : pairR p r = false := by unfold pairR;rw [k1,k2,k3];rfl
      rw [k1] at hc18
      rw [hf,hpr,Bool.false_and,Bool.false_and]
      simp -implicitDefEqProofs only [go_sem,↓reduceIte,Int.reduceEq,Int.reduceLT,Int.reduceLE,List.reduceReplicate,intA,setT_nil,setT_cons,↓boolP_bool,↓iteB_true,↓iteB_false,trim_at,hx.bound,hch.bound,hx.len,List.length_map,hch.cells,hx.cells,hw,hw1,hpos,hip,hc18,eq32,k2,bin_neq8,k3]
     ·have hpr : pairR p r = true := by unfold pairR;rw [k1,k2,k3];rfl
      rw [k1] at hc18
      simp -implicitDefEqProofs only [go_sem,↓reduceIte,Int.reduceEq,Int.reduceLT,Int.reduceLE,List.reduceReplicate,intA,setT_nil,setT_cons,↓boolP_bool,↓iteB_true,↓iteB_false,trim_at,hx.bound,hch.bound,hx.len,List.length_map,hch.cells,hx.cells,hw,hw1,hpos,hip,hc18,eq32,k2,bin_neq8,k3]
      exact ⟨μ - 1,by omega,i + 1 + 1,by omega,rfl,rfl,by rw [hf,hpr,Bool.true_and,if_neg (by omega),Nat.add_sub_cancel,hr]⟩
   ·have hpr : pairR p r = false := by unfold pairR;rw [k1];rfl
    rw [k1] at hc18
    rw [hf,hpr,Bool.false_and,Bool.false_and]
    simp -implicitDefEqProofs only [go_sem,↓reduceIte,Int.reduceEq,Int.reduceLT,Int.reduceLE,List.reduceReplicate,intA,setT_nil,setT_cons,↓boolP_bool,↓iteB_true,↓iteB_false,trim_at,hx.bound,hch.bound,hx.len,List.length_map,hch.cells,hx.cells,hw,hw1,hpos,hip,hc18]
 ·have hdone : rdsB t none rs = true := by rw [ho,show rs.drop j = [] from List.drop_eq_nil_of_le (by omega)];rfl
  rw [hdone,Bool.true_and]
  simp -implicitDefEqProofs only [go_sem,↓reduceIte,Int.reduceEq,Int.reduceLT,Int.reduceLE,List.reduceReplicate,intA,setT_nil,setT_cons,↓boolP_bool,↓iteB_true,↓iteB_false,trim_at,hx.bound,hch.bound,hx.len,List.length_map,hch.cells,hx.cells,hlt]
  have hj5 : j = rs.length := by omega
  subst hj5
  refine Lp_rule (P := fun μ a H => ∃ k,k + μ = t.length ∧ a = ⟨97,[(0,.agg [ch]),(1,.agg [intA id,x]),(2,.ptr 0 0 0),(3,.ptr 1 0 0),(4,.v (.bool false)),(18,.v (.bool false)),(5,intA rs.length),(7,intA k)],[]⟩ ∧ H = ⟨[some (.cells 0 0 24 1 false [ch]),some (.cells 0 0 66 1 false [intA id,x])],0⟩ ∧ chapsN rs 0 t = chapsN rs k (t.drop k)) ?_ t.length _ _ ⟨0,by omega,rfl,rfl,rfl⟩
  rintro μ2 _ _ ⟨k,hk,rfl,rfl,hok⟩
  by_cases hltk : (k : Int) < (t.length : Int)
  ·obtain ⟨cp,hcp⟩ := at_lt t k (by omega)
   have hwk := wrap_succ k (by omega)
   obtain ⟨z,hz,l,rfl,lxs,hll,hls⟩ := hall.get hcp
   have hik := hch.idx hz
   unfold intA at hik
   have hcm := List.mem_of_getElem? hcp
   have hfl := ht.lines cp hcm
   rw [drop_eq_cons hcp] at hok
   simp -implicitDefEqProofs only [go_sem,↓reduceIte,Int.reduceEq,Int.reduceLT,Int.reduceLE,List.reduceReplicate,intA,setT_nil,setT_cons,↓boolP_bool,↓iteB_true,↓iteB_false,trim_at,hx.bound,hch.bound,hx.len,List.length_map,hch.cells,hx.cells,hch.len,← hall.1,hltk]
   refine Lp_rule (P := fun μ a H => ∃ n,n + μ = cp.2.length ∧ a = ⟨97,[(0,.agg [ch]),(1,.agg [intA id,x]),(2,.ptr 0 0 0),(3,.ptr 1 0 0),(4,.v (.bool false)),(18,.v (.bool false)),(5,intA rs.length),(7,intA k),(75,.v (.bool true)),(8,intA n)],[]⟩ ∧ H = ⟨[some (.cells 0 0 24 1 false [ch]),some (.cells 0 0 66 1 false [intA id,x])],0⟩ ∧ linesN rs k 0 cp.2 = linesN rs k n (cp.2.drop n)) ?_ cp.2.length _ _ ⟨0,by omega,rfl,rfl,rfl⟩
   rintro μ3 _ _ ⟨n,hn,rfl,rfl,hon⟩
   by_cases hltn : (n : Int) < (cp.2.length : Int)
   ·obtain ⟨ln,hln⟩ := at_lt cp.2 n (by omega)
    have hwn := wrap_succ n (by omega)
    obtain ⟨v,hv,h79⟩ := call79 he t ht ch xs hch hall id rs x hxr k n cp hcp ln hln (hlen cp hcm ln (List.mem_of_getElem? hln)) (by omega)
    have hv : SlOf 1 (strs (refLine ln rs k n)) v := hv
    have hw10 := call43 he ((refLine ln rs k n).length : Int) 1 10
    rw [drop_eq_cons hln] at hon
    cases h10 : withinB 1 10 [((refLine ln rs k n).length : Int)]
    ·rw [h10] at hw10
     have hf : chapsN rs 0 t = false := by rw [hok];show (linesN rs k 0 cp.2 && _) = _;rw [hon];show ((withinB 1 10 _ && _) && _) = _;rw [h10];rfl
     rw [hf]
     simp -implicitDefEqProofs only [go_sem,↓reduceIte,Int.reduceEq,Int.reduceLT,Int.reduceLE,List.reduceReplicate,intA,setT_nil,setT_cons,↓boolP_bool,↓iteB_true,↓iteB_false,trim_at,hx.bound,hch.bound,hx.len,List.length_map,hch.cells,hx.cells,hch.len,← hall.1,hik,hll.len,hll.cells,← hls.1,hltn,h79,hv.len,hv.flat,strs_len,hw10]
    ·rw [h10] at hw10
     simp -implicitDefEqProofs only [go_sem,↓reduceIte,Int.reduceEq,Int.reduceLT,Int.reduceLE,List.reduceReplicate,intA,setT_nil,setT_cons,↓boolP_bool,↓iteB_true,↓iteB_false,trim_at,hx.bound,hch.bound,hx.len,List.length_map,hch.cells,hx.cells,hch.len,← hall.1,hik,hll.len,hll.cells,← hls.1,hltn,h79,hv.len,hv.flat,strs_len,hw10,hwn]
     exact ⟨μ3 - 1,by omega,n + 1,by omega,rfl,rfl,by rw [hon];show (withinB 1 10 _ && _) = _;rw [h10];rfl⟩
   ·have hf : linesN rs k 0 cp.2 = true := by rw [hon,show cp.2.drop n = [] from List.drop_eq_nil_of_le (by omega)];rfl
    simp -implicitDefEqProofs only [go_sem,↓reduceIte,Int.reduceEq,Int.reduceLT,Int.reduceLE,List.reduceReplicate,intA,setT_nil,setT_cons,↓boolP_bool,↓iteB_true,↓iteB_false,trim_at,hx.bound,hch.bound,hx.len,List.length_map,hch.cells,hx.cells,hch.len,← hall.1,hik,hll.len,hll.cells,← hls.1,hltn,hwk]
    exact ⟨μ2 - 1,by omega,k + 1,by omega,rfl,rfl,by rw [hok];show (linesN rs k 0 cp.2 && _) = _;rw [hf];rfl⟩
  ·have hf : chapsN rs 0 t = true := by rw [hok,show t.drop k = [] from List.drop_eq_nil_of_le (by omega)];rfl
   rw [hf]
   simp -implicitDefEqProofs only [go_sem,↓reduceIte,Int.reduceEq,Int.reduceLT,Int.reduceLE,List.reduceReplicate,intA,setT_nil,setT_cons,↓boolP_bool,↓iteB_true,↓iteB_false,trim_at,hx.bound,hch.bound,hx.len,List.length_map,hch.cells,hx.cells,hch.len,← hall.1,hltk]
end Go.Ev
namespace Go.Ev
open Go.Proofs
attribute [local irreducible] Wp WpS
end Go.Ev
namespace Go.Ev
open Go.Proofs
attribute [local irreducible] Wp WpS
def Has58 (e : Exts) (ch : AV) (id : Int) (x : AV) (b : Bool) : Prop := ∀ (me : FuncId) (d : Option Tmp) (H : Heap),callA (Cx e) (lim (Cx e)) me 121 d [.agg [ch],.agg [.v (.int .i64 id),x]] H = some (.v (.bool b),H)
theorem ans54 {e : Exts} (he : Quiet e) (t : Txt) (ht : Fits t) (htx : textB t = true) (ch : AV) (xs : List AV) (hch : SlOf 2 xs ch) (hall : All2 ChapA t xs) (id : Int) (rs : List Rd) (x : AV) (hx : RdsA rs x) (h58 : Has58 e ch id x true) : Ans (Cx e) 95 [.agg [ch],.agg [intA id,x]] (.tup [.agg [ch],intA 0]) := by
 have hx : SlOf 5 (rs.map rdV) x := hx
 have h40 := call40 he t ht ch ⟨xs,hch,hall⟩
 rw [htx,if_pos rfl] at h40
 unfold intA at h40
 unfold Has58 at h58
 unfold Ans
 rw [fn_step (fn_95 e) (show Tryz.f95.body = some _ from rfl)]
 simp -implicitDefEqProofs only [Tryz.f95,go_sem,↓reduceIte,Int.reduceEq,Int.reduceLT,Int.reduceLE,List.reduceReplicate,intA,setT_nil,setT_cons,↓boolP_bool,↓iteB_true,↓iteB_false,hch.cells,hch.flat,hch.bound,hx.cells,hx.flat,hx.bound,h40,h58]
 rcases hch with ⟨rfl, -⟩ | ⟨cap,rfl⟩ <;> rfl
theorem call54 {e : Exts} (he : Quiet e) (t : Txt) (ht : Fits t) (htx : textB t = true) (ch : AV) (xs : List AV) (hch : SlOf 2 xs ch) (hall : All2 ChapA t xs) (id : Int) (rs : List Rd) (x : AV) (hx : RdsA rs x) (h58 : Has58 e ch id x true) (me : FuncId) (d : Option Tmp) (H : Heap) : callA (Cx e) (lim (Cx e)) me 95 d [.agg [ch],.agg [.v (.int .i64 id),x]] H = some (.tup [.agg [ch],.v (.int .i64 0)],H) :=
 (ans54 he t ht htx ch xs hch hall id rs x hx h58).call (ext_95 he) (pure_95 _ _ _) (by simp only [boundL_cons,bound_agg,hch.bound,intA,bound_v,SlOf.bound hx,boundL_nil];rfl) H
def takesB (a b c : Int) (r : Rd) : Bool := eqP r.ch r.ln r.wd a b c && !decide (r.kind = 2)
def standL (rs : List Rd) (a b c : Int) (own : ByteArray) : ByteArray := match rs.find? (takesB a b c) with | some r => r.word | none => own
theorem ans30 {e : Exts} (he : Quiet e) (t : Txt) (ht : Fits t) (htx : textB t = true) (ch : AV) (xs : List AV) (hch : SlOf 2 xs ch) (hall : All2 ChapA t xs) (id : Int) (rs : List Rd) (x : AV) (hx : RdsA rs x) (hrs : rs.length ≤ 1000) (h58 : Has58 e ch id x true) (a b c : Nat) (ln : Line) (hL : lineAt t a b = some ln) (own : ByteArray) (hc : ln[c]? = some own) :
  Ans (Cx e) 60 [.agg [ch],.agg [intA id,x],.agg [intA a,intA b,intA c]] (.tup [.v (.string (standL rs a b c own)),intA 0]) := by
 have h54 := call54 he t ht htx ch xs hch hall id rs x hx h58
 have hx : SlOf 5 (rs.map rdV) x := hx
 have hcl := (List.getElem?_eq_some_iff.1 hc).1
 have h44 := call44 he t ht ch xs hch hall a b c
 have hp : placeB' t a b c = true := by unfold placeB';rw [hL];simp;omega
 rw [hp] at h44
 obtain ⟨y,hy,h45,hi45⟩ := call45 he t ht ch xs hch hall a b c
 rw [hL] at hy
 have hy : SlOf 1 (strs ln) y := hy
 have hyi := hy.idx (strs_get hc)
 unfold Ans
 rw [fn_step (fn_60 e) (show Tryz.f60.body = some _ from rfl)]
 simp -implicitDefEqProofs only [Tryz.f60,go_sem,↓reduceIte,Int.reduceEq,Int.reduceLT,Int.reduceLE,List.reduceReplicate,intA,setT_nil,setT_cons,↓boolP_bool,↓iteB_true,↓iteB_false,hch.cells,hch.flat,hch.bound,hx.cells,hx.flat,hx.bound,h54,h44,hx.len,List.length_map]
 refine Lp_rule (P := fun μ a' H => ∃ j,j + μ = rs.length ∧ a' = ⟨51,[(0,.agg [ch]),(1,.agg [intA id,x]),(2,.agg [intA a,intA b,intA c]),(3,.ptr 0 0 0),(4,.ptr 1 0 0),(5,.ptr 2 0 0),(6,.v (.string { data := #[] })),(7,intA 0),(8,.ptr 3 0 0),(9,intA 0),(19,.v (.bool false)),(24,.v (.bool false)),(26,x),(27,intA rs.length),(28,intA j)],[]⟩ ∧ H = ⟨[some (.cells 0 0 24 1 false [ch]),some (.cells 0 0 66 1 false [intA id,x]),some (.cells 0 0 28 1 false [intA a,intA b,intA c]),some (.cells 0 0 140 1 false [ch])],0⟩ ∧ standL rs a b c own = standL (rs.drop j) a b c own) ?_ rs.length _ _ ⟨0,by omega,rfl,rfl,rfl⟩
 rintro μ _ _ ⟨j,hj,rfl,rfl,ho⟩
 by_cases hlt : (j : Int) < (rs.length : Int)
 ·obtain ⟨r,hr⟩ := at_lt rs j (by omega)
  have hw := wrap_succ j (by omega)
  have hir := hx.idx (rds_get hr)
  unfold rdV at hir
  rw [drop_eq_cons hr] at ho
  have hgo : takesB a b c r = false → standL rs a b c own = standL (rs.drop (j + 1)) a b c own := fun h => by rw [ho];unfold standL;rw [List.find?_cons,h]
  cases k1 : eqP r.ch r.ln r.wd a b c
  ·simp -implicitDefEqProofs only [go_sem,↓reduceIte,Int.reduceEq,Int.reduceLT,Int.reduceLE,List.reduceReplicate,intA,setT_nil,setT_cons,↓boolP_bool,↓iteB_true,↓iteB_false,trim_at,hx.bound,hch.bound,hx.len,List.length_map,hch.cells,hx.cells,hlt,hw,hir,eq32,k1]
   exact ⟨μ - 1,by omega,j + 1,by omega,rfl,rfl,hgo (by unfold takesB;rw [k1];rfl)⟩
  ·cases k2 : decide (r.kind = 2)
   ·have hf : standL rs a b c own = r.word := by rw [ho];unfold standL;rw [List.find?_cons,show takesB a b c r = true by unfold takesB;rw [k1,k2];rfl]
    rw [hf]
    simp -implicitDefEqProofs only [go_sem,↓reduceIte,Int.reduceEq,Int.reduceLT,Int.reduceLE,List.reduceReplicate,intA,setT_nil,setT_cons,↓boolP_bool,↓iteB_true,↓iteB_false,trim_at,hx.bound,hch.bound,hx.len,List.length_map,hch.cells,hx.cells,hlt,hw,hir,eq32,k1,bin_neq8,k2]
    rfl
   ·simp -implicitDefEqProofs only [go_sem,↓reduceIte,Int.reduceEq,Int.reduceLT,Int.reduceLE,List.reduceReplicate,intA,setT_nil,setT_cons,↓boolP_bool,↓iteB_true,↓iteB_false,trim_at,hx.bound,hch.bound,hx.len,List.length_map,hch.cells,hx.cells,hlt,hw,hir,eq32,k1,bin_neq8,k2]
    exact ⟨μ - 1,by omega,j + 1,by omega,rfl,rfl,hgo (by unfold takesB;rw [k1,k2];rfl)⟩
 ·have hf : standL rs a b c own = own := by rw [ho,show rs.drop j = [] from List.drop_eq_nil_of_le (by omega)];rfl
  rw [hf]
  simp -implicitDefEqProofs only [go_sem,↓reduceIte,Int.reduceEq,Int.reduceLT,Int.reduceLE,List.reduceReplicate,intA,setT_nil,setT_cons,↓boolP_bool,↓iteB_true,↓iteB_false,trim_at,hx.bound,hch.bound,hx.len,List.length_map,hch.cells,hx.cells,hlt]
  refine wp_drawX [([],[],false),([0],[],false),([],[],false),([],[],false),([0,1,2],[],false),([],[],false),([],[],false),([],[],false),([],[],false)] (by kernel_rfl) (by kernel_rfl) ?_
  simp -implicitDefEqProofs only [go_sem,↓reduceIte,Int.reduceEq,Int.reduceLT,Int.reduceLE,List.reduceReplicate,intA,setT_nil,setT_cons,↓boolP_bool,↓iteB_true,↓iteB_false,trim_at,hx.bound,hch.bound,hx.len,List.length_map,hch.cells,hx.cells,h45,hi45,hyi]
  rfl
end Go.Ev
namespace Go.Ev
open Go.Proofs
attribute [local irreducible] Wp WpS
theorem ans25 {e : Exts} (he : Quiet e) (t : Txt) (ht : Fits t) (htx : textB t = true) (ch : AV) (xs : List AV) (hch : SlOf 2 xs ch) (hall : All2 ChapA t xs) (id : Int) (rs : List Rd) (x : AV) (hx : RdsA rs x) (h58 : Has58 e ch id x true) (ys : List AV) (o : AV) (ho : SlOf 2 ys o) (h55 : Ans (Cx e) 96 [.agg [ch],.agg [intA id,x]] (.agg [o])) : Ans (Cx e) 59 [.agg [ch],.agg [intA id,x]] (.tup [.agg [o],intA 0]) := by
 have h54 := call54 he t ht htx ch xs hch hall id rs x hx h58
 have hx : SlOf 5 (rs.map rdV) x := hx
 have hc55 : ∀ (me : FuncId) (d : Option Tmp) (H : Heap),callA (Cx e) (lim (Cx e)) me 96 d [.agg [ch],.agg [.v (.int .i64 id),x]] H = some (.agg [o],H) := fun me d H =>
  h55.call (ext_96 he) (pure_96 _ _ _) (by simp only [boundL_cons,bound_agg,hch.bound,intA,bound_v,hx.bound,boundL_nil];rfl) H
 unfold Ans
 rw [fn_step (fn_59 e) (show Tryz.f59.body = some _ from rfl)]
 simp -implicitDefEqProofs only [Tryz.f59,go_sem,↓reduceIte,Int.reduceEq,Int.reduceLT,Int.reduceLE,List.reduceReplicate,intA,setT_nil,setT_cons,↓boolP_bool,↓iteB_true,↓iteB_false,hch.cells,hch.flat,hch.bound,hx.cells,hx.flat,hx.bound,h54,hc55,ho.cells,ho.flat,ho.bound]
 rcases ho with ⟨rfl, -⟩ | ⟨cap,rfl⟩ <;> rfl
end Go.Ev
namespace Go.Ev
open Go.Proofs
attribute [local irreducible] Wp WpS
theorem trimP1 {X : Heap} {N : Nat} (hN : X.size = N) (o : Option AObj) (vs : List AV) (ms : List Nat) : (X.plus [o]).trim (N + 1) vs ms = X.plus [o] := by
 have : N + 1 = (X.plus [o]).size := by rw [sizeP hN];rfl
 rw [this,trim_size]
theorem isAgg3 : isAggT Tryz.prog 3 = some false := by kernel_rfl
theorem size3 : sizeT Tryz.prog 3 = some 1 := by kernel_rfl
theorem fn69 {e : Exts} {X : Heap} {N : Nat} (hN : X.size = N) (lo hi : Int) (ns : List Int) (a : AV) (ha : SlH X (ns.map intA) a) (hn : ns.length < 2 ^ 63) : Fn' (Cx e) 120 [.agg [.v (.int .i64 lo),.v (.int .i64 hi)],a] X (fun v _ => v = .v (.bool (withinB lo hi ns))) := by
 rw [fn_step (fn_120 e) (show Tryz.f120.body = some _ from rfl)]
 rw [← plus_nil X]
 simp -implicitDefEqProofs only [Tryz.f120,go_sem,↓reduceIte,Int.reduceEq,Int.reduceLT,Int.reduceLE,List.reduceReplicate,intA,setT_nil,setT_cons,↓boolP_bool,↓iteB_true,↓iteB_false,ha.len,List.length_map,sizeP hN,putP0 hN,putP hN,settleP0 hN,settleP hN,List.length_nil,Nat.add_zero]
 refine Lp_rule (P := fun μ a' H => ∃ j,j + μ = ns.length ∧ a' = ⟨24,[(0,.agg [intA lo,intA hi]),(1,a),(2,.ptr N 0 0),(4,.v (.bool false)),(7,a),(8,intA ns.length),(9,intA j)],[]⟩ ∧ X.plus [some (.cells 0 0 170 1 false [intA lo,intA hi])] = H ∧ withinB lo hi ns = withinB lo hi (ns.drop j)) ?_ ns.length _ _ ⟨0,by omega,rfl,rfl,rfl⟩
 rintro μ _ _ ⟨j,hj,rfl,rfl,ho⟩
 by_cases hlt : (j : Int) < (ns.length : Int)
 ·obtain ⟨n,hr⟩ := at_lt ns j (by omega)
  have hw := wrap_succ j (by omega)
  obtain ⟨p,hp1,hp2,hp3⟩ := ha.get hN (show (ns.map intA)[j]? = some (intA n) by rw [List.getElem?_map,hr];rfl) rfl .i64
  unfold intA at hp2
  rw [drop_eq_cons hr] at ho
  have hgo : withinB lo hi [n] = true → withinB lo hi ns = withinB lo hi (ns.drop (j + 1)) := fun h => by
   rw [ho];unfold withinB at h ⊢;simp only [List.all_cons,List.all_nil,Bool.and_true] at h ⊢;rw [h,Bool.true_and]
  have hno : withinB lo hi [n] = false → withinB lo hi ns = false := fun h => by
   rw [ho];unfold withinB at h ⊢;simp only [List.all_cons,List.all_nil,Bool.and_true] at h ⊢;rw [h,Bool.false_and]
  by_cases k1 : n < lo
  ·have hf := hno (by unfold withinB;simp;omega)
   rw [hf]
   simp -implicitDefEqProofs only [go_sem,↓reduceIte,Int.reduceEq,Int.reduceLT,Int.reduceLE,List.reduceReplicate,intA,setT_nil,setT_cons,↓boolP_bool,↓iteB_true,↓iteB_false,hlt,hw,hp1,hp2 _ _ isAgg3 size3,k1,sizeP hN,rowP0 hN,rowP hN,settleP0 hN,settleP hN,List.length_nil,Nat.add_zero]
   rfl
  ·by_cases k2 : hi < n
   ·have hf := hno (by unfold withinB;simp;omega)
    rw [hf]
    simp -implicitDefEqProofs only [go_sem,↓reduceIte,Int.reduceEq,Int.reduceLT,Int.reduceLE,List.reduceReplicate,intA,setT_nil,setT_cons,↓boolP_bool,↓iteB_true,↓iteB_false,hlt,hw,hp1,hp2 _ _ isAgg3 size3,k1,k2,sizeP hN,rowP0 hN,rowP hN,settleP0 hN,settleP hN,List.length_nil,Nat.add_zero]
    rfl
   ·have hf := hgo (by unfold withinB;simp;omega)
    simp -implicitDefEqProofs only [go_sem,↓reduceIte,Int.reduceEq,Int.reduceLT,Int.reduceLE,List.reduceReplicate,intA,setT_nil,setT_cons,↓boolP_bool,↓iteB_true,↓iteB_false,hlt,hw,hp1,hp2 _ _ isAgg3 size3,k1,k2,sizeP hN,rowP0 hN,rowP hN,settleP0 hN,settleP hN,List.length_nil,Nat.add_zero,trimP1 hN]
    exact ⟨μ - 1,by omega,j + 1,by omega,rfl,rfl,hf⟩
 ·have hf : withinB lo hi ns = true := by rw [ho,show ns.drop j = [] from List.drop_eq_nil_of_le (by omega)];rfl
  rw [hf]
  simp -implicitDefEqProofs only [go_sem,↓reduceIte,Int.reduceEq,Int.reduceLT,Int.reduceLE,List.reduceReplicate,intA,setT_nil,setT_cons,↓boolP_bool,↓iteB_true,↓iteB_false,hlt,sizeP hN,settleP0 hN,settleP hN,List.length_nil,Nat.add_zero,trimP1 hN]
  rfl
theorem callP69 {e : Exts} (he : Quiet e) {X : Heap} (lo hi : Int) (ns : List Int) (a : AV) (ha : SlH X (ns.map intA) a) (hn : ns.length < 2 ^ 63) (me : FuncId) (d : Option Tmp) : callA (Cx e) (lim (Cx e)) me 120 d [.agg [.v (.int .i64 lo),.v (.int .i64 hi)],a] X = some (.v (.bool (withinB lo hi ns)),X) := by
 refine callA_still (ext_120 he) (pure_120 _ _ _) ?_ (fun h0 => fn69 rfl lo hi ns a (ha.closed ?_ _) hn) (fn69 rfl lo hi ns a (ha.lock _) hn)
 ·have : isYld (.agg [.v (.int .i64 lo),.v (.int .i64 hi)]) = false := rfl
  simp [ha.yld,this]
 ·rw [boundL_cons,boundL_cons] at h0
  exact Nat.le_zero.1 (h0 ▸ Nat.le_trans (Nat.le_max_left _ _) (Nat.le_max_right _ _))
theorem fn82 {e : Exts} (he : Quiet e) {X : Heap} (ns : List Int) (a : AV) (ha : SlH X (ns.map intA) a) (hn : ns.length < 2 ^ 63) : Fn' (Cx e) 139 [a] X (fun v _ => v = .v (.bool (withinB 1 10 ns))) := by
 rw [fn_step (fn_139 e) (show Tryz.f139.body = some _ from rfl)]
 have hc := callP69 he 1 10 ns a ha hn
 simp -implicitDefEqProofs only [Tryz.f139,go_sem,↓reduceIte,Int.reduceEq,Int.reduceLT,Int.reduceLE,List.reduceReplicate,intA,setT_nil,setT_cons,↓boolP_bool,↓iteB_true,↓iteB_false,hc]
 rfl
theorem callP82 {e : Exts} (he : Quiet e) {X : Heap} (ns : List Int) (a : AV) (ha : SlH X (ns.map intA) a) (hn : ns.length < 2 ^ 63) (me : FuncId) (d : Option Tmp) : callA (Cx e) (lim (Cx e)) me 139 d [a] X = some (.v (.bool (withinB 1 10 ns)),X) := by
 refine callA_still (ext_139 he) (pure_139 _ _ _) ?_ (fun h0 => fn82 he ns a (ha.closed ?_ _) hn) (fn82 he ns a (ha.lock _) hn)
 ·simp [ha.yld]
 ·rw [boundL_cons] at h0
  exact Nat.le_zero.1 (h0 ▸ Nat.le_max_left _ _)
end Go.Ev
namespace Go.Ev
open Go.Proofs
attribute [local irreducible] Wp WpS
def lenIt (x : List AV) : Int := match x with | [_,z] => ((slElems z).length : Int) | _ => 0
def lensOf (ys : List AV) : List Int := ys.flatMap fun y => (linesOf y).map fun z => ((slElems z).length : Int)
theorem lineIts_lens (i : Nat) : ∀ (k : Nat) (zs : List AV),(lineIts i k zs).map lenIt = zs.map fun z => ((slElems z).length : Int)
 | _,[] => rfl
 | k,z :: r => by
  show lenIt _ :: (lineIts i (k + 1) r).map lenIt = _
  rw [lineIts_lens i (k + 1) r];rfl
theorem chapIts_lens : ∀ (i : Nat) (ys : List AV),(chapIts i ys).map lenIt = lensOf ys
 | _,[] => rfl
 | i,y :: r => by
  show (lineIts i 0 (linesOf y) ++ chapIts (i + 1) r).map lenIt = _
  rw [List.map_append,lineIts_lens,chapIts_lens (i + 1) r];rfl
def stp58 (s : List Int) (x : List AV) : AExit × List Int := (.normal,s ++ [lenIt x])
def Item58 (x : List AV) : Prop := ∃ p z els,x = [p,z] ∧ SlOf 1 els z
def ok58 (s : List Int) (x : List AV) : Prop := Item58 x ∧ s.length < 2 ^ 32
theorem run58 : ∀ (T : List (List AV)) (s : List Int),(∀ x ∈ T,Item58 x) → s.length + T.length ≤ 2 ^ 32 →
  okRun (fun s x => (isGo (stp58 s x).1,(stp58 s x).2)) ok58 T s ∧ foldE stp58 T s = (.normal,s ++ T.map lenIt)
 | [],s,_,_ => ⟨trivial,by simp [foldE]⟩
 | x :: r,s,h,hl => by
  have ih := run58 r (s ++ [lenIt x]) (fun z hz => h z (List.mem_cons_of_mem _ hz)) (by simp only [List.length_append,List.length_cons,List.length_nil] at hl ⊢;omega)
  refine ⟨⟨⟨h x (List.mem_cons_self ..),by simp only [List.length_cons] at hl;omega⟩,fun _ => ih.1⟩, ?_⟩
  rw [foldE_go rfl]
  show foldE stp58 r (s ++ [lenIt x]) = _
  rw [ih.2,List.map_cons,List.append_assoc];rfl
def L58 (s : List Int) (lv : AV) (m2 : Nat) (rows : Fm) : Prop := (s = [] ∧ lv = .v (.slice none 0 0) ∧ rows = []) ∨ ∃ b v,lv = .sl b v 0 s.length none ∧ 5 ≤ b ∧ b < m2 ∧ rows = [(b,.cells v 0 3 1 true (s.map intA))]
def base58 (ch : AV) (id : Int) (x lv : AV) (m2 : Nat) : Fm := [(0,.cells 0 0 140 1 false [ch]),(1,.cells 0 0 66 1 false [intA id,x]),(2,.cells 0 m2 48 1 false [lv])]
def R58 (ch : AV) (id : Int) (x : AV) (s : List Int) (m : Fm) : Prop := ∃ lv m2 rows,L58 s lv m2 rows ∧ m = base58 ch id x lv m2 ++ rows
theorem R58_anch {ch : AV} {id : Int} {x : AV} (s : List Int) (m : Fm) (h : R58 ch id x s m) : Anch 3 m := by
 obtain ⟨lv,m2,rows,hl,rfl⟩ := h
 rintro n hn ⟨p,hp,hnp⟩
 refine ⟨(2,.cells 0 m2 48 1 false [lv]),List.mem_append_left _ (by unfold base58;simp),by show 2 < n;omega, ?_⟩
 show n < m2
 rcases List.mem_append.1 hp with hp | hp
 ·unfold base58 at hp
  simp only [List.mem_cons,List.not_mem_nil,or_false] at hp
  rcases hp with rfl | rfl | rfl <;> simp only at hnp <;> omega
 ·rcases hl with ⟨-, -,rfl⟩ | ⟨b,v, -,h5,hb,rfl⟩
  ·exact nomatch hp
  ·rw [List.mem_singleton.1 hp] at hnp
   simp only at hnp;omega
theorem R58_free {ch : AV} {id : Int} {x : AV} (s : List Int) (m : Fm) (h : R58 ch id x s m) : ¬ keyIn 3 m ∧ ¬ keyIn 4 m := by
 obtain ⟨lv,m2,rows,hl,rfl⟩ := h
 have key : ∀ p ∈ base58 ch id x lv m2 ++ rows,p.1 ≠ 3 ∧ p.1 ≠ 4 := by
  intro p hp
  rcases List.mem_append.1 hp with hp | hp
  ·unfold base58 at hp
   simp only [List.mem_cons,List.not_mem_nil,or_false] at hp
   rcases hp with rfl | rfl | rfl <;> exact ⟨by simp,by simp⟩
  ·rcases hl with ⟨-, -,rfl⟩ | ⟨b,v, -,h5,hb,rfl⟩
   ·exact nomatch hp
   ·rw [List.mem_singleton.1 hp]
    exact ⟨by show b ≠ 3;omega,by show b ≠ 4;omega⟩
 exact ⟨fun ⟨p,hp,h⟩ => (key p hp).1 h,fun ⟨p,hp,h⟩ => (key p hp).2 h⟩
theorem fin58 {ch : AV} {id : Int} {x : AV} {s : List Int} {lv : AV} {m2 : Nat} {rows : Fm} {X Y W : Heap} {N : Nat} {L' : ALoop} (hXY : ∀ b,b ≠ 4 → Y.get b = X.get b) (hl4 : Y.get 4 = some (.loop L')) (hXN : X.size = N) (hlk : X.lock = 0) (hsz : 5 ≤ N)
  (hH : Has (base58 ch id x lv m2 ++ rows) Y) (n : Int) (b' v' m2' : Nat) (hW2 : W.get 2 = some (.cells 0 m2' 48 1 false [.sl b' v' 0 (s.length + 1) none])) (hWb : W.get b' = some (.cells v' 0 3 1 true ((s ++ [n]).map intA)))
  (hWo : ∀ b,b < N → b ≠ 2 → b ≠ b' → W.get b = Y.get b) (hWl : W.lock = 0) (hWs : N ≤ W.size) (h5 : 5 ≤ b') (hb : N ≤ b' ∨ keyIn b' rows) (hbm : b' < m2') :
  ∃ m',R58 ch id x (s ++ [n]) m' ∧ Has m' W ∧ loopObj W 4 = some L' ∧ Moves ((4,.loop L') :: (base58 ch id x lv m2 ++ rows)) X ((4,.loop L') :: m') W := by
 have hb0 : W.get 0 = some (.cells 0 0 140 1 false [ch]) := (hWo 0 (by omega) (by omega) (by omega)).trans (hH (0,_) (List.mem_append_left _ (by unfold base58;simp)))
 have hb1 : W.get 1 = some (.cells 0 0 66 1 false [intA id,x]) := (hWo 1 (by omega) (by omega) (by omega)).trans (hH (1,_) (List.mem_append_left _ (by unfold base58;simp)))
 have hb4 : W.get 4 = some (.loop L') := (hWo 4 (by omega) (by omega) (by omega)).trans hl4
 refine ⟨base58 ch id x (.sl b' v' 0 (s.length + 1) none) m2' ++ [(b',.cells v' 0 3 1 true ((s ++ [n]).map intA))],⟨_,m2',_,Or.inr ⟨b',v',by rw [List.length_append];rfl,h5,hbm,rfl⟩,rfl⟩, ?_,get_loopObj hb4,⟨hWl.trans hlk.symm,by omega, ?_, ?_⟩⟩
 ·intro p hp
  rcases List.mem_append.1 hp with hp | hp
  ·unfold base58 at hp
   simp only [List.mem_cons,List.not_mem_nil,or_false] at hp
   rcases hp with rfl | rfl | rfl
   ·exact hb0
   ·exact hb1
   ·exact hW2
  ·rw [List.mem_singleton.1 hp];exact hWb
 ·intro b hbn hk
  have h4 : b ≠ 4 := fun h => hk ⟨_,List.mem_cons_self ..,h.symm⟩
  have h2 : b ≠ 2 := fun h => hk ⟨(2,.cells 0 m2 48 1 false [lv]),List.mem_cons_of_mem _ (List.mem_append_left _ (by unfold base58;simp)),h.symm⟩
  have hbb : b ≠ b' := fun h => by
   rcases hb with hb | ⟨p,hp,he⟩
   ·omega
   ·exact hk ⟨p,List.mem_cons_of_mem _ (List.mem_append_right _ hp),by omega⟩
  rw [hWo b (by omega) h2 hbb,hXY b h4]
 ·intro p hp
  rcases List.mem_cons.1 hp with rfl | hp
  ·exact Or.inl ⟨_,List.mem_cons_self ..,rfl⟩
  ·rcases List.mem_append.1 hp with hp | hp
   ·unfold base58 at hp
    simp only [List.mem_cons,List.not_mem_nil,or_false] at hp
    have hm : ∀ q ∈ base58 ch id x lv m2,keyIn q.1 ((4,AObj.loop L') :: (base58 ch id x lv m2 ++ rows)) := fun q hq => ⟨q,List.mem_cons_of_mem _ (List.mem_append_left _ hq),rfl⟩
    rcases hp with rfl | rfl | rfl
    ·exact Or.inl (hm (0,.cells 0 0 140 1 false [ch]) (by unfold base58;simp))
    ·exact Or.inl (hm (1,.cells 0 0 66 1 false [intA id,x]) (by unfold base58;simp))
    ·exact Or.inl (hm (2,.cells 0 m2 48 1 false [lv]) (by unfold base58;simp))
   ·rw [List.mem_singleton.1 hp]
    rcases hb with hb | ⟨q,hq,he⟩
    ·exact Or.inr (by rw [hXN];exact hb)
    ·exact Or.inl ⟨q,List.mem_cons_of_mem _ (List.mem_append_right _ hq),he⟩
end Go.Ev
namespace Go.Ev
open Go.Proofs
attribute [local irreducible] Wp WpS
theorem call80 {e : Exts} (he : Quiet e) (t : Txt) (ht : Fits t) (ch : AV) (xs : List AV) (hch : SlOf 2 xs ch) (hall : All2 ChapA t xs) (l : List Rd) (x : AV) (hx : RdsA l x) (hn : l.length < 2 ^ 63) (hrd : ∀ r ∈ l,RdF r) (me : FuncId) (d : Option Tmp) (H : Heap) : callA (Cx e) (lim (Cx e)) me 137 d [.agg [ch],x] H = some (.v (.bool (l.all (fitOne t))),H) :=
 (ans80 he t ht ch xs hch hall l x hx hn hrd).call (ext_137 he) (pure_137 _ _ _) (by simp only [boundL_cons,bound_agg,hch.bound,SlOf.bound hx,boundL_nil];rfl) H
theorem fitsA8 : fitsA 8 1 = true := by decide
theorem ans58 {e : Exts} (he : Quiet e) (t : Txt) (ht : Fits t) (ch : AV) (xs : List AV) (hch : SlOf 2 xs ch) (hall : All2 ChapA t xs) (id : Int) (hid : withinB 0 9999 [id] = true) (rs : List Rd) (x : AV) (hx : RdsA rs x) (hrs : ¬ 20 < (rs.length : Int)) (hrd : ∀ r ∈ rs,RdF r) (hfit : rs.all (fitOne t) = true) (hord : ordB rs = true) (ys : List AV) (o : AV) (ho : SlOf 2 ys o) (hys : ∀ y ∈ ys,OkCh y) (hyl : ys.length < 2 ^ 63) (hit : ∀ z ∈ chapIts 0 ys,Item58 z) (hcnt : (chapIts 0 ys).length < 2 ^ 32) (h55 : Ans (Cx e) 96 [.agg [ch],.agg [intA id,x]] (.agg [o])) : Ans (Cx e) 121 [.agg [ch],.agg [intA id,x]] (.v (.bool (withinB 1 10 (lensOf ys)))) := by
 have hxr := hx
 have hx : SlOf 5 (rs.map rdV) x := hx
 have hc55 : ∀ (me : FuncId) (d : Option Tmp) (H : Heap),callA (Cx e) (lim (Cx e)) me 96 d [.agg [ch],.agg [.v (.int .i64 id),x]] H = some (.agg [o],H) := fun me d H =>
  h55.call (ext_96 he) (pure_96 _ _ _) (by simp only [boundL_cons,bound_agg,hch.bound,intA,bound_v,hx.bound,boundL_nil];rfl) H
 have h51 := call51 he id
 rw [hid] at h51
 have h80 := call80 he t ht ch xs hch hall rs x hxr (by omega) hrd
 rw [hfit] at h80
 have h81 := call81 he rs x hxr (by omega)
 rw [hord] at h81
 unfold Ans
 rw [fn_step (fn_121 e) (show Tryz.f121.body = some _ from rfl)]
 simp -implicitDefEqProofs only [Tryz.f121,go_sem,↓reduceIte,Int.reduceEq,Int.reduceLT,Int.reduceLE,List.reduceReplicate,intA,setT_nil,setT_cons,↓boolP_bool,↓iteB_true,↓iteB_false,hch.cells,hch.flat,hch.bound,hx.cells,hx.flat,hx.bound,hx.len,List.length_map,h51,h80,h81,hrs,hc55,ho.cells,ho.flat,ho.bound,call64 he o ys ho]
 refine wp_range2 (yields2_88 o ys ho hys hyl) rfl (R58 ch id x) stp58 (fun _ => True) ok58 (n0 := 3) (k := 0) (Nat.le_refl _) (Nat.zero_le _) ?_ (fun s m h => R58_anch s m h) (fun s m h => R58_free s m h) ?_ ?_ [] (base58 ch id x (.v (.slice none 0 0)) 0) ?_ ?_ ?_ ?_ ?_ ?_
 ·intro z hz
  obtain ⟨p,z,els,rfl, -⟩ := hit z hz
  rfl
 ·intro _ _ _ _ _;trivial
 ·intro L L' s m z X hL hs hok hxl hR hH hd0 hl1 hlk hsz
  obtain ⟨⟨p,z,els,rfl,hz⟩,hsl⟩ := hok
  obtain ⟨lv,m2,rows,hl,rfl⟩ := hR
  have hsz : 5 ≤ X.size := hsz
  have hl1 : loopObj X 4 = some L := hl1
  have hd0 : X.get 3 = some .dfr := hd0
  generalize hN : X.size = N at *
  have hlkN : X.lock ≤ N := by rw [hlk];exact Nat.zero_le _
  rw [← plus_nil X]
  simp -implicitDefEqProofs only [go_sem,↓reduceIte,Int.reduceEq,Int.reduceLT,Int.reduceLE,List.reduceReplicate,intA,setT_nil,setT_cons,sizeP hN,putP0 hN,putP hN,settleP0 hN,settleP hN,rowP0 hN,rowP hN,storeP0 hN hlkN,storeP hN hlkN]
  refine ⟨rfl, ?_, ?_⟩
  ·refine get_loopObj ?_
   rw [plus_get _ (by omega)];exact loopObj_getI hl1
  ·rw [putLo (by omega)]
   have hf := R58_free (ch := ch) (id := id) (x := x) s _ ⟨lv,m2,rows,hl,rfl⟩
   have hH4 := hH.put (.loop L') (b := 4) (by omega) hf.2
   have hN4 : (X.put 4 (.loop L')).size = N := by rw [put_sizeI _ (by omega)];exact hN
   have hlk4 : (X.put 4 (.loop L')).lock = 0 := hlk
   have hl4 : (X.put 4 (.loop L')).get 4 = some (.loop L') := put_get_eq _ (by omega)
   have hsm4 : ∀ b,b ≠ 4 → (X.put 4 (.loop L')).get b = X.get b := fun b hb => put_get_ne _ (by omega) hb
   generalize X.put 4 (.loop L') = Y at *
   have hlkY : Y.lock ≤ N := by rw [hlk4];exact Nat.zero_le _
   have h2' : Y.row 2 0 = some (m2,48,1,false,[lv]) := get_row (hH4 (2,_) (List.mem_append_left _ (by unfold base58;simp)))
   have hr2 : ∀ E,(Y.plus E).row 2 0 = some (m2,48,1,false,[lv]) := fun E => by rw [rowLo (by omega)];exact h2'
   have hst := fun (w : AV) (hw : w.flat = true) E => storeLoK (X := Y) (b := 2) (v := 0) (k := 0) (x := w) (by omega) (by omega) h2' (Nat.le_refl _) hw E
   have hst := fun b' v' l' c' E => hst (.sl b' v' 0 l' c') rfl E
   have hn : lenIt [p,z] = (els.length : Int) := by show ((slElems z).length : Int) = _;rw [hz.elems]
   rcases hl with ⟨rfl,rfl,rfl⟩ | ⟨b,v,rfl,hb5,hbm,rfl⟩
   ·simp -implicitDefEqProofs only [go_sem,↓reduceIte,Int.reduceEq,Int.reduceLT,Int.reduceLE,List.reduceReplicate,intA,setT_nil,setT_cons,sizeP hN4,putP0 hN4,putP hN4,settleP0 hN4,settleP hN4,rowP0 hN4,rowP hN4,storeP0 hN4 hlkY,storeP hN4 hlkY,hr2,hz.len,fitsA8,hst,List.flatMap_cons,List.flatMap_nil]
    rw [show stp58 [] [p,z] = (.normal,[] ++ [(els.length : Int)]) by unfold stp58;rw [hn]]
    rw [plus_nil]
    refine ⟨rfl, ?_⟩
    have hmm : N < (if m2 ≤ bound (AV.sl N 0 0 1 none) then bound (AV.sl N 0 0 1 none) else m2) := by rw [bound_sl];split <;> omega
    generalize (if m2 ≤ bound (AV.sl N 0 0 1 none) then bound (AV.sl N 0 0 1 none) else m2) = m2' at *
    have hP : (Y.put 2 (.cells 0 m2' 48 1 false [.sl N 0 0 1 none])).size = N := by rw [put_sizeI _ (by omega)];exact hN4
    have hH5 : Has (base58 ch id x (.v (.slice none 0 0)) m2 ++ []) Y := hH4
    have hfin := fin58 (W := settleH N ((Y.put 2 (.cells 0 m2' 48 1 false [.sl N 0 0 1 none])).plus [some (.cells 0 0 3 1 true [.v (.int .i64 els.length)])])) (s := []) hsm4 hl4 hN hlk hsz hH5 (els.length : Int) N 0 m2' ?_ ?_ ?_ ?_ ?_ hsz (Or.inl (Nat.le_refl _)) hmm
    ·simpa using hfin
    ·rw [settle_lo (by omega),plus_get _ (by omega)];exact put_get_eq _ (by omega)
    ·refine settle_some ?_
     rw [plus_get_hi _ (by omega),hP,Nat.sub_self];rfl
    ·intro b hb h2 hbb
     rw [settle_lo (by omega),plus_get _ (by omega),put_get_ne _ (by omega) (by omega)]
    ·rw [settle_lock];exact hlk4
    ·exact settle_size' (by rw [plus_size,hP];omega)
   ·have hgb : Y.get b = some (.cells v 0 3 1 true (s.map intA)) := hH4 _ (List.mem_append_right _ (List.mem_singleton.2 rfl))
    have hbN : b < N := by have := get_ltS hgb;omega
    have hrb : ∀ E,(Y.plus E).row b v = some (0,3,1,true,s.map intA) := fun E => by rw [rowLo (by omega)];exact get_row hgb
    have happ := fun E slot => appTo_own (H := Y.plus E) (slot := slot) (e := 3) (sz := 1) (b' := 8) (n := 1) (new := [.v (.int .i64 els.length)]) (hrb E) (by rw [Nat.mul_one,List.length_map]) (by show Y.lock ≤ _;omega) (by unfold fitsA;exact decide_eq_true (by omega)) (by omega) (by omega)
    have hpl := fun E o => putLo (X := Y) (b := b) (by omega) E o
    have hsto := fun o (w : AV) (hw : w.flat = true) E => storeLoK (X := Y.put b o) (b := 2) (v := 0) (k := 0) (x := w) (by rw [put_sizeI _ (by omega)];omega) (by show Y.lock ≤ 2;omega) (get_row ((put_get_ne o (by omega) (by omega)).trans (row_of_get h2'))) (Nat.le_refl _) hw E
    have hsto := fun o b' v' l' c' E => hsto o (.sl b' v' 0 l' c') rfl E
    simp -implicitDefEqProofs only [go_sem,↓reduceIte,Int.reduceEq,Int.reduceLT,Int.reduceLE,List.reduceReplicate,intA,setT_nil,setT_cons,sizeP hN4,putP0 hN4,putP hN4,settleP0 hN4,settleP hN4,rowP0 hN4,rowP hN4,storeP0 hN4 hlkY,storeP hN4 hlkY,hr2,hz.len,hst,List.flatMap_cons,List.flatMap_nil,happ,hpl,hsto]
    rw [show stp58 s [p,z] = (.normal,s ++ [(els.length : Int)]) by unfold stp58;rw [hn]]
    rw [plus_nil X]
    refine ⟨rfl, ?_⟩
    have hmm : b < (if m2 ≤ bound (AV.sl b (v + 1) 0 (s.length + 1) none) then bound (AV.sl b (v + 1) 0 (s.length + 1) none) else m2) := by rw [bound_sl];split <;> omega
    generalize (if m2 ≤ bound (AV.sl b (v + 1) 0 (s.length + 1) none) then bound (AV.sl b (v + 1) 0 (s.length + 1) none) else m2) = m2' at *
    have hP1 : (Y.put b (.cells (v + 1) 0 3 1 true (s.map intA ++ [.v (.int .i64 els.length)]))).size = N := by rw [put_sizeI _ (by omega)];exact hN4
    have hP : ((Y.put b (.cells (v + 1) 0 3 1 true (s.map intA ++ [.v (.int .i64 els.length)]))).put 2 (.cells 0 m2' 48 1 false [.sl b (v + 1) 0 (s.length + 1) none])).size = N := by rw [put_sizeI _ (by omega)];exact hP1
    have hfin := fin58 (W := settleH N (((Y.put b (.cells (v + 1) 0 3 1 true (s.map intA ++ [.v (.int .i64 els.length)]))).put 2 (.cells 0 m2' 48 1 false [.sl b (v + 1) 0 (s.length + 1) none])).plus [])) (s := s) hsm4 hl4 hN hlk hsz hH4 (els.length : Int) b (v + 1) m2' ?_ ?_ ?_ ?_ ?_ hb5 (Or.inr ⟨_,List.mem_singleton.2 rfl,rfl⟩) hmm
    ·exact hfin
    ·rw [settle_lo (by omega),plus_get _ (by omega)];exact put_get_eq _ (by omega)
    ·rw [settle_lo (by omega),plus_get _ (by omega),put_get_ne _ (by omega) (by omega),put_get_eq _ (by omega),List.map_append];rfl
    ·intro b' hb h2 hbb
     rw [settle_lo (by omega),plus_get _ (by omega),put_get_ne _ (by omega) (by omega),put_get_ne _ (by omega) (by omega)]
    ·rw [settle_lock];exact hlk4
    ·exact settle_size' (by rw [plus_size,hP];omega)
 ·exact (run58 _ _ hit (by simp only [List.length_nil];omega)).1
 ·trivial
 ·exact ⟨_,0,[],Or.inl ⟨rfl,rfl,rfl⟩,by rw [List.append_nil]⟩
 ·intro q hq
  unfold base58 at hq
  simp only [List.mem_cons,List.not_mem_nil,or_false] at hq
  rcases hq with rfl | rfl | rfl <;> rfl
 ·rfl
 ·intro m' H' hR hH hd hdead hmv hsz
  rw [(run58 _ _ hit (by simp only [List.length_nil];omega)).2] at hR ⊢
  obtain ⟨lv,m2,rows,hl,rfl⟩ := hR
  have hlk : H'.lock = 0 := hmv.lock
  have hsz : 5 ≤ H'.size := hsz
  have hd : H'.get 3 = some .dfr := hd
  simp only [List.nil_append,chapIts_lens] at hl
  have hr2 : H'.row 2 0 = some (m2,48,1,false,[lv]) := get_row (hH (2,_) (List.mem_append_left _ (by unfold base58;simp)))
  have hcl : (lensOf ys).length < 2 ^ 63 := by rw [← chapIts_lens 0 ys,List.length_map];omega
  have hslh : SlH H' ((lensOf ys).map intA) lv := by
   rcases hl with ⟨h0,rfl, -⟩ | ⟨b,v,rfl,hb5,hbm,rfl⟩
   ·exact Or.inl (Or.inl ⟨rfl,by rw [h0];rfl⟩)
   ·have hgb : H'.get b = some (.cells v 0 3 1 true ((lensOf ys).map intA)) := hH _ (List.mem_append_right _ (List.mem_singleton.2 rfl))
    exact Or.inr ⟨b,v,none,0,3,true,_,by rw [List.length_map],get_size hgb,get_row hgb,List.take_length,Nat.le_refl _⟩
  have hc82 := callP82 he (lensOf ys) lv hslh hcl
  have hkill : killAll [3] H' = some (H'.put 3 .dead) := by
   unfold killAll
   rw [hd]
   show (if H'.lock ≤ 3 then killAll [] (H'.put 3 .dead) else none) = _
   rw [if_pos (by omega)];rfl
  clear hmv hdead
  simp -implicitDefEqProofs only [go_sem,↓reduceIte,Int.reduceEq,Int.reduceLT,Int.reduceLE,List.reduceReplicate,intA,setT_nil,setT_cons,hr2,hc82,hkill]
theorem has58 {e : Exts} (he : Quiet e) (t : Txt) (ht : Fits t) (ch : AV) (xs : List AV) (hch : SlOf 2 xs ch) (hall : All2 ChapA t xs) (id : Int) (hid : withinB 0 9999 [id] = true) (rs : List Rd) (x : AV) (hx : RdsA rs x) (hrs : ¬ 20 < (rs.length : Int)) (hrd : ∀ r ∈ rs,RdF r) (hfit : rs.all (fitOne t) = true) (hord : ordB rs = true) (ys : List AV) (o : AV) (ho : SlOf 2 ys o) (hys : ∀ y ∈ ys,OkCh y) (hyl : ys.length < 2 ^ 63) (hit : ∀ z ∈ chapIts 0 ys,Item58 z) (hcnt : (chapIts 0 ys).length < 2 ^ 32) (h55 : Ans (Cx e) 96 [.agg [ch],.agg [intA id,x]] (.agg [o])) : Has58 e ch id x (withinB 1 10 (lensOf ys)) := fun me d H =>
 (ans58 he t ht ch xs hch hall id hid rs x hx hrs hrd hfit hord ys o ho hys hyl hit hcnt h55).call (ext_121 he) (pure_121 _ _ _) (by simp only [boundL_cons,bound_agg,hch.bound,intA,bound_v,SlOf.bound hx,boundL_nil];rfl) H
end Go.Ev
namespace Go.Ev
open Go.Proofs
def Bhd (a b : Rd) : Prop := a.wd ≤ b.wd ∧ (a.kind ≠ 2 → a.wd < b.wd)
structure Way (ls : Line) (on : Rd → Prop) (W : List Rd → List ByteArray → Nat → List ByteArray) : Prop where
 none : ∀ ds w s,ls[w]? = some s → W [] ds w = ds ++ [s]
 last : ∀ ds,W [] ds ls.length = ds
 skip : ∀ (r : Rd) (l : List Rd) (ds : List ByteArray) (w : Nat),r.wd ≠ (w : Nat) → W (r :: l) ds w = W l ds w
 put : ∀ (r : Rd) (l : List Rd) (ds : List ByteArray) (w : Nat),on r → r.wd = (w : Nat) → r.kind = 2 → W (r :: l) ds w = W l (ds ++ [r.word]) w
 other : ∀ (r : Rd) (l : List Rd) (ds : List ByteArray) (w : Nat),on r → r.wd = (w : Nat) → r.kind ≠ 2 → w < ls.length → (∀ q ∈ l,q.wd ≠ (w : Nat)) → W (r :: l) ds w = ds ++ if r.word = emp then [] else [r.word]
theorem Way.far {ls : Line} {on : Rd → Prop} {W : List Rd → List ByteArray → Nat → List ByteArray} (hW : Way ls on W) (ds : List ByteArray) (w : Nat) : ∀ l : List Rd,(∀ r ∈ l,r.wd ≠ (w : Nat)) → W l ds w = W [] ds w
 | [],_ => rfl
 | r :: l,h => by rw [hW.skip r l ds w (h r (List.mem_cons_self ..)),hW.far ds w l fun q hq => h q (List.mem_cons_of_mem _ hq)]
theorem drop_take_succ (ls : Line) (p n : Nat) (s : ByteArray) (h : ls[p]? = some s) : (ls.drop p).take (n + 1) = s :: (ls.drop (p + 1)).take n := by
 obtain ⟨hp,rfl⟩ := List.getElem?_eq_some_iff.1 h
 rw [List.drop_eq_getElem_cons hp,List.take_succ_cons]
theorem Way.free {ls : Line} {on : Rd → Prop} {W : List Rd → List ByteArray → Nat → List ByteArray} (hW : Way ls on W) (l : List Rd) : ∀ (n p : Nat) (ds : List ByteArray),p + n ≤ ls.length → (∀ r ∈ l,((p + n : Nat) : Int) ≤ r.wd) → (List.range' p n).foldl (W l) ds = ds ++ (ls.drop p).take n
 | 0,p,ds,_,_ => by simp
 | n + 1,p,ds,h1,h2 => by
  obtain ⟨s,hs⟩ := at_lt ls p (by omega)
  rw [List.range'_succ,List.foldl_cons,hW.far ds p l (fun r hr => by have := h2 r hr;omega),hW.none ds p s hs,hW.free l n (p + 1) (ds ++ [s]) (by omega) (fun r hr => by have := h2 r hr;omega),drop_take_succ ls p n s hs,List.append_assoc]
  rfl
theorem foldl_eq {α β : Type} {f g : α → β → α} : ∀ (l : List β) (a : α),(∀ b ∈ l,∀ a,f a b = g a b) → l.foldl f a = l.foldl g a
 | [],_,_ => rfl
 | b :: l,a,h => by rw [List.foldl_cons,List.foldl_cons,h b (List.mem_cons_self ..) a,foldl_eq l _ fun c hc => h c (List.mem_cons_of_mem _ hc)]
theorem range'_split (p q n : Nat) (h1 : p ≤ q) (h2 : q ≤ n) : List.range' p (n - p) = List.range' p (q - p) ++ List.range' q (n - q) := by
 have h := List.range'_append (s := p) (m := q - p) (n := n - q) (step := 1)
 rw [Nat.one_mul,show p + (q - p) = q by omega,show q - p + (n - q) = n - p by omega] at h
 exact h.symm
structure RdW (ls : Line) (r : Rd) : Prop where
 kind : r.kind = 1 ∨ r.kind = 2 ∨ r.kind = 3
 word : r.kind = 1 ↔ r.word = emp
 hi : r.wd + (if r.kind = 2 then 0 else 1) ≤ ls.length
theorem way_read {ls : Line} {on : Rd → Prop} {W : List Rd → List ByteArray → Nat → List ByteArray} (hW : Way ls on W) : ∀ (l : List Rd) (p : Nat) (ds : List ByteArray),p ≤ ls.length → (∀ r ∈ l,on r ∧ RdW ls r ∧ (p : Int) ≤ r.wd) → l.Pairwise Bhd →
  (List.range' p (ls.length + 1 - p)).foldl (W l) ds = (l.foldl (rdOne ls) (p,ds)).2 ++ ls.drop (l.foldl (rdOne ls) (p,ds)).1
 | [],p,ds,hp,_,_ => by
  rw [range'_split p ls.length (ls.length + 1) hp (Nat.le_succ _),List.foldl_append,hW.free [] (ls.length - p) p ds (by omega) (fun r hr => nomatch hr),Nat.add_sub_cancel_left]
  show W [] _ ls.length = _
  rw [hW.last]
  show _ = ds ++ ls.drop p
  rw [List.take_of_length_le (by rw [List.length_drop];exact Nat.le_refl _)]
 | r :: l,p,ds,hp,hr,hs => by
  obtain ⟨hon,hrw,hpw⟩ := hr r (List.mem_cons_self ..)
  obtain ⟨hb,hs'⟩ := List.pairwise_cons.1 hs
  obtain ⟨q,hq⟩ : ∃ q : Nat,r.wd = q := ⟨r.wd.toNat,by omega⟩
  have hhi := hrw.hi
  have hql : q ≤ ls.length := by split at hhi <;> omega
  have hqt : r.wd.toNat = q := by omega
  have hall : ∀ x ∈ r :: l,(q : Int) ≤ x.wd := fun x hx => by
   rcases List.mem_cons.1 hx with rfl | hx
   ·omega
   ·have := (hb x hx).1;omega
  have hf := hW.free (r :: l) (q - p) p ds (by omega) (fun x hx => by have := hall x hx;omega)
  rw [range'_split p q (ls.length + 1) (by omega) (by omega),List.foldl_append,hf]
  have hrest : ∀ (a : List ByteArray) (n : Nat),(List.range' (q + 1) n).foldl (W (r :: l)) a = (List.range' (q + 1) n).foldl (W l) a := fun a n =>
   foldl_eq _ a fun w hw a => hW.skip r l a w (by have := (List.mem_range'_1.1 hw).1;omega)
  by_cases hk : r.kind = 2
  ·have hd : (r :: l).foldl (rdOne ls) (p,ds) = l.foldl (rdOne ls) (q,ds ++ (ls.drop p).take (q - p) ++ [r.word]) := by
    rw [List.foldl_cons];unfold rdOne
    simp only [hk,hqt,if_true]
    rw [if_neg (by omega)]
   rw [hd,← way_read hW l q _ hql (fun x hx => ⟨(hr x (List.mem_cons_of_mem _ hx)).1,(hr x (List.mem_cons_of_mem _ hx)).2.1,hall x (List.mem_cons_of_mem _ hx)⟩) hs']
   rw [show ls.length + 1 - q = (ls.length - q) + 1 by omega,List.range'_succ,List.foldl_cons,List.foldl_cons,hW.put r l _ q hon hq hk,hrest]
  ·have hlt : q < ls.length := by rw [if_neg hk] at hhi;omega
   have hne : ∀ x ∈ l,x.wd ≠ (q : Nat) := fun x hx => by have := (hb x hx).2 hk;omega
   have hw : (if r.kind = 1 then ([] : List ByteArray) else [r.word]) = if r.word = emp then [] else [r.word] := by
    by_cases h1 : r.kind = 1
    ·rw [if_pos h1,if_pos (hrw.word.1 h1)]
    ·rw [if_neg h1,if_neg (fun h => h1 (hrw.word.2 h))]
   have hd : (r :: l).foldl (rdOne ls) (p,ds) = l.foldl (rdOne ls) (q + 1,ds ++ (ls.drop p).take (q - p) ++ if r.word = emp then [] else [r.word]) := by
    rw [List.foldl_cons];unfold rdOne
    simp only [hk,hqt,if_false,hw]
   rw [hd,← way_read hW l (q + 1) _ hlt (fun x hx => ⟨(hr x (List.mem_cons_of_mem _ hx)).1,(hr x (List.mem_cons_of_mem _ hx)).2.1,by have := (hb x hx).2 hk;omega⟩) hs']
   rw [show ls.length + 1 - q = (ls.length + 1 - (q + 1)) + 1 by omega,List.range'_succ,List.foldl_cons,hW.other r l _ q hon hq hk hlt hne,hrest]
theorem way_line {ls : Line} {on : Rd → Prop} {W : List Rd → List ByteArray → Nat → List ByteArray} (hW : Way ls on W) (l : List Rd) (hr : ∀ r ∈ l,on r ∧ RdW ls r ∧ 0 ≤ r.wd) (hs : l.Pairwise Bhd) : (List.range (ls.length + 1)).foldl (W l) [] = readLineL ls l := by
 rw [List.range_eq_range']
 exact way_read hW l 0 [] (Nat.zero_le _) hr hs
theorem rdsOk_of {ls : Line} : ∀ (l : List Rd) (p : Nat),(∀ r ∈ l,RdW ls r ∧ (p : Int) ≤ r.wd) → l.Pairwise Bhd → RdsOk ls p l
 | [],_,_,_ => trivial
 | r :: l,p,hr,hs => by
  obtain ⟨hrw,hpw⟩ := hr r (List.mem_cons_self ..)
  obtain ⟨hb,hs'⟩ := List.pairwise_cons.1 hs
  refine ⟨⟨hpw,hrw.kind,hrw.hi⟩,rdsOk_of l _ (fun x hx => ⟨(hr x (List.mem_cons_of_mem _ hx)).1, ?_⟩) hs'⟩
  have h := hb x hx
  have h0 : 0 ≤ r.wd := by omega
  by_cases hk : r.kind = 2
  ·rw [if_pos hk];have := h.1;omega
  ·rw [if_neg hk];have := h.2 hk;omega
theorem refI_far (k n : Int) (w : Nat) (l : List Rd) (h : ∀ q ∈ l,q.wd ≠ (w : Nat)) (s : List ByteArray × ByteArray) : l.foldl (refI k n w) s = s := by
 induction l generalizing s with
 | nil => rfl
 | cons r l ih =>
  have : refI k n w s r = s := by unfold refI;rw [if_neg (fun hh => h r (List.mem_cons_self ..) hh.2.2)]
  rw [List.foldl_cons,this,ih fun q hq => h q (List.mem_cons_of_mem _ hq)]
theorem way_ref (ls : Line) (hne : ∀ s ∈ ls,s ≠ emp) (k n : Int) : Way ls (fun r => r.ch = k ∧ r.ln = n) (fun l => refW ls l k n) := by
 refine ⟨fun ds w s hs => ?_,fun ds => ?_,fun r l ds w h => ?_,fun r l ds w ho h hk => ?_,fun r l ds w ho h hk hw hf => ?_⟩
 ·unfold refW
  simp only [List.foldl_nil,hs,Option.getD_some]
  rw [if_neg (hne s (List.mem_of_getElem? hs))]
 ·unfold refW
  simp only [List.foldl_nil,List.getElem?_eq_none_iff.2 (Nat.le_refl _),Option.getD_none,if_true]
 ·unfold refW
  rw [List.foldl_cons,show refI k n w (ds,(ls[w]?).getD emp) r = (ds,(ls[w]?).getD emp) by unfold refI;rw [if_neg (fun hh => h hh.2.2)]]
 ·unfold refW
  rw [List.foldl_cons,show refI k n w (ds,(ls[w]?).getD emp) r = (ds ++ [r.word],(ls[w]?).getD emp) by unfold refI;rw [if_pos ⟨ho.1,ho.2,h⟩,if_pos hk]]
 ·unfold refW
  rw [List.foldl_cons,show refI k n w (ds,(ls[w]?).getD emp) r = (ds,r.word) by unfold refI;rw [if_pos ⟨ho.1,ho.2,h⟩,if_neg hk],refI_far k n w l hf]
  simp only
  split
  ·rw [List.append_nil]
  ·rfl
theorem atLine_iff {k n : Int} {r : Rd} : atLine k n 0 r = true ↔ r.ch = k ∧ r.ln = n := by
 unfold atLine eqP;simp
theorem refW_filter (ls : Line) (rs : List Rd) (k n : Int) (ds : List ByteArray) (w : Nat) : refW ls rs k n ds w = refW ls (rs.filter (atLine k n 0)) k n ds w := by
 have h : ∀ (l : List Rd) (s : List ByteArray × ByteArray),l.foldl (refI k n w) s = (l.filter (atLine k n 0)).foldl (refI k n w) s := by
  intro l
  induction l with
  | nil => intro s;rfl
  | cons r l ih =>
   intro s
   cases ha : atLine k n 0 r
   ·have : refI k n w s r = s := by unfold refI;rw [if_neg (fun hh => by rw [atLine_iff.2 ⟨hh.1,hh.2.1⟩] at ha;cases ha)]
    rw [List.foldl_cons,this,ih,List.filter_cons_of_neg (by rw [ha];simp)]
   ·rw [List.filter_cons_of_pos ha,List.foldl_cons,List.foldl_cons,ih]
 unfold refW;rw [h rs]
def putAt (k n w : Int) (r : Rd) : Bool := decide (r.kind = 2) && eqP r.ch r.ln r.wd k n w
def lawW (ls : Line) (rs : List Rd) (k n : Int) (ds : List ByteArray) (w : Nat) : List ByteArray :=
 let d := ds ++ (rs.filter (putAt k n w)).map Rd.word
 match ls[w]? with
 | none => d
 | some s => if standL rs k n w s = emp then d else d ++ [standL rs k n w s]
theorem eqP_wd {r : Rd} {k n : Int} {w : Nat} (h : r.wd ≠ (w : Nat)) : eqP r.ch r.ln r.wd k n w = false := by
 unfold eqP;simp;intro _ _ h2;exact h h2
theorem eqP_on {r : Rd} {k n : Int} {w : Nat} (h : r.ch = k ∧ r.ln = n) (hw : r.wd = (w : Nat)) : eqP r.ch r.ln r.wd k n w = true := by
 unfold eqP;simp [h.1,h.2,hw]
theorem stand_cons_no {r : Rd} {l : List Rd} {k n w : Int} {s : ByteArray} (h : takesB k n w r = false) : standL (r :: l) k n w s = standL l k n w s := by unfold standL;rw [List.find?_cons,h]
theorem stand_cons_yes {r : Rd} {l : List Rd} {k n w : Int} {s : ByteArray} (h : takesB k n w r = true) : standL (r :: l) k n w s = r.word := by unfold standL;rw [List.find?_cons,h]
theorem way_law (ls : Line) (hne : ∀ s ∈ ls,s ≠ emp) (k n : Int) : Way ls (fun r => r.ch = k ∧ r.ln = n) (fun l => lawW ls l k n) := by
 refine ⟨fun ds w s hs => ?_,fun ds => ?_,fun r l ds w h => ?_,fun r l ds w ho h hk => ?_,fun r l ds w ho h hk hw hf => ?_⟩
 ·unfold lawW
  have h0 : standL [] k n w s = s := rfl
  simp only [hs,List.filter_nil,List.map_nil,List.append_nil,h0]
  rw [if_neg (hne s (List.mem_of_getElem? hs))]
 ·unfold lawW
  simp only [List.getElem?_eq_none_iff.2 (Nat.le_refl _),List.filter_nil,List.map_nil,List.append_nil]
 ·have h1 : putAt k n w r = false := by unfold putAt;rw [eqP_wd h,Bool.and_false]
  have h2 : takesB k n w r = false := by unfold takesB;rw [eqP_wd h];rfl
  unfold lawW
  rw [List.filter_cons_of_neg (by rw [h1];simp)]
  simp only [stand_cons_no h2]
 ·have h1 : putAt k n w r = true := by unfold putAt;rw [eqP_on ho h,Bool.and_true];exact decide_eq_true hk
  have h2 : takesB k n w r = false := by unfold takesB;rw [decide_eq_true hk,Bool.not_true,Bool.and_false]
  unfold lawW
  rw [List.filter_cons_of_pos h1]
  simp only [stand_cons_no h2,List.map_cons,List.append_assoc,List.singleton_append]
 ·have h1 : putAt k n w r = false := by unfold putAt;rw [decide_eq_false hk];rfl
  have h2 : takesB k n w r = true := by unfold takesB;rw [eqP_on ho h,decide_eq_false hk];rfl
  have h3 : l.filter (putAt k n w) = [] := List.filter_eq_nil_iff.2 fun q hq => by unfold putAt;rw [eqP_wd (hf q hq),Bool.and_false];simp
  obtain ⟨s,hs⟩ := at_lt ls w hw
  unfold lawW
  rw [List.filter_cons_of_neg (by rw [h1];simp),h3]
  simp only [hs,stand_cons_yes h2,List.map_nil,List.append_nil]
  split
  ·rw [List.append_nil]
  ·rfl
theorem lawW_filter (ls : Line) (rs : List Rd) (k n : Int) (ds : List ByteArray) (w : Nat) : lawW ls rs k n ds w = lawW ls (rs.filter (atLine k n 0)) k n ds w := by
 have ha : ∀ r : Rd,eqP r.ch r.ln r.wd k n w = true → atLine k n 0 r = true := fun r h => by
  unfold eqP at h;simp at h;exact atLine_iff.2 ⟨h.1,h.2.1⟩
 have h1 : rs.filter (putAt k n w) = (rs.filter (atLine k n 0)).filter (putAt k n w) := by
  rw [List.filter_filter]
  refine List.filter_congr fun r _ => ?_
  cases hp : putAt k n w r
  ·rfl
  ·have : eqP r.ch r.ln r.wd k n w = true := by unfold putAt at hp;simp only [Bool.and_eq_true] at hp;exact hp.2
   rw [ha r this];rfl
 have h2 : ∀ s,standL rs k n w s = standL (rs.filter (atLine k n 0)) k n w s := fun s => by
  induction rs with
  | nil => rfl
  | cons r l ih =>
   cases hl : atLine k n 0 r
   ·have ht : takesB k n w r = false := by
     cases ht : takesB k n w r
     ·rfl
     ·unfold takesB at ht;simp only [Bool.and_eq_true] at ht;rw [ha r ht.1] at hl;cases hl
    rw [stand_cons_no ht,List.filter_cons_of_neg (by rw [hl];simp)]
    exact ih (by rw [List.filter_filter];refine List.filter_congr fun r _ => ?_;cases hp : putAt k n w r
                 ·rfl
                 ·have : eqP r.ch r.ln r.wd k n w = true := by unfold putAt at hp;simp only [Bool.and_eq_true] at hp;exact hp.2
                  rw [ha r this];rfl)
   ·rw [List.filter_cons_of_pos hl]
    unfold standL
    rw [List.find?_cons,List.find?_cons]
    cases ht : takesB k n w r
    ·exact ih (by rw [List.filter_filter];refine List.filter_congr fun r _ => ?_;cases hp : putAt k n w r
                  ·rfl
                  ·have : eqP r.ch r.ln r.wd k n w = true := by unfold putAt at hp;simp only [Bool.and_eq_true] at hp;exact hp.2
                   rw [ha r this];rfl)
    ·rfl
 unfold lawW;rw [← h1];simp only [← h2]
end Go.Ev
namespace Go.Ev
open Go.Proofs
def Ahd (a b : Rd) : Prop := a.ch < b.ch ∨ (a.ch = b.ch ∧ (a.ln < b.ln ∨ (a.ln = b.ln ∧ a.wd ≤ b.wd ∧ (a.kind ≠ 2 → a.wd < b.wd))))
theorem Ahd.trans {a b c : Rd} (h1 : Ahd a b) (h2 : Ahd b c) : Ahd a c := by
 unfold Ahd at *;omega
theorem pairR_ahd {a b : Rd} (h : pairR a b = true) : Ahd a b := by
 unfold pairR beforeB eqP at h
 unfold Ahd
 simp only [Bool.not_eq_true',Bool.or_eq_false_iff,Bool.and_eq_false_iff,Bool.not_eq_false',decide_eq_false_iff_not,decide_eq_true_eq,ne_eq] at h
 obtain ⟨h1,h2⟩ := h
 split at h1
 ·simp only [decide_eq_false_iff_not] at h1;omega
 ·split at h1
  ·simp only [decide_eq_false_iff_not] at h1;omega
  ·simp only [decide_eq_false_iff_not] at h1;omega
theorem cmpI_pos (a b : Int) : 0 < cmpI a b ↔ b < a := by unfold cmpI;split <;> (try split) <;> omega
theorem cmpI_zero (a b : Int) : cmpI a b = 0 ↔ a = b := by unfold cmpI;split <;> (try split) <;> omega
theorem cmpP_pos (a b c a' b' c' : Int) : 0 < cmpP a b c a' b' c' ↔ a' < a ∨ (a = a' ∧ (b' < b ∨ (b = b' ∧ c' < c))) := by
 unfold cmpP
 simp only [orI]
 have h1 := cmpI_pos a a';have h2 := cmpI_pos b b';have h3 := cmpI_pos c c'
 have e1 := cmpI_zero a a';have e2 := cmpI_zero b b';have e3 := cmpI_zero c c'
 split
 ·split
  ·split <;> omega
  ·omega
 ·omega
theorem ahd_pairB {a b : Rd} (h : Ahd a b) : pairB a b = true := by
 unfold Ahd at h
 have hc : ¬ 0 < cmpP a.ch a.ln a.wd b.ch b.ln b.wd := by rw [cmpP_pos];omega
 have he : (eqP a.ch a.ln a.wd b.ch b.ln b.wd && !decide (a.kind = 2)) = false := by
  unfold eqP
  simp only [Bool.and_eq_false_iff,Bool.not_eq_false',decide_eq_false_iff_not,decide_eq_true_eq]
  omega
 unfold pairB
 rw [he,decide_eq_false hc];rfl
theorem rdsB_all (t : Txt) : ∀ (l : List Rd) (p : Option Rd),rdsB t p l = true → (∀ r ∈ l,readB t r = true) ∧ l.Pairwise Ahd ∧ (∀ q,p = some q → ∀ r ∈ l,Ahd q r)
 | [],_,_ => ⟨(fun r h => nomatch h),List.Pairwise.nil,(fun _ _ r h => nomatch h)⟩
 | r :: l,p,h => by
  unfold rdsB at h
  simp only [Bool.and_eq_true] at h
  obtain ⟨⟨h1,h2⟩,h3⟩ := h
  obtain ⟨i1,i2,i3⟩ := rdsB_all t l (some r) h3
  have i3 := i3 r rfl
  refine ⟨fun x hx => ?_,List.pairwise_cons.2 ⟨i3,i2⟩,fun q hq x hx => ?_⟩
  ·rcases List.mem_cons.1 hx with rfl | hx
   ·exact h1
   ·exact i1 x hx
  ·subst hq
   have hr := pairR_ahd h2
   rcases List.mem_cons.1 hx with rfl | hx
   ·exact hr
   ·exact hr.trans (i3 x hx)
theorem ordB_of : ∀ (l : List Rd),l.Pairwise Ahd → ordB l = true
 | [],_ => rfl
 | [a],_ => rfl
 | a :: b :: r,h => by
  obtain ⟨h1,h2⟩ := List.pairwise_cons.1 h
  show (pairB a b && ordB (b :: r)) = true
  rw [ahd_pairB (h1 b (List.mem_cons_self ..)),ordB_of (b :: r) h2];rfl
theorem wordB_ne {s : ByteArray} (h : wordB s = true) : s ≠ emp := by
 rintro rfl
 unfold wordB at h
 simp only [Bool.and_eq_true] at h
 have := h.1
 revert this;decide
structure Cpy (t : Txt) (rs : List Rd) : Prop where
 fit : ∀ r ∈ rs,readB t r = true
 ord : rs.Pairwise Ahd
theorem Cpy.of {t : Txt} {rs : List Rd} (h : rdsB t none rs = true) : Cpy t rs := ⟨(rdsB_all t rs none h).1,(rdsB_all t rs none h).2.1⟩
def ofLn (rs : List Rd) (k n : Int) : List Rd := rs.filter (atLine k n 0)
theorem ofLn_mem {rs : List Rd} {k n : Int} {r : Rd} : r ∈ ofLn rs k n ↔ r ∈ rs ∧ r.ch = k ∧ r.ln = n := by
 unfold ofLn;rw [List.mem_filter,atLine_iff]
theorem Cpy.bhd {t : Txt} {rs : List Rd} (h : Cpy t rs) (k n : Int) : (ofLn rs k n).Pairwise Bhd := by
 have h1 : (ofLn rs k n).Pairwise Ahd := h.ord.sublist List.filter_sublist
 refine h1.imp_of_mem fun ha hb hr => ?_
 have h2 := (ofLn_mem.1 ha).2
 have h3 := (ofLn_mem.1 hb).2
 unfold Ahd at hr
 unfold Bhd
 omega
theorem Cpy.rdw {t : Txt} {rs : List Rd} (h : Cpy t rs) {k n : Int} {ls : Line} (hl : lineAt t k n = some ls) {r : Rd} (hr : r ∈ ofLn rs k n) : RdW ls r ∧ 0 ≤ r.wd := by
 obtain ⟨hm,h1,h2⟩ := ofLn_mem.1 hr
 have hf := h.fit r hm
 unfold readB at hf
 rw [h1,h2,hl] at hf
 simp only at hf
 split at hf
 ·rename_i hk
  unfold fits1 at hf
  simp only [Bool.and_eq_true,decide_eq_true_eq] at hf
  exact ⟨⟨Or.inl hk,⟨fun _ => hf.2,fun _ => hk⟩,by rw [if_neg (by omega)];omega⟩,hf.1.1⟩
 ·split at hf
  ·rename_i hk1 hk
   unfold fits2 withinB at hf
   simp only [List.all_cons,List.all_nil,Bool.and_true,Bool.and_eq_true,decide_eq_true_eq] at hf
   exact ⟨⟨Or.inr (Or.inl hk),⟨fun h => absurd h hk1,fun h => absurd h (wordB_ne hf.2)⟩,by rw [if_pos hk];omega⟩,hf.1.1⟩
  ·split at hf
   ·rename_i hk1 hk2 hk
    unfold fits3 at hf
    simp only [Bool.and_eq_true,decide_eq_true_eq] at hf
    exact ⟨⟨Or.inr (Or.inr hk),⟨fun h => absurd h hk1,fun h => absurd h (wordB_ne hf.1.2)⟩,by rw [if_neg hk2];omega⟩,hf.1.1.1⟩
   ·cases hf
theorem Cpy.rdsOk {t : Txt} {rs : List Rd} (h : Cpy t rs) {k n : Int} {ls : Line} (hl : lineAt t k n = some ls) : RdsOk ls 0 (ofLn rs k n) :=
 rdsOk_of _ 0 (fun r hr => ⟨(h.rdw hl hr).1,by have := (h.rdw hl hr).2;omega⟩) (h.bhd k n)
theorem foldl_same {α β : Type} {f g : α → β → α} (h : ∀ a b,f a b = g a b) (l : List β) (a : α) : l.foldl f a = l.foldl g a := foldl_eq l a fun b _ a => h a b
theorem Cpy.line {t : Txt} {rs : List Rd} (h : Cpy t rs) {k n : Int} {ls : Line} (hl : lineAt t k n = some ls) (hne : ∀ s ∈ ls,s ≠ emp) : refLine ls rs k n = readLineL ls (ofLn rs k n) := by
 unfold refLine
 rw [foldl_same (g := refW ls (ofLn rs k n) k n) (fun a b => refW_filter ls rs k n a b)]
 exact way_line (way_ref ls hne k n) (ofLn rs k n) (fun r hr => ⟨(ofLn_mem.1 hr).2,h.rdw hl hr⟩) (h.bhd k n)
theorem Cpy.law {t : Txt} {rs : List Rd} (h : Cpy t rs) {k n : Int} {ls : Line} (hl : lineAt t k n = some ls) (hne : ∀ s ∈ ls,s ≠ emp) : (List.range (ls.length + 1)).foldl (lawW ls rs k n) [] = refLine ls rs k n := by
 rw [h.line hl hne,foldl_same (g := lawW ls (ofLn rs k n) k n) (fun a b => lawW_filter ls rs k n a b)]
 exact way_line (way_law ls hne k n) (ofLn rs k n) (fun r hr => ⟨(ofLn_mem.1 hr).2,h.rdw hl hr⟩) (h.bhd k n)
def readT (t : Txt) (rs : List Rd) : Txt := t.mapIdx fun k c => (c.1,c.2.mapIdx fun n l => refLine l rs k n)
theorem readT_get {t : Txt} {rs : List Rd} {k : Nat} {c : Chap} (h : t[k]? = some c) : (readT t rs)[k]? = some (c.1,c.2.mapIdx fun n l => refLine l rs k n) := by
 unfold readT;rw [List.getElem?_mapIdx,h];rfl
theorem readT_line {t : Txt} {rs : List Rd} {k n : Nat} {c : Chap} {l : Line} (h : t[k]? = some c) (hl : c.2[n]? = some l) : ∃ d,(readT t rs)[k]? = some d ∧ d.2[n]? = some (refLine l rs k n) := by
 refine ⟨_,readT_get h, ?_⟩
 simp only
 rw [List.getElem?_mapIdx,hl];rfl
theorem lineAt_nat {t : Txt} {k n : Nat} {c : Chap} {l : Line} (h : t[k]? = some c) (hl : c.2[n]? = some l) : lineAt t k n = some l := by
 unfold lineAt
 rw [if_pos (by omega)]
 simp only [Int.toNat_natCast,h,Option.bind_some,hl]
end Go.Ev
namespace Go.Ev
open Go.Proofs
attribute [local irreducible] Wp WpS
theorem ofV_rds (l : List Rd) : RdsA l (ofV l) := by
 cases l with
 | nil => exact Or.inl ⟨rfl,rfl⟩
 | cons r f => exact Or.inr ⟨none,rfl⟩
theorem lnOf_sl (ls : List AV) : SlOf 1 ls (lnOf ls) := by
 unfold lnOf
 split
 ·rename_i h;exact Or.inl ⟨rfl,h⟩
 ·exact Or.inr ⟨none,rfl⟩
theorem Small.ne {t : Txt} (hs : Small t) {k n : Int} {ls : Line} (h : lineAt t k n = some ls) : ∀ s ∈ ls,s ≠ emp := fun s hm => by
 obtain ⟨c,hc,hl⟩ := lineAt_mem h
 exact wordB_ne (hs.word c hc ls hl s hm)
theorem readW {e : Exts} (he : Quiet e) (t : Txt) (hs : Small t) (ht : Fits t) (ch : AV) (xs : List AV) (hch : SlOf 2 xs ch) (hall : All2 ChapA t xs) (id : Int) (rs : List Rd) (x : AV) (hx : RdsA rs x) (hrs : rs.length < 2 ^ 32) (hc : Cpy t rs) :
  ∃ ys o,SlOf 2 ys o ∧ All2 ChapA (readT t rs) ys ∧ Ans (Cx e) 96 [.agg [ch],.agg [intA id,x]] (.agg [o]) := by
 have hQ : ∀ i k : Nat,∃ w : AV,(w.flat = true ∧ w.cells = [w] ∧ bound w = 0) ∧ ∀ y z,xs[i]? = some y → (linesOf y)[k]? = some z → ∃ c l,t[i]? = some c ∧ c.2[k]? = some l ∧ LineA (refLine l rs i k) w ∧ Ans (Cx e) 122 [z,ofV (rs.filter (atLine i k 0))] w := by
  intro i k
  cases hy : xs[i]? with
  | none => exact ⟨.v (.slice none 0 0),⟨rfl,rfl,rfl⟩,fun y z h => nomatch h⟩
  | some y =>
   cases hz : (linesOf y)[k]? with
   | none => exact ⟨.v (.slice none 0 0),⟨rfl,rfl,rfl⟩,fun y' z h1 h2 => by cases h1;rw [hz] at h2;cases h2⟩
   | some z =>
    obtain ⟨c,hc1⟩ := at_lt t i (by rw [hall.1];exact (List.getElem?_eq_some_iff.1 hy).1)
    obtain ⟨y',hy',l,rfl,lxs,hl,hls⟩ := hall.get hc1
    rw [hy] at hy'
    cases hy'
    have hlo : linesOf (.agg [intA c.1,l]) = lxs := hl.elems
    have hz' := hz
    rw [hlo] at hz'
    obtain ⟨ln,hln⟩ := at_lt c.2 k (by rw [hls.1];exact (List.getElem?_eq_some_iff.1 hz').1)
    have hla : LineA ln z := hls.2 k ln z hln hz'
    have hLA := lineAt_nat hc1 hln
    have hlen := (hs.words c (List.mem_of_getElem? hc1) ln (List.mem_of_getElem? hln)).2
    have hfl : (rs.filter (atLine i k 0)).length < 2 ^ 32 := Nat.lt_of_le_of_lt (List.length_filter_le _ _) hrs
    obtain ⟨w,hw1,hw2⟩ := ans76 he ln (by omega) z hla (rs.filter (atLine i k 0)) (ofV (rs.filter (atLine i k 0))) (ofV_rds _) hfl (hc.rdsOk hLA)
    refine ⟨w,⟨hw1.flat,hw1.cells,hw1.bound⟩,fun y z' h1 h2 => ?_⟩
    cases h1
    rw [hz] at h2
    cases h2
    refine ⟨c,ln,hc1,hln, ?_,hw2⟩
    show SlOf 1 (strs (refLine ln rs i k)) w
    rw [hc.line hLA (hs.ne hLA)]
    exact hw1
 have hwf := fun i k => Classical.choose_spec (hQ i k)
 generalize hW : (fun i k => Classical.choose (hQ i k)) = wf
 have hwf : ∀ i k : Nat,((wf i k).flat = true ∧ (wf i k).cells = [wf i k] ∧ bound (wf i k) = 0) ∧ ∀ y z,xs[i]? = some y → (linesOf y)[k]? = some z → ∃ c l,t[i]? = some c ∧ c.2[k]? = some l ∧ LineA (refLine l rs i k) (wf i k) ∧ Ans (Cx e) 122 [z,ofV (rs.filter (atLine i k 0))] (wf i k) := by
  intro i k
  rw [← hW]
  exact hwf i k
 clear hW
 have hx6 := hs.chs
 have hxl := hall.1
 have hok := okCh2_of ht hall
 have hlines : ∀ y ∈ xs,∃ c l lxs,c ∈ t ∧ y = .agg [intA c.1,l] ∧ linesOf y = lxs ∧ All2 LineA c.2 lxs := fun y hy => by
  obtain ⟨i,hi⟩ := List.getElem?_of_mem hy
  obtain ⟨c,hc1⟩ := at_lt t i (by rw [hall.1];exact (List.getElem?_eq_some_iff.1 hi).1)
  obtain ⟨l,rfl,lxs,hl,hls⟩ := hall.2 i c y hc1 hi
  exact ⟨c,l,lxs,List.mem_of_getElem? hc1,rfl,hl.elems,hls⟩
 refine ⟨(stAt xs wf xs.length 0).map (fun c : AV × List AV => AV.agg [c.1,lnOf c.2]),.vs 2 _ none,Or.inr ⟨none,rfl⟩,⟨?_, ?_⟩,ans55x he xs ch hch (fun y hy => (hok y hy).ok) (by omega) (by omega) id rs x hx hrs wf (fun i k y z h1 h2 => ?_) (fun i k => (hwf i k).1) (fun y hy => ?_) (fun y hy z hz => ?_) (by omega)⟩
 ·unfold readT stAt
  rw [List.length_mapIdx,List.length_map,List.length_mapIdx,hall.1]
 ·intro i c y h1 h2
  rw [List.getElem?_map,stAt_get] at h2
  have hil : i < t.length := by
   have := (List.getElem?_eq_some_iff.1 h1).1
   unfold readT at this;rwa [List.length_mapIdx] at this
  obtain ⟨c0,hc0⟩ := at_lt t i hil
  rw [readT_get hc0] at h1
  cases h1
  obtain ⟨y0,hy0,l,rfl,lxs,hl,hls⟩ := hall.get hc0
  have hlo : linesOf (.agg [intA c0.1,l]) = lxs := hl.elems
  rw [hy0,Option.map_some,Option.map_some,if_pos (by omega),hlo] at h2
  cases h2
  refine ⟨_,rfl,_,lnOf_sl _, ?_, ?_⟩
  ·simp only [List.length_mapIdx,List.length_map,List.length_range];exact hls.1
  ·intro k a b h3 h4
   simp only at h3
   rw [List.getElem?_mapIdx] at h3
   rw [List.getElem?_map] at h4
   cases hk : c0.2[k]? with
   | none => rw [hk] at h3;cases h3
   | some ln =>
    rw [hk] at h3
    cases h3
    have hkl : k < lxs.length := by rw [← hls.1];exact (List.getElem?_eq_some_iff.1 hk).1
    obtain ⟨z,hz⟩ := at_lt lxs k hkl
    rw [List.getElem?_range hkl] at h4
    cases h4
    obtain ⟨c',l',h5,h6,h7, -⟩ := (hwf i k).2 _ z hy0 (by rw [hlo];exact hz)
    rw [hc0] at h5
    cases h5
    rw [hk] at h6
    cases h6
    exact h7
 ·obtain ⟨_,_, -, -, -,h⟩ := (hwf i k).2 y z h1 h2
  exact h
 ·obtain ⟨c,l,lxs,hm, -,hlo,hls⟩ := hlines y hy
  rw [hlo,← hls.1]
  have := (hs.lines c hm).2
  omega
 ·obtain ⟨c,l,lxs,hm, -,hlo,hls⟩ := hlines y hy
  rw [hlo] at hz
  obtain ⟨k,hk⟩ := List.getElem?_of_mem hz
  obtain ⟨ln,hln⟩ := at_lt c.2 k (by rw [hls.1];exact (List.getElem?_eq_some_iff.1 hk).1)
  exact (hls.2 k ln z hln hk : SlOf 1 (strs ln) z).bound
theorem linesN_get (rs : List Rd) (k : Nat) : ∀ (ls : List Line) (n j : Nat) (l : Line),linesN rs k n ls = true → ls[j]? = some l → withinB 1 10 [((refLine l rs k ((n + j : Nat) : Int)).length : Int)] = true
 | [],_,_,_,_,h => by simp at h
 | x :: r,n,j,l,h1,h2 => by
  unfold linesN at h1
  simp only [Bool.and_eq_true] at h1
  cases j with
  | zero => simp at h2;subst h2;exact h1.1
  | succ j =>
   have := linesN_get rs k r (n + 1) j l h1.2 (by simpa using h2)
   rwa [show n + 1 + j = n + (j + 1) by omega] at this
theorem chapsN_get (rs : List Rd) : ∀ (t : Txt) (k i : Nat) (c : Chap),chapsN rs k t = true → t[i]? = some c → linesN rs (k + i) 0 c.2 = true
 | [],_,_,_,_,h => by simp at h
 | x :: r,k,i,c,h1,h2 => by
  unfold chapsN at h1
  simp only [Bool.and_eq_true] at h1
  cases i with
  | zero => simp at h2;subst h2;exact h1.1
  | succ i =>
   have := chapsN_get rs r (k + 1) i c h1.2 (by simpa using h2)
   rwa [show k + 1 + i = k + (i + 1) by omega] at this
theorem refI_mem (k n w : Int) (s : ByteArray) : ∀ (rs : List Rd) (st : List ByteArray × ByteArray),(s ∈ (rs.foldl (refI k n w) st).1 → s ∈ st.1 ∨ ∃ r ∈ rs,s = r.word) ∧ ((rs.foldl (refI k n w) st).2 = st.2 ∨ ∃ r ∈ rs,(rs.foldl (refI k n w) st).2 = r.word)
 | [],st => ⟨fun h => Or.inl h,Or.inl rfl⟩
 | r :: rs,st => by
  obtain ⟨h1,h2⟩ := refI_mem k n w s rs (refI k n w st r)
  rw [List.foldl_cons]
  have hq : refI k n w st r = st ∨ refI k n w st r = (st.1 ++ [r.word],st.2) ∨ refI k n w st r = (st.1,r.word) := by
   unfold refI;split
   ·split
    ·exact Or.inr (Or.inl rfl)
    ·exact Or.inr (Or.inr rfl)
   ·exact Or.inl rfl
  refine ⟨fun h => ?_, ?_⟩
  ·rcases h1 h with h3 | ⟨q,hq1,hq2⟩
   ·rcases hq with hq | hq | hq
    ·rw [hq] at h3;exact Or.inl h3
    ·rw [hq] at h3
     rcases List.mem_append.1 h3 with h3 | h3
     ·exact Or.inl h3
     ·exact Or.inr ⟨r,List.mem_cons_self ..,List.mem_singleton.1 h3⟩
    ·rw [hq] at h3;exact Or.inl h3
   ·exact Or.inr ⟨q,List.mem_cons_of_mem _ hq1,hq2⟩
  ·rcases h2 with h3 | ⟨q,hq1,hq2⟩
   ·rcases hq with hq | hq | hq
    ·rw [hq] at h3 ⊢;exact Or.inl h3
    ·rw [hq] at h3 ⊢;exact Or.inl h3
    ·rw [hq] at h3 ⊢;exact Or.inr ⟨r,List.mem_cons_self ..,h3⟩
   ·exact Or.inr ⟨q,List.mem_cons_of_mem _ hq1,hq2⟩
theorem refW_mem (l : Line) (rs : List Rd) (k n : Int) (s : ByteArray) (ds : List ByteArray) (w : Nat) (h : s ∈ refW l rs k n ds w) : s ∈ ds ∨ s ∈ l ∨ ∃ r ∈ rs,s = r.word := by
 obtain ⟨h1,h2⟩ := refI_mem k n w s rs (ds,(l[w]?).getD emp)
 unfold refW at h
 simp only at h
 split at h
 ·rcases h1 h with h | h
  ·exact Or.inl h
  ·exact Or.inr (Or.inr h)
 ·rename_i hne
  rcases List.mem_append.1 h with h | h
  ·rcases h1 h with h | h
   ·exact Or.inl h
   ·exact Or.inr (Or.inr h)
  ·have hs := List.mem_singleton.1 h
   rcases h2 with h3 | ⟨r,hr,h3⟩
   ·rw [h3] at hs hne
    simp only at hs hne
    cases hw : l[w]? with
    | none => rw [hw] at hne;exact absurd rfl hne
    | some y => rw [hw] at hs;exact Or.inr (Or.inl (hs ▸ List.mem_of_getElem? hw))
   ·exact Or.inr (Or.inr ⟨r,hr,hs.trans h3⟩)
theorem refLine_mem (l : Line) (rs : List Rd) (k n : Int) (s : ByteArray) : ∀ w : Nat,s ∈ (List.range w).foldl (refW l rs k n) [] → s ∈ l ∨ ∃ r ∈ rs,s = r.word
 | 0,h => by simp at h
 | w + 1,h => by
  rw [List.range_succ,List.foldl_append] at h
  rcases refW_mem l rs k n s _ w h with h | h
  ·exact refLine_mem l rs k n s w h
  ·exact h
theorem readT_mem {t : Txt} {rs : List Rd} {c : Chap} {l : Line} (hc : c ∈ readT t rs) (hl : l ∈ c.2) : ∃ (k n : Nat) (d : Chap) (ln : Line),t[k]? = some d ∧ d.2[n]? = some ln ∧ l = refLine ln rs k n ∧ c.2.length = d.2.length := by
 obtain ⟨k,hk⟩ := List.getElem?_of_mem hc
 have hil : k < t.length := by
  have := (List.getElem?_eq_some_iff.1 hk).1
  unfold readT at this;rwa [List.length_mapIdx] at this
 obtain ⟨d,hd⟩ := at_lt t k hil
 rw [readT_get hd] at hk
 cases hk
 obtain ⟨n,hn⟩ := List.getElem?_of_mem hl
 simp only at hn
 rw [List.getElem?_mapIdx] at hn
 cases hk : d.2[n]? with
 | none => rw [hk] at hn;cases hn
 | some ln => rw [hk] at hn;cases hn;exact ⟨k,n,d,ln,hd,hk,rfl,by simp⟩
theorem readT_chap {t : Txt} {rs : List Rd} {c : Chap} (hc : c ∈ readT t rs) : ∃ d ∈ t,c.1 = d.1 ∧ c.2.length = d.2.length := by
 obtain ⟨k,hk⟩ := List.getElem?_of_mem hc
 have hil : k < t.length := by
  have := (List.getElem?_eq_some_iff.1 hk).1
  unfold readT at this;rwa [List.length_mapIdx] at this
 obtain ⟨d,hd⟩ := at_lt t k hil
 rw [readT_get hd] at hk
 cases hk
 exact ⟨d,List.mem_of_getElem? hd,rfl,by simp⟩
theorem rdOnes_mem {ls : Line} {s : ByteArray} : ∀ (l : List Rd) (st : Nat × List ByteArray),s ∈ (l.foldl (rdOne ls) st).2 → s ∈ st.2 ∨ s ∈ ls ∨ ∃ r ∈ l,r.kind ≠ 1 ∧ s = r.word
 | [],st,h => Or.inl h
 | r :: l,st,h => by
  rw [List.foldl_cons] at h
  rcases rdOnes_mem l _ h with h | h | ⟨q,hq,h⟩
  ·unfold rdOne at h
   simp only at h
   rcases List.mem_append.1 h with h | h
   ·rcases List.mem_append.1 h with h | h
    ·exact Or.inl h
    ·exact Or.inr (Or.inl (List.mem_of_mem_drop (List.mem_of_mem_take h)))
   ·split at h
    ·exact nomatch h
    ·rename_i hk
     exact Or.inr (Or.inr ⟨r,List.mem_cons_self ..,hk,List.mem_singleton.1 h⟩)
  ·exact Or.inr (Or.inl h)
  ·exact Or.inr (Or.inr ⟨q,List.mem_cons_of_mem _ hq,h⟩)
theorem readLineL_mem {ls : Line} {l : List Rd} {s : ByteArray} (h : s ∈ readLineL ls l) : s ∈ ls ∨ ∃ r ∈ l,r.kind ≠ 1 ∧ s = r.word := by
 unfold readLineL at h
 rcases List.mem_append.1 h with h | h
 ·rcases rdOnes_mem l _ h with h | h | h
  ·exact nomatch h
  ·exact Or.inl h
  ·exact Or.inr h
 ·exact Or.inl (List.mem_of_mem_drop h)
theorem Cpy.wordB {t : Txt} {rs : List Rd} (h : Cpy t rs) {r : Rd} (hr : r ∈ rs) (hk : r.kind ≠ 1) : wordB r.word = true := by
 have hf := h.fit r hr
 unfold readB at hf
 split at hf
 ·cases hf
 ·rw [if_neg hk] at hf
  split at hf
  ·unfold fits2 at hf;simp only [Bool.and_eq_true] at hf;exact hf.2
  ·split at hf
   ·unfold fits3 at hf;simp only [Bool.and_eq_true] at hf;exact hf.1.2
   ·cases hf
structure Right (t : Txt) (id : Int) (rs : List Rd) : Prop where
 id : withinB 0 9999 [id] = true
 len : ¬ 20 < (rs.length : Int)
 cpy : Cpy t rs
 lines : ∀ (k n : Nat) (c : Chap) (l : Line),t[k]? = some c → c.2[n]? = some l → 1 ≤ (refLine l rs k n).length ∧ (refLine l rs k n).length ≤ 10
theorem Right.of {t : Txt} {id : Int} {rs : List Rd} (h : copyB t id rs = true) : Right t id rs := by
 unfold copyB at h
 simp only [Bool.and_eq_true,Bool.not_eq_true',decide_eq_false_iff_not] at h
 obtain ⟨⟨h1,h2⟩,h3,h4⟩ := h
 refine ⟨h1,h2,Cpy.of h3,fun k n c l hc hl => ?_⟩
 have := linesN_get rs (0 + k) c.2 0 n l (chapsN_get rs t 0 k c h4 hc) hl
 rw [Nat.zero_add,Nat.zero_add] at this
 unfold withinB at this
 simp only [List.all_cons,List.all_nil,Bool.and_true,Bool.and_eq_true,decide_eq_true_eq] at this
 omega
theorem Right.small {t : Txt} {id : Int} {rs : List Rd} (h : Right t id rs) (hs : Small t) : Small (readT t rs) := by
 refine ⟨?_,fun c hc => ?_,fun c hc l hl => ?_,fun c hc l hl s hm => ?_⟩
 ·unfold readT;rw [List.length_mapIdx];exact hs.chs
 ·obtain ⟨d,hd, -,h2⟩ := readT_chap hc
  rw [h2];exact hs.lines d hd
 ·obtain ⟨k,n,d,ln,h1,h2,rfl, -⟩ := readT_mem hc hl
  exact h.lines k n d ln h1 h2
 ·obtain ⟨k,n,d,ln,h1,h2,rfl, -⟩ := readT_mem hc hl
  have hLA := lineAt_nat h1 h2
  rw [h.cpy.line hLA (hs.ne hLA)] at hm
  rcases readLineL_mem hm with hm | ⟨r,hr,hk,rfl⟩
  ·exact hs.word d (List.mem_of_getElem? h1) ln (List.mem_of_getElem? h2) s hm
  ·exact h.cpy.wordB ((ofLn_mem.1 hr).1) hk
theorem Right.fits {t : Txt} {id : Int} {rs : List Rd} (h : Right t id rs) (ht : Fits t) (hr : ∀ r ∈ rs,RdF r) : Fits (readT t rs) := by
 refine ⟨?_,fun c hc => ?_,fun c hc l hl => ?_,fun c hc l hl s hm => ?_⟩
 ·unfold readT;rw [List.length_mapIdx];exact ht.chs
 ·obtain ⟨d,hd, -,h2⟩ := readT_chap hc
  rw [h2];exact ht.lines d hd
 ·obtain ⟨k,n,d,ln,h1,h2,rfl, -⟩ := readT_mem hc hl
  have := (h.lines k n d ln h1 h2).2
  omega
 ·obtain ⟨k,n,d,ln,h1,h2,rfl, -⟩ := readT_mem hc hl
  rcases refLine_mem ln rs k n s _ hm with h | ⟨r,h3,rfl⟩
  ·exact ht.size d (List.mem_of_getElem? h1) ln (List.mem_of_getElem? h2) s h
  ·exact (hr r h3).word
end Go.Ev
namespace Go.Ev
open Go.Proofs
attribute [local irreducible] Wp WpS
theorem lensOf_mem {t : Txt} {ys : List AV} (h : All2 ChapA t ys) {n : Int} (hn : n ∈ lensOf ys) : ∃ c ∈ t,∃ l ∈ c.2,n = (l.length : Int) := by
 unfold lensOf at hn
 obtain ⟨y,hy,hz⟩ := List.mem_flatMap.1 hn
 obtain ⟨z,hzm,rfl⟩ := List.mem_map.1 hz
 obtain ⟨i,hi⟩ := List.getElem?_of_mem hy
 obtain ⟨c,hc⟩ := at_lt t i (by rw [h.1];exact (List.getElem?_eq_some_iff.1 hi).1)
 obtain ⟨l,rfl,lxs,hl,hls⟩ := h.2 i c y hc hi
 have hlo : linesOf (.agg [intA c.1,l]) = lxs := hl.elems
 rw [hlo] at hzm
 obtain ⟨k,hk⟩ := List.getElem?_of_mem hzm
 obtain ⟨ln,hln⟩ := at_lt c.2 k (by rw [hls.1];exact (List.getElem?_eq_some_iff.1 hk).1)
 have hla : SlOf 1 (strs ln) z := hls.2 k ln z hln hk
 exact ⟨c,List.mem_of_getElem? hc,ln,List.mem_of_getElem? hln,by rw [hla.elems,strs_len]⟩
theorem lensOf_len : ∀ (ys : List AV),(∀ y ∈ ys,(linesOf y).length ≤ 10) → (lensOf ys).length ≤ 10 * ys.length
 | [],_ => Nat.le_refl _
 | y :: r,h => by
  have ih := lensOf_len r fun z hz => h z (List.mem_cons_of_mem _ hz)
  have h1 := h y (List.mem_cons_self ..)
  unfold lensOf at ih ⊢
  rw [List.flatMap_cons,List.length_append,List.length_map,List.length_cons];omega
theorem linesOf_len {t : Txt} {ys : List AV} (h : All2 ChapA t ys) (hs : Small t) : ∀ y ∈ ys,(linesOf y).length ≤ 10 := fun y hy => by
 obtain ⟨i,hi⟩ := List.getElem?_of_mem hy
 obtain ⟨c,hc⟩ := at_lt t i (by rw [h.1];exact (List.getElem?_eq_some_iff.1 hi).1)
 obtain ⟨l,rfl,lxs,hl,hls⟩ := h.2 i c y hc hi
 have hlo : linesOf (.agg [intA c.1,l]) = lxs := hl.elems
 rw [hlo,← hls.1];exact (hs.lines c (List.mem_of_getElem? hc)).2
theorem item58_of {t : Txt} {ys : List AV} (h : All2 ChapA t ys) : ∀ z ∈ chapIts 0 ys,Item58 z := fun z hz => by
 obtain ⟨i,y,j,w,hi,hj,rfl⟩ := chapIts_of ys 0 z hz
 obtain ⟨c,hc⟩ := at_lt t i (by rw [h.1];exact (List.getElem?_eq_some_iff.1 hi).1)
 obtain ⟨l,rfl,lxs,hl,hls⟩ := h.2 i c y hc hi
 have hlo : linesOf (.agg [intA c.1,l]) = lxs := hl.elems
 rw [hlo] at hj
 obtain ⟨ln,hln⟩ := at_lt c.2 j (by rw [hls.1];exact (List.getElem?_eq_some_iff.1 hj).1)
 exact ⟨_,w,strs ln,rfl,hls.2 j ln w hln hj⟩
theorem copyW {e : Exts} (he : Quiet e) (t : Txt) (hs : Small t) (ht : Fits t) (htx : textB t = true) (ch : AV) (xs : List AV) (hch : SlOf 2 xs ch) (hall : All2 ChapA t xs) (id : Int) (rs : List Rd) (x : AV) (hx : RdsA rs x) (hrd : ∀ r ∈ rs,RdF r) (hR : Right t id rs) :
  ∃ ys o,SlOf 2 ys o ∧ All2 ChapA (readT t rs) ys ∧ Has58 e ch id x true ∧ Ans (Cx e) 59 [.agg [ch],.agg [intA id,x]] (.tup [.agg [o],intA 0]) := by
 have hlen := hR.len
 obtain ⟨ys,o,ho,hys,h55⟩ := readW he t hs ht ch xs hch hall id rs x hx (by omega) hR.cpy
 have hs2 := hR.small hs
 have ht2 := hR.fits ht hrd
 have hyl : ys.length ≤ 6 := by rw [← hys.1];exact hs2.chs.2
 have hfit : rs.all (fitOne t) = true := List.all_eq_true.2 fun r hr => by
  rw [fit_read (fun l hl => ?_)]
  ·exact hR.cpy.fit r hr
  ·obtain ⟨c,hc,hlc⟩ := lineAt_mem hl
   have := (hs.words c hc l hlc).1
   omega
 have hcnt : (chapIts 0 ys).length < 2 ^ 32 := by
  have h1 := lensOf_len ys (linesOf_len hys hs2)
  rw [← chapIts_lens 0 ys,List.length_map] at h1
  omega
 have hw : withinB 1 10 (lensOf ys) = true := List.all_eq_true.2 fun n hn => by
  obtain ⟨c,hc,l,hl,rfl⟩ := lensOf_mem hys hn
  have := hs2.words c hc l hl
  simp only [Bool.and_eq_true,decide_eq_true_eq];omega
 have h58 := has58 he t ht ch xs hch hall id hR.id rs x hx hlen hrd hfit (ordB_of rs hR.cpy.ord) ys o ho (fun y hy => (okCh2_of ht2 hys y hy).ok) (by omega) (item58_of hys) hcnt h55
 rw [hw] at h58
 exact ⟨ys,o,ho,hys,h58,ans25 he t ht htx ch xs hch hall id rs x hx h58 ys o ho h55⟩
structure MB (B : Nat) (base : Fm) (H : Heap) (ds : List ByteArray) (out : AV) : Prop where
 lock : H.lock = 0
 size : B ≤ H.size
 base : Has base H
 done : DoneR H ds out
def Stay (B : Nat) (base : Fm) : Prop := ∀ p ∈ base,p.1 < B ∧ ∀ v m e sz cs,p.2 ≠ .cells v m e sz true cs
theorem MB.row {B : Nat} {base : Fm} {H : Heap} {ds : List ByteArray} {out : AV} (h : MB B base H ds out) {b v m e sz : Nat} {g : Bool} {cs : List AV} (hb : (b,AObj.cells v m e sz g cs) ∈ base) (E : List (Option AObj)) : (H.plus E).row b v = some (m,e,sz,g,cs) := by
 have hg := h.base _ hb
 rw [rowLo (get_ltS hg)];exact get_row hg
theorem MB.plus {B : Nat} {base : Fm} {H : Heap} {ds : List ByteArray} {out : AV} (h : MB B base H ds out) (E : List (Option AObj)) : MB B base (H.plus E) ds out :=
 ⟨h.lock,by have := h.size;rw [plus_size];omega,h.base.plus E,h.done.plus E⟩
theorem MB.trim {B : Nat} {base : Fm} {H : Heap} {ds : List ByteArray} {out : AV} (h : MB B base H ds out) (hS : Stay B base) {n : Nat} (hn : B ≤ n) (vs : List AV) (ms : List Nat) (hv : bound out ≤ boundL vs) : MB B base (H.trim n vs ms) ds out := by
 by_cases hn2 : n ≤ H.size
 ·refine ⟨trim_lock.trans h.lock,Nat.le_trans hn (trim_size' hn2),fun p hp => (trim_lo (by have := (hS p hp).1;omega)).trans (h.base p hp), ?_⟩
  rcases h.done with hd | ⟨b,v,h1,h2,rfl,h4⟩
  ·exact Or.inl hd
  ·unfold Heap.trim
   split
   ·rename_i hq
    rw [Bool.and_eq_true,Bool.and_eq_true,Bool.and_eq_true,Nat.ble_eq] at hq
    have h5 := hq.1.1.1
    have hb : b < n := by simp only [bound] at hv;omega
    have hg := (takeH_get (H := H) hb).trans (row_of_get h4)
    exact Or.inr ⟨b,v,h1,get_size hg,rfl,get_row hg⟩
   ·exact Or.inr ⟨b,v,h1,h2,rfl,h4⟩
 ·rw [trim_whole (by omega)];exact h
theorem MB.more {B : Nat} {base : Fm} {H : Heap} {ds : List ByteArray} {b v : Nat} (h : MB B base H ds (.sl b v 0 ds.length none)) (hS : Stay B base) (hb : b < H.size) (hr : H.row b v = some (0,9,1,true,strs ds)) (s : List ByteArray) (n : Nat) (hn : n = ds.length + s.length) : MB B base (H.put b (.cells (v + 1) 0 9 1 true (strs (ds ++ s)))) (ds ++ s) (.sl b (v + 1) 0 n none) := by
 refine ⟨h.lock,by rw [put_sizeI _ hb];exact h.size,fun p hp => ?_,Or.inr ⟨b,v + 1, ?_,by rw [put_sizeI _ hb];exact hb,by rw [hn,List.length_append],row_put_same hb⟩⟩
 ·have hne : p.1 ≠ b := by
   rintro rfl
   have h1 := (row_of_get hr).symm.trans (h.base p hp)
   exact (hS p hp).2 v 0 9 1 (strs ds) (Option.some.inj h1).symm
  exact (put_get_ne _ (by omega) hne).trans (h.base p hp)
 ·have := h.lock
  show H.lock ≤ b
  omega
theorem MB.new {B : Nat} {base : Fm} {H : Heap} {ds : List ByteArray} {out : AV} (h : MB B base H ds out) {N : Nat} (hN : H.size = N) (E : List (Option AObj)) (k : Nat) (ds' : List ByteArray) (hE : E[k]? = some (some (.cells 0 0 9 1 true (strs ds')))) : MB B base (H.plus E) ds' (.sl (N + k) 0 0 ds'.length none) := by
 have hk := (List.getElem?_eq_some_iff.1 hE).1
 refine ⟨h.lock,by have := h.size;rw [plus_size];omega,h.base.plus E,Or.inr ⟨N + k,0, ?_,by rw [plus_size];omega,rfl, ?_⟩⟩
 ·have := h.lock
  show H.lock ≤ _
  omega
 ·rw [rowP hN,hE];rfl
end Go.Ev
namespace Go.Ev
open Go.Proofs
def dlt (r : Rd) : Int := if r.kind = 2 then 1 else if r.kind = 1 then -1 else 0
def mv : List Rd → (Rd → Bool) → Int
 | [],_ => 0
 | r :: l,p => (if p r = true then dlt r else 0) + mv l p
def ltW' (w : Int) (r : Rd) : Bool := decide (r.wd < w)
def atW' (w : Int) (r : Rd) : Bool := decide (r.wd = w)
def leW' (w : Int) (r : Rd) : Bool := decide (r.wd ≤ w)
theorem mv_split {p q s : Rd → Bool} (h : ∀ r,p r = (q r || s r)) (hd : ∀ r,q r = true → s r = false) : ∀ l,mv l p = mv l q + mv l s
 | [] => rfl
 | r :: l => by
  unfold mv
  rw [mv_split h hd l,h r]
  cases hq : q r
  ·cases hs : s r <;> simp <;> omega
  ·rw [hd r hq];simp;omega
theorem mv_none {p : Rd → Bool} : ∀ l : List Rd,(∀ r ∈ l,p r = false) → mv l p = 0
 | [],_ => rfl
 | r :: l,h => by
  unfold mv
  rw [h r (List.mem_cons_self ..),mv_none l fun q hq => h q (List.mem_cons_of_mem _ hq)];rfl
theorem mv_filter (q p : Rd → Bool) : ∀ l : List Rd,mv (l.filter q) p = mv l (fun r => q r && p r)
 | [] => rfl
 | r :: l => by
  cases hq : q r
  ·rw [List.filter_cons_of_neg (by rw [hq];simp),mv_filter q p l]
   conv => rhs;unfold mv
   simp [hq]
  ·rw [List.filter_cons_of_pos hq]
   unfold mv
   rw [mv_filter q p l];simp [hq]
theorem mv_lt (l : List Rd) (w : Int) : mv l (ltW' (w + 1)) = mv l (ltW' w) + mv l (atW' w) := by
 refine mv_split (fun r => ?_) (fun r h => ?_) l
 ·unfold ltW' atW'
  rw [Bool.eq_iff_iff];simp only [Bool.or_eq_true,decide_eq_true_eq];omega
 ·unfold ltW' at h;unfold atW'
  have := of_decide_eq_true h
  exact decide_eq_false (by omega)
theorem mv_le (l : List Rd) (w : Int) : mv l (leW' w) = mv l (ltW' w) + mv l (atW' w) := by
 refine mv_split (fun r => ?_) (fun r h => ?_) l
 ·unfold ltW' atW' leW'
  rw [Bool.eq_iff_iff];simp only [Bool.or_eq_true,decide_eq_true_eq];omega
 ·unfold ltW' at h;unfold atW'
  have := of_decide_eq_true h
  exact decide_eq_false (by omega)
def takenD (l : List Rd) (k n : Int) (w : Nat) : Int := match l.find? (takesB k n w) with | some r => dlt r | none => 0
theorem mv_at {k n : Int} {w : Nat} : ∀ {l : List Rd},(∀ r ∈ l,r.ch = k ∧ r.ln = n) → l.Pairwise Bhd → mv l (atW' w) = ((l.filter (putAt k n w)).length : Int) + takenD l k n w
 | [],_,_ => rfl
 | r :: l,ho,hp => by
  obtain ⟨hp1,hp2⟩ := List.pairwise_cons.1 hp
  have ih := mv_at (w := w) (fun q hq => ho q (List.mem_cons_of_mem _ hq)) hp2
  have hor := ho r (List.mem_cons_self ..)
  by_cases hw : r.wd = (w : Int)
  ·by_cases hk : r.kind = 2
   ·have h1 : putAt k n w r = true := by unfold putAt;rw [eqP_on hor hw,Bool.and_true];exact decide_eq_true hk
    have h2 : takesB k n w r = false := by unfold takesB;rw [decide_eq_true hk,Bool.not_true,Bool.and_false]
    have e : takenD (r :: l) k n w = takenD l k n w := by unfold takenD;rw [List.find?_cons,h2]
    unfold mv
    rw [List.filter_cons_of_pos h1,e,ih]
    rw [if_pos (by unfold atW';exact decide_eq_true hw)]
    simp only [List.length_cons,dlt,hk,if_true];omega
   ·have h1 : putAt k n w r = false := by unfold putAt;rw [decide_eq_false hk];rfl
    have h2 : takesB k n w r = true := by unfold takesB;rw [eqP_on hor hw,decide_eq_false hk];rfl
    have hf : ∀ q ∈ l,q.wd ≠ (w : Int) := fun q hq => by have := (hp1 q hq).2 hk;omega
    have h3 : l.filter (putAt k n w) = [] := List.filter_eq_nil_iff.2 fun q hq => by unfold putAt;rw [eqP_wd (hf q hq),Bool.and_false];simp
    have h4 : mv l (atW' w) = 0 := mv_none l fun q hq => by unfold atW';exact decide_eq_false (hf q hq)
    unfold mv takenD
    rw [List.filter_cons_of_neg (by rw [h1];simp),List.find?_cons,h2,h3,h4]
    rw [if_pos (by unfold atW';exact decide_eq_true hw)]
    simp
  ·have h1 : putAt k n w r = false := by unfold putAt;rw [eqP_wd hw,Bool.and_false]
   have h2 : takesB k n w r = false := by unfold takesB;rw [eqP_wd hw];rfl
   have e : takenD (r :: l) k n w = takenD l k n w := by unfold takenD;rw [List.find?_cons,h2]
   unfold mv
   rw [List.filter_cons_of_neg (by rw [h1];simp),e,ih]
   rw [if_neg (by unfold atW';rw [decide_eq_false hw];simp)]
   omega
theorem taken_stand {ls : Line} {l : List Rd} {k n : Int} {w : Nat} {s : ByteArray} (hr : ∀ r ∈ l,RdW ls r) (hs : s ≠ emp) : (standL l k n w s ≠ emp → takenD l k n w = 0) ∧ (standL l k n w s = emp → takenD l k n w = -1) := by
 unfold standL takenD
 cases hf : l.find? (takesB k n w) with
 | none => exact ⟨fun _ => rfl,fun h => absurd h hs⟩
 | some r =>
  have hm := hr r (List.mem_of_find?_eq_some hf)
  have ht := List.find?_some hf
  have hk2 : r.kind ≠ 2 := by
   unfold takesB at ht
   simp only [Bool.and_eq_true,Bool.not_eq_true',decide_eq_false_iff_not] at ht
   exact ht.2
  refine ⟨fun h => ?_,fun h => ?_⟩
  ·show dlt r = 0
   unfold dlt
   rw [if_neg hk2,if_neg fun hk => h (hm.word.1 hk)]
  ·show dlt r = -1
   unfold dlt
   rw [if_neg hk2,if_pos (hm.word.2 h)]
def lawF (ls : Line) (l : List Rd) (k n : Int) (w : Nat) : List ByteArray := (List.range w).foldl (lawW ls l k n) []
theorem lawF_succ (ls : Line) (l : List Rd) (k n : Int) (w : Nat) : lawF ls l k n (w + 1) = lawW ls l k n (lawF ls l k n w) w := by
 unfold lawF;rw [List.range_succ,List.foldl_append];rfl
theorem lawW_more (ls : Line) (l : List Rd) (k n : Int) (ds : List ByteArray) (w : Nat) : ∃ t,lawW ls l k n ds w = ds ++ t := by
 unfold lawW
 simp only
 split
 ·exact ⟨_,rfl⟩
 ·split
  ·exact ⟨_,rfl⟩
  ·exact ⟨_,List.append_assoc ..⟩
theorem lawF_more (ls : Line) (l : List Rd) (k n : Int) (w : Nat) : ∀ m,∃ t,lawF ls l k n (w + m) = lawF ls l k n w ++ t
 | 0 => ⟨[],(List.append_nil _).symm⟩
 | m + 1 => by
  obtain ⟨t,ht⟩ := lawF_more ls l k n w m
  obtain ⟨t',ht'⟩ := lawW_more ls l k n (lawF ls l k n (w + m)) (w + m)
  exact ⟨t ++ t',by rw [show w + (m + 1) = w + m + 1 by omega,lawF_succ,ht',ht,List.append_assoc]⟩
section
variable {ls : Line} {l : List Rd} {k n : Int} (hne : ∀ s ∈ ls,s ≠ emp) (ho : ∀ r ∈ l,r.ch = k ∧ r.ln = n) (hr : ∀ r ∈ l,RdW ls r ∧ 0 ≤ r.wd) (hb : l.Pairwise Bhd)
include hne ho hr hb
theorem lawF_len : ∀ w : Nat,w ≤ ls.length → ((lawF ls l k n w).length : Int) = w + mv l (ltW' w)
 | 0,_ => by
  rw [mv_none l fun r hm => by unfold ltW';exact decide_eq_false (by have := (hr r hm).2;omega)];rfl
 | w + 1,hw => by
  have ih := lawF_len w (by omega)
  obtain ⟨s,hs⟩ := at_lt ls w (by omega)
  have hse := hne s (List.mem_of_getElem? hs)
  have h1 := mv_lt l w
  have h2 := mv_at (w := w) ho hb
  have h3 := taken_stand (k := k) (n := n) (w := w) (fun r hm => (hr r hm).1) hse
  rw [lawF_succ]
  rw [show (((w + 1 : Nat) : Int)) = (w : Int) + 1 by omega,h1,h2]
  unfold lawW
  simp only [hs]
  by_cases he : standL l k n w s = emp
  ·rw [if_pos he,List.length_append,List.length_map,h3.2 he];omega
  ·rw [if_neg he,List.length_append,List.length_append,List.length_map,h3.1 he];simp only [List.length_singleton];omega
theorem lawF_at {w : Nat} {s : ByteArray} (hs : ls[w]? = some s) (he : standL l k n w s ≠ emp) : ∃ pos : Nat,(pos : Int) = w + mv l (leW' w) ∧ (lawF ls l k n (ls.length + 1))[pos]? = some (standL l k n w s) ∧ (lawF ls l k n w).length ≤ pos ∧ pos < (lawF ls l k n (w + 1)).length := by
 have hw := (List.getElem?_eq_some_iff.1 hs).1
 have h0 := lawF_len hne ho hr hb w (by omega)
 have h2 := mv_at (w := w) ho hb
 have h3 := taken_stand (k := k) (n := n) (w := w) (fun r hm => (hr r hm).1) (hne s (List.mem_of_getElem? hs))
 have h4 := mv_le l w
 rw [h2,h3.1 he] at h4
 have h5 : lawF ls l k n (w + 1) = lawF ls l k n w ++ (l.filter (putAt k n w)).map Rd.word ++ [standL l k n w s] := by
  rw [lawF_succ];unfold lawW;simp only [hs];rw [if_neg he]
 obtain ⟨t,ht⟩ := lawF_more ls l k n (w + 1) (ls.length - w)
 rw [show w + 1 + (ls.length - w) = ls.length + 1 by omega] at ht
 refine ⟨(lawF ls l k n w).length + (l.filter (putAt k n w)).length,by rw [h4];omega, ?_,by omega,by rw [h5];simp⟩
 rw [ht,h5,List.getElem?_append_left (by simp),List.getElem?_append_right (by simp)]
 simp
end
def mvd (rs : List Rd) (k n w : Int) : Int := w + mv rs (fun r => atLine k n 0 r && leW' w r)
theorem stand_filter (rs : List Rd) (k n : Int) (w : Nat) (s : ByteArray) : standL rs k n w s = standL (ofLn rs k n) k n w s := by
 have ha : ∀ r : Rd,takesB k n w r = true → atLine k n 0 r = true := fun r h => by
  unfold takesB eqP at h;simp at h;exact atLine_iff.2 ⟨h.1.1,h.1.2.1⟩
 unfold standL ofLn
 have : rs.find? (takesB k n w) = (rs.filter (atLine k n 0)).find? (takesB k n w) := by
  induction rs with
  | nil => rfl
  | cons r l ih =>
   cases hl : atLine k n 0 r
   ·have ht : takesB k n w r = false := by
     cases ht : takesB k n w r
     ·rfl
     ·rw [ha r ht] at hl;cases hl
    rw [List.filter_cons_of_neg (by rw [hl];simp),List.find?_cons,ht];exact ih
   ·rw [List.filter_cons_of_pos hl,List.find?_cons,List.find?_cons]
    cases takesB k n w r
    ·exact ih
    ·rfl
 rw [this]
section
variable {t : Txt} {rs : List Rd} (h : Cpy t rs) {k n : Int} {ls : Line} (hl : lineAt t k n = some ls) (hne : ∀ s ∈ ls,s ≠ emp)
include h hl hne
theorem Cpy.law_ofLn : lawF ls (ofLn rs k n) k n (ls.length + 1) = refLine ls rs k n := by
 rw [← h.law hl hne]
 unfold lawF ofLn
 exact (foldl_same (fun a b => lawW_filter ls rs k n a b) _ _).symm
theorem Cpy.moved_at {w : Nat} {s : ByteArray} (hs : ls[w]? = some s) (he : standL rs k n w s ≠ emp) : ∃ pos : Nat,(pos : Int) = mvd rs k n w ∧ (refLine ls rs k n)[pos]? = some (standL rs k n w s) := by
 rw [stand_filter] at he
 obtain ⟨pos,h1,h2, -⟩ := lawF_at hne (fun r hr => (ofLn_mem.1 hr).2) (fun r hr => h.rdw hl hr) (h.bhd k n) hs he
 rw [h.law_ofLn hl hne,← stand_filter] at h2
 refine ⟨pos, ?_,h2⟩
 rw [h1];unfold mvd ofLn;rw [mv_filter]
end
end Go.Ev
namespace Go.Ev
open Go.Proofs
attribute [local irreducible] Wp WpS
theorem ansS47 {e : Exts} (he : Quiet e) (t : Txt) (ht : Fits t) (ch : AV) (xs : List AV) (hch : SlOf 2 xs ch) (hall : All2 ChapA t xs) (hT : textB t = true) (n : Nat) (hn : n < 65536) (x : Plc × ByteArray) (hx : (wordsT 0 t)[n % (wordsT 0 t).length]? = some x) : Ans (Cx e) 47 [.agg [ch],.v (.int .u16 n)] (.tup [.agg [intA x.1.1,intA x.1.2.1,intA x.1.2.2],.v (.bool true)]) := by
 have hs := wordsT_small (small_of hT)
 have h14 := call14 he t ht ch xs hch hall hT
 have hxl := (List.getElem?_eq_some_iff.1 hx).1
 generalize hN : (wordsT 0 t).length = N at hs h14 hx hxl
 have hlt : ¬ ((N : Int) < 1) := by omega
 have hw1 := wrap_nat n (by omega)
 have hN0 : (N : Int) ≠ 0 := by omega
 have hr : ∀ (x y : Operand) (m : Int),binA Tryz.prog .rem 3 x y (.v (.int .i64 m)) (.v (.int .i64 N)) = some (.v (.int .i64 (Int.tmod m N))) := fun x y m => bin_rem x y m N hN0
 have hm1 : Int.tmod (n : Int) (N : Int) = ((n % N : Nat) : Int) := rfl
 generalize n % N = i at hm1 hx
 have b1 : boundL [AV.agg [ch],intA (i : Nat)] = 0 := by simp only [boundL_cons,bound_agg,hch.bound,boundL_nil];rfl
 have c1 := fun me d => (ans15 he t ht ch xs hch hall (i : Nat)).callI (me := me) (d := d) (ext_45 he) (pure_45 _ _ _) b1
 rw [placeOf_in hT hx] at c1
 have b2 : boundL [AV.agg [ch],.agg [intA x.1.1,intA x.1.2.1,intA x.1.2.2]] = 0 := by simp only [boundL_cons,bound_agg,hch.bound,boundL_nil];rfl
 have c6 := fun me d => (ans17 he t ht ch xs hch hall x.1.1 x.1.2.1 x.1.2.2).callI (me := me) (d := d) (ext_62 he) (pure_62 _ _ _) b2
 rw [place_in hx] at c6
 unfold intA at c1 c6
 unfold Ans
 rw [fn_step (fn_47 e) (show Tryz.f47.body = some _ from rfl)]
 simp -implicitDefEqProofs only [Tryz.f47,go_sem,↓reduceIte,Int.reduceEq,Int.reduceLT,Int.reduceLE,List.reduceReplicate,intA,setT_nil,setT_cons,hch.cells,hch.flat,hch.bound,h14,hlt,decide_false,↓boolP_bool,↓iteB_true,↓iteB_false]
 refine wp_drawX [([],[],false),([],[],false),([],[],false),([],[],false),([],[],false),([],[],false),([],[],false),([],[],false),([],[],false),([0,5],[],false),([],[9],false),([],[],false)] (by kernel_rfl) (by kernel_rfl) ?_
 simp -implicitDefEqProofs only [go_sem,↓reduceIte,Int.reduceEq,Int.reduceLT,Int.reduceLE,List.reduceReplicate,intA,setT_nil,setT_cons,hch.cells,hch.flat,hch.bound,conv_u16,hw1,hr,hm1,c1,↓boolP_bool,↓iteB_true,↓iteB_false]
 refine wp_drawX [([],[],false),([],[],false),([],[],false),([],[],false),([0],[],false),([0,4],[],false),([0],[],false),([],[],false),([],[],false),([],[],false)] (by kernel_rfl) (by kernel_rfl) ?_
 simp -implicitDefEqProofs only [go_sem,↓reduceIte,Int.reduceEq,Int.reduceLT,Int.reduceLE,List.reduceReplicate,intA,setT_nil,setT_cons,hch.cells,hch.flat,hch.bound,c6,↓boolP_bool,↓iteB_true,↓iteB_false]
 rfl
theorem ansS46 {e : Exts} (he : Quiet e) (t : Txt) (ht : Fits t) (ch : AV) (xs : List AV) (hch : SlOf 2 xs ch) (hall : All2 ChapA t xs) (hT : textB t = true) (a b c : Nat) (ln : Line) (hL : lineAt t a b = some ln) (w : ByteArray) (hw : ln[c]? = some w) : Ans (Cx e) 46 [.agg [ch],.agg [intA a,intA b,intA c]] (.tup [.v (.string w),intA 0]) := by
 have h40 := call40 he t ht ch ⟨xs,hch,hall⟩
 rw [hT] at h40
 have h44 := call44 he t ht ch xs hch hall a b c
 have hcl := (List.getElem?_eq_some_iff.1 hw).1
 have hp : placeB' t a b c = true := by unfold placeB';rw [hL];simp;omega
 rw [hp] at h44
 obtain ⟨lx,hlx,h45⟩ := ans45 he t ht ch xs hch hall a b c
 rw [hL] at hlx
 have hlx : SlOf 1 (strs ln) lx := hlx
 have b2 : boundL [AV.agg [ch],.agg [intA a,intA b,intA c]] = 0 := by simp only [boundL_cons,bound_agg,hch.bound,boundL_nil];rfl
 have c45 := fun me d => h45.callI (me := me) (d := d) (ext_88 he) (pure_88 _ _ _) b2
 have hix := hlx.idx (strs_get hw)
 unfold intA at c45
 unfold Ans
 rw [fn_step (fn_46 e) (show Tryz.f46.body = some _ from rfl)]
 simp -implicitDefEqProofs only [Tryz.f46,go_sem,↓reduceIte,Int.reduceEq,Int.reduceLT,Int.reduceLE,List.reduceReplicate,intA,setT_nil,setT_cons,hch.cells,hch.flat,hch.bound,h40,h44,if_true,↓boolP_bool,↓iteB_true,↓iteB_false]
 refine wp_drawX [([],[],false),([0],[],false),([],[],false),([],[],false),([0,1,2],[],false),([],[],false),([],[],false),([],[],false),([],[],false)] (by kernel_rfl) (by kernel_rfl) ?_
 simp -implicitDefEqProofs only [go_sem,↓reduceIte,Int.reduceEq,Int.reduceLT,Int.reduceLE,List.reduceReplicate,intA,setT_nil,setT_cons,hch.cells,hch.flat,hch.bound,c45,hix,hlx.cells,↓boolP_bool,↓iteB_true,↓iteB_false]
 rfl
def onLe (a b c : Int) (r : Rd) : Bool := atLine a b 0 r && leW' c r
theorem mv_snoc (p : Rd → Bool) (r : Rd) : ∀ l : List Rd,mv (l ++ [r]) p = mv l p + (if p r = true then dlt r else 0)
 | [] => by unfold mv;simp [mv]
 | q :: l => by
  show (if p q = true then dlt q else 0) + mv (l ++ [r]) p = ((if p q = true then dlt q else 0) + mv l p) + _
  rw [mv_snoc p r l];omega
theorem mv_bd (p : Rd → Bool) : ∀ l : List Rd, -(l.length : Int) ≤ mv l p ∧ mv l p ≤ l.length
 | [] => by unfold mv;simp
 | q :: l => by
  have := mv_bd p l
  unfold mv dlt
  simp only [List.length_cons]
  split <;> (try split) <;> (try split) <;> omega
theorem ansS35 {e : Exts} (he : Quiet e) (t : Txt) (ht : Fits t) (htx : textB t = true) (ch : AV) (xs : List AV) (hch : SlOf 2 xs ch) (hall : All2 ChapA t xs) (id : Int) (rs : List Rd) (x : AV) (hx : RdsA rs x) (hrs : rs.length ≤ 1000) (h58 : Has58 e ch id x true) (a b c : Nat) (ln : Line) (hL : lineAt t a b = some ln) (own : ByteArray) (hc : ln[c]? = some own) (hc1 : c < 1000) :
  Ans (Cx e) 35 [.agg [ch],.agg [intA id,x],.agg [intA a,intA b,intA c]] (if standL rs a b c own = emp then .tup [.agg [intA 0,intA 0,intA 0],intA 6] else .tup [.agg [intA a,intA b,intA (mvd rs a b c)],intA 0]) := by
 have hxb : bound x = 0 := SlOf.bound (show SlOf 5 (rs.map rdV) x from hx)
 have b1 : boundL [.agg [ch],.agg [intA id,x],.agg [intA a,intA b,intA c]] = 0 := by simp only [boundL_cons,bound_agg,hch.bound,hxb,boundL_nil];rfl
 have h30 := fun me d H => (ans30 he t ht htx ch xs hch hall id rs x hx hrs h58 a b c ln hL own hc).call (ext_60 he) (pure_60 _ me d) b1 H
 have hx : SlOf 5 (rs.map rdV) x := hx
 have hln : (rs.map rdV).length = rs.length := List.length_map ..
 unfold intA at h30
 unfold Ans
 rw [fn_step (fn_35 e) (show Tryz.f35.body = some _ from rfl)]
 by_cases hem : standL rs a b c own = emp
 ·rw [if_pos hem]
  rw [hem] at h30
  have hd : decide (emp = (⟨#[]⟩ : ByteArray)) = true := decide_eq_true rfl
  simp -implicitDefEqProofs only [Tryz.f35,go_sem,↓reduceIte,Int.reduceEq,Int.reduceLT,Int.reduceLE,List.reduceReplicate,intA,setT_nil,setT_cons,hch.cells,hch.flat,hch.bound,hx.cells,hx.flat,hx.bound,h30,hd,↓boolP_bool,↓iteB_true,↓iteB_false]
  rfl
 ·rw [if_neg hem]
  have hd : decide (standL rs a b c own = (⟨#[]⟩ : ByteArray)) = false := decide_eq_false hem
  simp -implicitDefEqProofs only [Tryz.f35,go_sem,↓reduceIte,Int.reduceEq,Int.reduceLT,Int.reduceLE,List.reduceReplicate,intA,setT_nil,setT_cons,hch.cells,hch.flat,hch.bound,hx.cells,hx.flat,hx.bound,hx.len,hln,h30,hd,↓boolP_bool,↓iteB_true,↓iteB_false]
  refine Lp_ruleQ (P := fun μ A X => ∃ j,j + μ = rs.length ∧ A = ⟨73,[(0,.agg [ch]),(1,.agg [intA id,x]),(2,.agg [intA a,intA b,intA c]),(3,.ptr 0 0 0),(4,.ptr 1 0 0),(5,.ptr 2 0 0),(6,.ptr 3 0 0),(7,intA 0),(8,.v (.string (standL rs a b c own))),(9,intA 0),(21,.v (.bool false)),(25,.v (.bool false)),(10,.ptr 4 0 0),(29,x),(30,intA rs.length),(31,intA j)],[]⟩ ∧ X = ⟨[some (.cells 0 0 24 1 false [ch]),some (.cells 0 0 66 1 false [intA id,x]),some (.cells 0 0 28 1 false [intA a,intA b,intA c]),some (.cells 0 0 28 1 false [intA 0,intA 0,intA 0]),some (.cells 0 0 28 1 false [intA a,intA b,intA (c + mv (rs.take j) (onLe a b c))])],0⟩) ?_ rs.length _ _ ⟨0,Nat.zero_add _,rfl,by simp [mv,intA]⟩
  rintro Q KK hQ hKK μ _ _ ⟨j,hj,rfl,rfl⟩
  cases μ with
  | zero =>
   obtain rfl : j = rs.length := by omega
   simp -implicitDefEqProofs only [go_sem,↓reduceIte,Int.reduceEq,Int.reduceLT,Int.reduceLE,List.reduceReplicate,intA,setT_nil,setT_cons,hx.cells,hx.flat,hx.bound,hx.len,hln,Int.lt_irrefl,hch.bound,hxb,trim_at,↓boolP_bool,↓iteB_true,↓iteB_false]
   refine hKK _ _ _ ?_
   simp -implicitDefEqProofs only [go_sem,↓reduceIte,Int.reduceEq,Int.reduceLT,Int.reduceLE,List.reduceReplicate,intA,setT_nil,setT_cons,hch.bound,hxb]
   rfl
  | succ μ =>
   obtain ⟨r,hr⟩ : ∃ r,rs[j]? = some r := ⟨rs[j]'(by omega),List.getElem?_eq_getElem (by omega)⟩
   have hix := hx.idx (j := j) (y := rdV r) (by rw [List.getElem?_map,hr];rfl)
   have hlt : (j : Int) < ((rs.length : Nat) : Int) := by omega
   have hwj := wrap_succ j (by omega)
   have hrc : (rdV r).cells = [.v (.int .i64 r.ch),.v (.int .i64 r.ln),.v (.int .i64 r.wd),.v (.int .u8 r.kind),.v (.string r.word)] := rfl
   have htk : rs.take (j + 1) = rs.take j ++ [r] := by rw [List.take_add_one,hr];rfl
   have hmv := mv_snoc (onLe a b c) r (rs.take j)
   rw [← htk] at hmv
   have hbd := mv_bd (onLe a b c) (rs.take j)
   have hbl : (rs.take j).length ≤ 1000 := by rw [List.length_take];omega
   generalize hm : mv (rs.take j) (onLe a b c) = m at *
   have hwp : IntKind.i64.wrap ((c : Int) + m + 1) = (c : Int) + m + 1 := wrap_in _ (by omega) (by omega)
   have hwm : IntKind.i64.wrap ((c : Int) + m - 1) = (c : Int) + m - 1 := wrap_in _ (by omega) (by omega)
   have hfin : ∀ z : Int,z = (c : Int) + mv (rs.take (j + 1)) (onLe a b c) → Again Q (μ + 1) ⟨73,[(0,.agg [ch]),(1,.agg [intA id,x]),(2,.agg [intA a,intA b,intA c]),(3,.ptr 0 0 0),(4,.ptr 1 0 0),(5,.ptr 2 0 0),(6,.ptr 3 0 0),(7,intA 0),(8,.v (.string (standL rs a b c own))),(9,intA 0),(21,.v (.bool false)),(25,.v (.bool false)),(10,.ptr 4 0 0),(29,x),(30,intA rs.length),(31,intA ((j + 1 : Nat) : Int))],[]⟩ ⟨[some (.cells 0 0 24 1 false [ch]),some (.cells 0 0 66 1 false [intA id,x]),some (.cells 0 0 28 1 false [intA a,intA b,intA c]),some (.cells 0 0 28 1 false [intA 0,intA 0,intA 0]),some (.cells 0 0 28 1 false [intA a,intA b,intA z])],0⟩ := by
    rintro z rfl
    exact Again.mk' μ (by omega) (hQ _ _ _ ⟨j + 1,by omega,rfl,rfl⟩)
   unfold intA at hfin ⊢
   cases h1 : decide (r.ch = (a : Int))
   ·have h1' := of_decide_eq_false h1
    simp -implicitDefEqProofs only [go_sem,↓reduceIte,Int.reduceEq,Int.reduceLT,Int.reduceLE,List.reduceReplicate,intA,setT_nil,setT_cons,hx.cells,hx.flat,hx.bound,hx.len,hln,hlt,hix,hrc,hwj,List.take_succ_cons,List.take_zero,hch.bound,hxb,trim_at,h1,↓boolP_bool,↓iteB_true,↓iteB_false]
    refine hfin _ ?_
    rw [hmv,if_neg (by unfold onLe;rw [show atLine a b 0 r = false by cases h : atLine a b 0 r with | false => rfl | true => exact absurd (atLine_iff.1 h).1 h1'];simp)];omega
   ·have h1' := of_decide_eq_true h1
    cases h2 : decide (r.ln = (b : Int))
    ·have h2' := of_decide_eq_false h2
     simp -implicitDefEqProofs only [go_sem,↓reduceIte,Int.reduceEq,Int.reduceLT,Int.reduceLE,List.reduceReplicate,intA,setT_nil,setT_cons,hx.cells,hx.flat,hx.bound,hx.len,hln,hlt,hix,hrc,hwj,List.take_succ_cons,List.take_zero,hch.bound,hxb,trim_at,h1,h2,↓boolP_bool,↓iteB_true,↓iteB_false]
     refine hfin _ ?_
     rw [hmv,if_neg (by unfold onLe;rw [show atLine a b 0 r = false by cases h : atLine a b 0 r with | false => rfl | true => exact absurd (atLine_iff.1 h).2 h2'];simp)];omega
    ·have h2' := of_decide_eq_true h2
     have hat : atLine a b 0 r = true := atLine_iff.2 ⟨h1',h2'⟩
     cases h3 : decide (r.wd > (c : Int))
     ·have h3' := of_decide_eq_false h3
      have hon : onLe a b c r = true := by unfold onLe leW';rw [hat,decide_eq_true (by omega)];rfl
      rw [if_pos hon] at hmv
      cases h4 : decide (r.kind = 2)
      ·have h4' := of_decide_eq_false h4
       cases h5 : decide (r.kind = 1)
       ·have h5' := of_decide_eq_false h5
        simp -implicitDefEqProofs only [go_sem,↓reduceIte,Int.reduceEq,Int.reduceLT,Int.reduceLE,List.reduceReplicate,intA,setT_nil,setT_cons,hx.cells,hx.flat,hx.bound,hx.len,hln,hlt,hix,hrc,hwj,List.take_succ_cons,List.take_zero,hch.bound,hxb,trim_at,h1,h2,h3,h4,h5,↓boolP_bool,↓iteB_true,↓iteB_false]
        refine hfin _ ?_
        rw [hmv];unfold dlt;rw [if_neg h4',if_neg h5'];omega
       ·have h5' := of_decide_eq_true h5
        simp -implicitDefEqProofs only [go_sem,↓reduceIte,Int.reduceEq,Int.reduceLT,Int.reduceLE,List.reduceReplicate,intA,setT_nil,setT_cons,hx.cells,hx.flat,hx.bound,hx.len,hln,hlt,hix,hrc,hwj,List.take_succ_cons,List.take_zero,hch.bound,hxb,trim_at,h1,h2,h3,h4,h5,hwm,↓boolP_bool,↓iteB_true,↓iteB_false]
        refine hfin _ ?_
        rw [hmv];unfold dlt;rw [if_neg h4',if_pos h5'];omega
      ·have h4' := of_decide_eq_true h4
       simp -implicitDefEqProofs only [go_sem,↓reduceIte,Int.reduceEq,Int.reduceLT,Int.reduceLE,List.reduceReplicate,intA,setT_nil,setT_cons,hx.cells,hx.flat,hx.bound,hx.len,hln,hlt,hix,hrc,hwj,List.take_succ_cons,List.take_zero,hch.bound,hxb,trim_at,h1,h2,h3,h4,hwp,↓boolP_bool,↓iteB_true,↓iteB_false]
       refine hfin _ ?_
       rw [hmv];unfold dlt;rw [if_pos h4'];omega
     ·have h3' := of_decide_eq_true h3
      simp -implicitDefEqProofs only [go_sem,↓reduceIte,Int.reduceEq,Int.reduceLT,Int.reduceLE,List.reduceReplicate,intA,setT_nil,setT_cons,hx.cells,hx.flat,hx.bound,hx.len,hln,hlt,hix,hrc,hwj,List.take_succ_cons,List.take_zero,hch.bound,hxb,trim_at,h1,h2,h3,↓boolP_bool,↓iteB_true,↓iteB_false]
      refine hfin _ ?_
      rw [hmv,if_neg (by unfold onLe leW';rw [hat,decide_eq_false (by omega)];simp)];omega
end Go.Ev
namespace Go.Ev
def Fz (X : Heap) (S : Nat → Prop) (d : Nat) (x y : AV) : Prop :=
 (x.flat = true ∧ bound y = 0 ∧ (bound x = 0 → y = x)) ∧ ∀ G : Heap,G.lock = 0 → (∀ b,S b → G.get b = X.get b) → ∀ k,d ≤ k → freezeV G k x = some y
theorem Fz.mono {X Y : Heap} {S T : Nat → Prop} {d d' : Nat} {x y : AV} (h : Fz X S d x y) (hs : ∀ b,S b → T b ∧ Y.get b = X.get b) (hd : d ≤ d') : Fz Y T d' x y :=
 ⟨h.1,fun G hk hg k hk2 => h.2 G hk (fun b hb => (hg b (hs b hb).1).trans (hs b hb).2) k (Nat.le_trans hd hk2)⟩
theorem Fz.v (X : Heap) (S : Nat → Prop) (v : Value) : Fz X S 1 (.v v) (.v v) :=
 ⟨⟨rfl,rfl,fun _ => rfl⟩,fun _ _ _ k hk => by obtain ⟨k',rfl⟩ : ∃ k',k = k' + 1 := ⟨k - 1,by omega⟩;rfl⟩
theorem Fz.vs (X : Heap) (S : Nat → Prop) (z : Nat) (l : List AV) (c : Option Nat) : Fz X S 1 (.vs z l c) (.vs z l c) :=
 ⟨⟨rfl,rfl,fun _ => rfl⟩,fun _ _ _ k hk => by obtain ⟨k',rfl⟩ : ∃ k',k = k' + 1 := ⟨k - 1,by omega⟩;rfl⟩
def FzL (X : Heap) (S : Nat → Prop) (d : Nat) : List AV → List AV → Prop
 | [],[] => True
 | x :: r,y :: s => Fz X S d x y ∧ FzL X S d r s
 | _,_ => False
theorem FzL.len {X : Heap} {S : Nat → Prop} {d : Nat} : ∀ {l m : List AV},FzL X S d l m → l.length = m.length
 | [],[],_ => rfl
 | _ :: _,_ :: _,h => congrArg (· + 1) (FzL.len h.2)
 | [],_ :: _,h => h.elim
 | _ :: _,[],h => h.elim
theorem FzL.mono {X Y : Heap} {S T : Nat → Prop} {d d' : Nat} (hs : ∀ b,S b → T b ∧ Y.get b = X.get b) (hd : d ≤ d') : ∀ {l m : List AV},FzL X S d l m → FzL Y T d' l m
 | [],[],_ => trivial
 | _ :: _,_ :: _,h => ⟨h.1.mono hs hd,FzL.mono hs hd h.2⟩
 | [],_ :: _,h => h.elim
 | _ :: _,[],h => h.elim
theorem FzL.flat {X : Heap} {S : Nat → Prop} {d : Nat} : ∀ {l m : List AV},FzL X S d l m → l.all AV.flat = true
 | [],[],_ => rfl
 | _ :: _,_ :: _,h => by rw [List.all_cons,h.1.1.1,FzL.flat h.2];rfl
 | [],_ :: _,h => h.elim
 | _ :: _,[],h => h.elim
theorem FzL.bound {X : Heap} {S : Nat → Prop} {d : Nat} : ∀ {l m : List AV},FzL X S d l m → boundL m = 0
 | [],[],_ => rfl
 | _ :: _,_ :: _,h => by rw [boundL_cons,h.1.1.2.1,FzL.bound h.2];rfl
 | [],_ :: _,h => h.elim
 | _ :: _,[],h => h.elim
theorem FzL.closed {X : Heap} {S : Nat → Prop} {d : Nat} : ∀ {l m : List AV},FzL X S d l m → boundL l = 0 → m = l
 | [],[],_,_ => rfl
 | x :: r,y :: s,h,hb => by
  rw [boundL_cons] at hb
  have h1 : Go.Ev.bound x = 0 := Nat.le_zero.1 (Nat.le_trans (Nat.le_max_left _ _) (Nat.le_of_eq hb))
  have h2 : boundL r = 0 := Nat.le_zero.1 (Nat.le_trans (Nat.le_max_right _ _) (Nat.le_of_eq hb))
  rw [h.1.1.2.2 h1,FzL.closed h.2 h2]
 | [],_ :: _,h,_ => h.elim
 | _ :: _,[],h,_ => h.elim
theorem FzL.freeze {X : Heap} {S : Nat → Prop} {d : Nat} {G : Heap} (hk : G.lock = 0) (hg : ∀ b,S b → G.get b = X.get b) : ∀ {l m : List AV},FzL X S d l m → ∀ k,d + l.length + 1 ≤ k → freezeL G k l = some m
 | [],[],_,k,h => by obtain ⟨k',rfl⟩ : ∃ k',k = k' + 1 := ⟨k - 1,by omega⟩;rfl
 | x :: r,y :: s,h,k,hd => by
  obtain ⟨k',rfl⟩ : ∃ k',k = k' + 1 := ⟨k - 1,by omega⟩
  simp only [List.length_cons] at hd
  show (match freezeV G k' x,freezeL G k' r with | some y,some ys => some (y :: ys) | _,_ => none) = _
  rw [h.1.2 G hk hg k' (by omega),FzL.freeze hk hg h.2 k' (by omega)]
 | [],_ :: _,h,_,_ => h.elim
 | _ :: _,[],h,_,_ => h.elim
theorem Fz.row {X : Heap} {S : Nat → Prop} {d b v e m sz n : Nat} {g : Bool} {l ys : List AV} (hS : S b) (hr : X.get b = some (.cells v m e sz g l)) (hl : FzL X S d l ys) (hm : boundL l ≤ m) (hz : 0 < sz) (hn : l.length = n * sz) (c : Option Nat) {d' : Nat} (hd : d + l.length + 2 ≤ d') :
  Fz X S d' (.sl b v 0 n c) (.vs sz (chunk sz n ys) none) := by
 refine ⟨⟨rfl,rfl,fun h => by simp [Go.Ev.bound] at h⟩,fun G hk hg k hkd => ?_⟩
 obtain ⟨k',rfl⟩ : ∃ k',k = k' + 1 := ⟨k - 1,by omega⟩
 have hrow : G.row b v = some (m,e,sz,g,l) := by
  unfold Heap.row;rw [hg b hS,hr];simp only [if_true]
 unfold freezeV
 simp only [hrow,hk]
 rw [if_neg (by omega),if_pos ⟨by omega,hz⟩,List.drop_zero,List.take_of_length_le (by omega)]
 by_cases h0 : m = 0
 ·rw [if_pos h0,hl.closed (by omega)]
 ·rw [if_neg h0,FzL.freeze hk hg hl k' (by omega)]
  simp only [hl.bound,if_true]
theorem trim_orT (H : Heap) (n : Nat) (vs : List AV) (ms : List Nat) : H.trim n vs ms = H ∨ H.trim n vs ms = { H with objs := H.objs.take n } := by
 unfold Heap.trim
 split
 ·exact Or.inr rfl
 ·exact Or.inl rfl
theorem trim_keep {H : Heap} {n : Nat} {vs : List AV} {ms : List Nat} {b : Nat} {o : AObj} (hb : b < n) (hg : H.get b = some o) (ho : n < o.bound) : H.trim n vs ms = H := by
 rcases trim_cases H n vs ms with h | ⟨_,h2⟩
 ·exact h
 ·have := boundsOk_getI h2 (b := b) (o := o) (by rw [List.getElem?_take,if_pos hb];unfold Heap.get at hg;cases hh : H.objs[b]? with
   | none => rw [hh] at hg;cases hg
   | some q => rw [hh] at hg;simp only [Option.join] at hg;rw [show q = some o from hg])
  omega
end Go.Ev
namespace Go.Ev
open Go.Proofs
attribute [local irreducible] Wp WpS
def wds (Z : List (Plc × ByteArray)) : List AV := strs (Z.map (·.2))
def pcs (Z : List (Plc × ByteArray)) : List AV := Z.flatMap fun x => (plN x.1).cells
theorem wds_len (Z : List (Plc × ByteArray)) : (wds Z).length = Z.length := by unfold wds;rw [strs_len,List.length_map]
theorem pcs_len : ∀ Z : List (Plc × ByteArray),(pcs Z).length = Z.length * 3
 | [] => rfl
 | z :: Z => by
  have := pcs_len Z
  show ((plN z.1).cells ++ pcs Z).length = _
  rw [List.length_append,this,List.length_cons]
  show 3 + _ = _
  omega
theorem wds_snoc (Z : List (Plc × ByteArray)) (x : Plc × ByteArray) : wds (Z ++ [x]) = wds Z ++ [.v (.string x.2)] := by unfold wds strs;simp
theorem pcs_snoc (Z : List (Plc × ByteArray)) (x : Plc × ByteArray) : pcs (Z ++ [x]) = pcs Z ++ [intA x.1.1,intA x.1.2.1,intA x.1.2.2] := by unfold pcs plN;simp [AV.cells]
def pls (Z : List (Plc × ByteArray)) : List AV := Z.map fun x => plN x.1
def h100 (ch : AV) (w sd : Int) : List (Plc × ByteArray) → Heap
 | [] => ⟨[some (.cells 0 0 24 1 false [ch]),some (.cells 0 0 26 1 false [intA w,.v (.int .u8 sd)]),some (.cells 0 0 121 1 false [intA 0,.v (.int .u8 0),.v (.slice none 0 0),.v (.slice none 0 0)]),some (.cells 0 0 121 1 false [intA w,.v (.int .u8 sd),.v (.slice none 0 0),.v (.slice none 0 0)])],0⟩
 | z :: Z => ⟨[some (.cells 0 0 24 1 false [ch]),some (.cells 0 0 26 1 false [intA w,.v (.int .u8 sd)]),some (.cells 0 0 121 1 false [intA 0,.v (.int .u8 0),.v (.slice none 0 0),.v (.slice none 0 0)]),some (.cells 0 6 121 1 false [intA w,.v (.int .u8 sd),.sl 4 Z.length 0 (Z.length + 1) none,.sl 5 Z.length 0 (Z.length + 1) none]),some (.cells Z.length 0 9 1 true (wds (z :: Z))),some (.cells Z.length 0 28 3 true (pcs (z :: Z)))],0⟩
theorem h100c (ch : AV) (w sd : Int) (z : Plc × ByteArray) (Z : List (Plc × ByteArray)) : h100 ch w sd (z :: Z) = ⟨[some (.cells 0 0 24 1 false [ch]),some (.cells 0 0 26 1 false [intA w,.v (.int .u8 sd)]),some (.cells 0 0 121 1 false [intA 0,.v (.int .u8 0),.v (.slice none 0 0),.v (.slice none 0 0)]),some (.cells 0 6 121 1 false [intA w,.v (.int .u8 sd),.sl 4 Z.length 0 (Z.length + 1) none,.sl 5 Z.length 0 (Z.length + 1) none]),some (.cells Z.length 0 9 1 true (wds (z :: Z))),some (.cells Z.length 0 28 3 true (pcs (z :: Z)))],0⟩ := rfl
theorem h100n (ch : AV) (w sd : Int) : h100 ch w sd [] = ⟨[some (.cells 0 0 24 1 false [ch]),some (.cells 0 0 26 1 false [intA w,.v (.int .u8 sd)]),some (.cells 0 0 121 1 false [intA 0,.v (.int .u8 0),.v (.slice none 0 0),.v (.slice none 0 0)]),some (.cells 0 0 121 1 false [intA w,.v (.int .u8 sd),.v (.slice none 0 0),.v (.slice none 0 0)])],0⟩ := rfl
theorem h100s (ch : AV) (w sd : Int) (z : Plc × ByteArray) (Z : List (Plc × ByteArray)) (x : Plc × ByteArray) : h100 ch w sd (z :: Z ++ [x]) = ⟨[some (.cells 0 0 24 1 false [ch]),some (.cells 0 0 26 1 false [intA w,.v (.int .u8 sd)]),some (.cells 0 0 121 1 false [intA 0,.v (.int .u8 0),.v (.slice none 0 0),.v (.slice none 0 0)]),some (.cells 0 6 121 1 false [intA w,.v (.int .u8 sd),.sl 4 (Z.length + 1) 0 (Z.length + 1 + 1) none,.sl 5 (Z.length + 1) 0 (Z.length + 1 + 1) none]),some (.cells (Z.length + 1) 0 9 1 true (wds (z :: Z) ++ [.v (.string x.2)])),some (.cells (Z.length + 1) 0 28 3 true (pcs (z :: Z) ++ [intA x.1.1,intA x.1.2.1,intA x.1.2.2]))],0⟩ := by
 rw [← wds_snoc,← pcs_snoc]
 show h100 ch w sd (z :: (Z ++ [x])) = _
 rw [h100c,List.length_append]
 rfl
def t100 (ch : AV) (w sd : Int) (c : Nat) (l : AV) (n j : Nat) : List (Tmp × AV) := [(0,.agg [ch]),(1,.agg [intA w,.v (.int .u8 sd)]),(2,intA c),(3,.ptr 0 0 0),(4,.ptr 1 0 0),(6,.ptr 2 0 0),(7,.ptr 3 0 0),(19,l),(20,intA n),(21,intA j)]
def Out100 (ch : AV) (w sd : Int) (c : Nat) (l : AV) (ls : List Line) : Inv := fun μ a H => ∃ j Z,j + μ = ls.length ∧ Z ++ wordsC c j (ls.drop j) = wordsC c 0 ls ∧ a = ⟨51,t100 ch w sd c l ls.length j,[]⟩ ∧ H = h100 ch w sd Z
def In100 (ch : AV) (w sd : Int) (c : Nat) (l : AV) (n j : Nat) (lx : AV) (ln : Line) (Z0 : List (Plc × ByteArray)) : Inv := fun μ a H => ∃ k Z,k + μ = ln.length ∧ Z ++ wordsL c j k (ln.drop k) = Z0 ++ wordsL c j 0 ln ∧ a = ⟨51,t100 ch w sd c l n j ++ [(22,.v (.bool true)),(8,intA j),(9,lx),(26,lx),(27,intA ln.length),(28,intA k)],[]⟩ ∧ H = h100 ch w sd Z
theorem strs_bd (ws : Line) : boundL (strs ws) = 0 := by
 refine Nat.le_zero.1 (boundL_le.2 fun x hx => ?_)
 obtain ⟨s, -,rfl⟩ := List.mem_map.1 hx;exact Nat.le_refl _
theorem app1 (B0 B1 B2 B3 B5 : Option AObj) (n : Nat) (cs : List AV) (hl : cs.length = n + 1) (hf : fitsA 16 (n + 1 + 1) = true) (x : Value) (slot : Nat) : appTo 9 1 16 ⟨[B0,B1,B2,B3,some (.cells n 0 9 1 true cs),B5],0⟩ slot 1 [.v x] (.sl 4 n 0 (n + 1) none) = some (.sl 4 (n + 1) 0 (n + 1 + 1) none,⟨[B0,B1,B2,B3,some (.cells (n + 1) 0 9 1 true (cs ++ [.v x])),B5],0⟩) :=
 appTo_own (m := 0) (e' := 9) (cs := cs) (by unfold Heap.row Heap.get;simp) (by omega) (Nat.zero_le _) hf (by omega) (by omega)
theorem app2 (B0 B1 B2 B3 B4 : Option AObj) (n : Nat) (cs : List AV) (hl : cs.length = (n + 1) * 3) (hf : fitsA 24 (n + 1 + 1) = true) (x y z : Value) (slot : Nat) : appTo 28 3 24 ⟨[B0,B1,B2,B3,B4,some (.cells n 0 28 3 true cs)],0⟩ slot 1 [.v x,.v y,.v z] (.sl 5 n 0 (n + 1) none) = some (.sl 5 (n + 1) 0 (n + 1 + 1) none,⟨[B0,B1,B2,B3,B4,some (.cells (n + 1) 0 28 3 true (cs ++ [.v x,.v y,.v z]))],0⟩) :=
 appTo_own (m := 0) (e' := 28) (cs := cs) (by unfold Heap.row Heap.get;simp) (by omega) (Nat.zero_le _) hf (by omega) (by omega)
theorem wordsL_drop (i j : Nat) : ∀ (ln : Line) (k : Nat) (s : ByteArray) (q : Nat),ln[k]? = some s → wordsL i j (q + k) (ln.drop k) = ((i,j,q + k),s) :: wordsL i j (q + (k + 1)) (ln.drop (k + 1))
 | [],k,s,q,h => by simp at h
 | a :: r,0,s,q,h => by simp at h;subst h;rfl
 | a :: r,k + 1,s,q,h => by
  have := wordsL_drop i j r k s (q + 1) (by simpa using h)
  rw [show q + 1 + k = q + (k + 1) by omega,show q + 1 + (k + 1) = q + (k + 1 + 1) by omega] at this
  exact this
theorem wordsC_drop (i : Nat) : ∀ (ls : List Line) (j : Nat) (ln : Line) (q : Nat),ls[j]? = some ln → wordsC i (q + j) (ls.drop j) = wordsL i (q + j) 0 ln ++ wordsC i (q + (j + 1)) (ls.drop (j + 1))
 | [],j,s,q,h => by simp at h
 | a :: r,0,s,q,h => by simp at h;subst h;rfl
 | a :: r,j + 1,s,q,h => by
  have := wordsC_drop i r j s (q + 1) (by simpa using h)
  rw [show q + 1 + j = q + (j + 1) by omega,show q + 1 + (j + 1) = q + (j + 1 + 1) by omega] at this
  exact this
theorem trim_self {Y : Heap} {M : Nat} (hY : Y.size = M) (vs : List AV) (ms : List Nat) : Y.trim M vs ms = Y := by
 rcases trim_orT Y M vs ms with h | h
 ·exact h
 ·rw [h]
  cases Y with
  | mk o k => simp only [Heap.size] at hY;simp only [Heap.mk.injEq,and_true];rw [← hY];exact List.take_length
theorem trim_6 (l : List (Option AObj)) (c : List AV) (v n : Nat) (e : TypeId) (sz : Nat) (g : Bool) (hn : n < 6) (h : l[3]? = some (some (.cells v 6 e sz g c))) (hn2 : 3 < n) (vs : List AV) : (Heap.mk l 0).trim n vs [] = ⟨l,0⟩ := trim_keep (b := 3) hn2 (get_list h) hn
theorem h100t (ch : AV) (w sd : Int) (Z Z2 W : List (Plc × ByteArray)) (h : Z2 = Z ++ W) (vs : List AV) : (h100 ch w sd Z2).trim (h100 ch w sd Z).size vs [] = h100 ch w sd Z2 := by
 subst h
 cases Z with
 | nil =>
  cases W with
  | nil => exact trim_self rfl _ _
  | cons z W => exact trim_6 _ _ _ _ _ _ _ (by show 4 < 6;omega) rfl (by show 3 < 4;omega) _
 | cons z Z => exact trim_self rfl _ _
theorem freezeL4 {H : Heap} {a b c d a' b' c' d' : AV} (ha : ∀ k,freezeV H (k + 1) a = some a') (hb : ∀ k,freezeV H (k + 1) b = some b') (hc : ∀ k,freezeV H (k + 1) c = some c') (hd : ∀ k,freezeV H (k + 1) d = some d') (k : Nat) : freezeL H (k + 6) [a,b,c,d] = some [a',b',c',d'] := by
 simp only [freezeL,ha,hb,hc,hd]
theorem chunk_pcs : ∀ Z : List (Plc × ByteArray),chunk 3 Z.length (pcs Z) = pls Z
 | [] => rfl
 | z :: Z => by
  have := chunk_pcs Z
  show AV.agg [intA z.1.1,intA z.1.2.1,intA z.1.2.2] :: chunk 3 Z.length (pcs Z) = _
  rw [this];rfl
theorem frz100 (B0 B1 B2 B3 : Option AObj) (a b : Value) (n : Nat) (z : Plc × ByteArray) (Z : List (Plc × ByteArray)) (hn : Z.length = n := by rfl) : freezeV ⟨[B0,B1,B2,B3,some (.cells n 0 9 1 true (wds (z :: Z))),some (.cells n 0 28 3 true (pcs (z :: Z)))],0⟩ 1000000 (.agg [.v a,.v b,.sl 4 n 0 (n + 1) none,.sl 5 n 0 (n + 1) none]) = some (.agg [.v a,.v b,.vs 1 (wds (z :: Z)) none,.vs 3 (pls (z :: Z)) none]) := by
 subst hn
 have h1 := wds_len (z :: Z)
 have h2 := pcs_len (z :: Z)
 have h3 := chunk_pcs (z :: Z)
 have h4 := chunk_one (wds (z :: Z))
 rw [h1] at h4
 have := freezeL4 (H := ⟨[B0,B1,B2,B3,some (.cells Z.length 0 9 1 true (wds (z :: Z))),some (.cells Z.length 0 28 3 true (pcs (z :: Z)))],0⟩) (a := .v a) (a' := .v a) (b := .v b) (b' := .v b) (c := .sl 4 Z.length 0 (Z.length + 1) none) (c' := .vs 1 (wds (z :: Z)) none) (d := .sl 5 Z.length 0 (Z.length + 1) none) (d' := .vs 3 (pls (z :: Z)) none) (fun k => rfl) (fun k => rfl) (fun k => by
   unfold freezeV
   have hr : Heap.row ⟨[B0,B1,B2,B3,some (.cells Z.length 0 9 1 true (wds (z :: Z))),some (.cells Z.length 0 28 3 true (pcs (z :: Z)))],0⟩ 4 Z.length = some (0,9,1,true,wds (z :: Z)) := by unfold Heap.row Heap.get;simp
   simp only [hr]
   rw [if_neg (by omega),if_pos ⟨by rw [h1,List.length_cons];omega,by omega⟩,if_pos trivial,List.drop_zero,List.take_of_length_le (by rw [h1,List.length_cons];omega)]
   show some (AV.vs 1 (chunk 1 (z :: Z).length (wds (z :: Z))) none) = _
   rw [List.length_cons,← List.length_cons (a := z),h4]) (fun k => by
   unfold freezeV
   have hr : Heap.row ⟨[B0,B1,B2,B3,some (.cells Z.length 0 9 1 true (wds (z :: Z))),some (.cells Z.length 0 28 3 true (pcs (z :: Z)))],0⟩ 5 Z.length = some (0,28,3,true,pcs (z :: Z)) := by unfold Heap.row Heap.get;simp
   simp only [hr]
   rw [if_neg (by omega),if_pos ⟨by rw [h2,List.length_cons];omega,by omega⟩,if_pos trivial,List.drop_zero,List.take_of_length_le (by rw [h2,List.length_cons];omega),← h3]
   rfl) 999993
 show (freezeL _ (999993 + 6) _).map AV.agg = _
 rw [this];rfl
theorem ansS100 {e : Exts} (_he : Quiet e) (t : Txt) (ht : Fits t) (ch : AV) (xs : List AV) (hch : SlOf 2 xs ch) (hall : All2 ChapA t xs) (w : Int) (sd : Int) (c : Nat) (cp : Chap) (hc : t[c]? = some cp) (hls1000 : cp.2.length < 1000) (hln : ∀ ln ∈ cp.2,ln.length < 1000) (hne : wordsC c 0 cp.2 ≠ []) (hN : (wordsC c 0 cp.2).length < 100000) : Ans (Cx e) 100 [.agg [ch],.agg [intA w,.v (.int .u8 sd)],intA c] (.agg [intA w,.v (.int .u8 sd),.vs 1 (wds (wordsC c 0 cp.2)) none,.vs 3 (pls (wordsC c 0 cp.2)) none]) := by
 obtain ⟨y,hy,l,rfl,lxs,hl,hls⟩ := hall.get hc
 have hix := hch.idx hy
 unfold Ans
 rw [fn_step (fn_100 e) (show Tryz.f100.body = some _ from rfl)]
 simp -implicitDefEqProofs only [Tryz.f100,go_sem,↓reduceIte,Int.reduceEq,Int.reduceLT,Int.reduceLE,List.reduceReplicate,intA,setT_nil,setT_cons,hch.cells,hch.flat,hch.bound,hix,hl.cells,hl.len,hl.flat,hl.bound,↓boolP_bool,↓iteB_true,↓iteB_false]
 refine Lp_ruleQ (P := Out100 ch w sd c l cp.2) ?_ cp.2.length _ _ ?_
 ·rintro Q KK hQ hKK μ _ _ ⟨j,Z,hj,hZ,rfl,rfl⟩
  have hlsl := hls.1
  cases μ with
  | zero =>
   obtain rfl : j = cp.2.length := by omega
   rw [List.drop_length] at hZ
   have hZe : wordsC c 0 cp.2 = Z := by rw [← hZ];simp [wordsC]
   have hnj : ¬ (lxs.length : Int) < (lxs.length : Int) := by omega
   rcases Z with _ | ⟨z,Z⟩
   ·exact absurd hZe hne
   ·simp -implicitDefEqProofs only [h100c,t100,go_sem,↓reduceIte,Int.reduceEq,Int.reduceLT,Int.reduceLE,List.reduceReplicate,intA,setT_nil,setT_cons,hlsl,hnj,↓boolP_bool,↓iteB_true,↓iteB_false]
    refine hKK _ _ _ ?_
    simp -implicitDefEqProofs only [go_sem,↓reduceIte,Int.reduceEq,Int.reduceLT,Int.reduceLE,List.reduceReplicate,intA,setT_nil,setT_cons,hlsl,hnj,bound_sl,↓boolP_bool,↓iteB_true,↓iteB_false]
    rw [hZe]
    exact frz100 _ _ _ _ _ _ _ z Z
  | succ μ =>
   obtain ⟨ln,hw⟩ := at_lt cp.2 j (by omega)
   obtain ⟨lx,hlx,hsl⟩ := hls.get hw
   have hltj : (j : Int) < ((lxs.length : Nat) : Int) := by omega
   have hjx := hl.idx hlx
   have hsl : SlOf 1 (strs ln) lx := hsl
   have hlen := strs_len ln
   obtain ⟨objs,hH⟩ : ∃ o,h100 ch w sd Z = ⟨o,0⟩ := by cases Z <;> exact ⟨_,rfl⟩
   have hsz : ∃ n,objs.length = n := ⟨_,rfl⟩
   rw [hH]
   simp -implicitDefEqProofs only [t100,go_sem,↓reduceIte,Int.reduceEq,Int.reduceLT,Int.reduceLE,List.reduceReplicate,intA,setT_nil,setT_cons,hlsl,hltj,hjx,hsl.cells,hsl.len,hsl.flat,hlen,↓boolP_bool,↓iteB_true,↓iteB_false]
   rw [← hH]
   refine Lp_ruleQ (P := In100 ch w sd c l lxs.length j lx ln Z) ?_ ln.length _ _ ⟨0,Z,by omega,rfl,rfl,rfl⟩
   rintro Q2 K2 hQ2 hK2 μ2 _ _ ⟨k,Z2,hk,hZ2,rfl,rfl⟩
   cases μ2 with
   | zero =>
    obtain rfl : k = ln.length := by omega
    have hnk : ¬ (ln.length : Int) < (ln.length : Int) := by omega
    have hwj := wrap_succ j (by have := hls.1;omega)
    have hst := wordsC_drop c cp.2 j ln 0 hw
    rw [Nat.zero_add,Nat.zero_add] at hst
    rw [List.drop_length] at hZ2
    have hZ3 : Z2 = Z ++ wordsL c j 0 ln := by rw [← hZ2];simp [wordsL]
    simp -implicitDefEqProofs only [t100,go_sem,↓reduceIte,Int.reduceEq,Int.reduceLT,Int.reduceLE,List.reduceReplicate,intA,setT_nil,setT_cons,hnk,↓boolP_bool,↓iteB_true,↓iteB_false]
    refine hK2 _ _ _ ?_
    simp -implicitDefEqProofs only [go_sem,↓reduceIte,Int.reduceEq,Int.reduceLT,Int.reduceLE,List.reduceReplicate,intA,setT_nil,setT_cons,hwj,↓boolP_bool,↓iteB_true,↓iteB_false]
    rw [show objs.length = (h100 ch w sd Z).size by rw [hH];rfl,h100t ch w sd Z Z2 _ hZ3]
    exact Again.mk' μ (by omega) (hQ _ _ _ ⟨j + 1,Z2,by omega,by rw [hZ3,List.append_assoc,← hst];exact hZ,by rw [hls.1];rfl,rfl⟩)
   | succ μ2 =>
    have hltk : (k : Int) < ((ln.length : Nat) : Int) := by omega
    obtain ⟨s,hs⟩ := at_lt ln k (by omega)
    have hkx := hsl.idx (strs_get hs)
    have hstep := wordsL_drop c j ln k s 0 hs
    rw [Nat.zero_add,Nat.zero_add] at hstep
    have hlZ : Z2.length < 100000 := by
     have h1 := congrArg List.length hZ2
     have h2 := congrArg List.length hZ
     have h3 := wordsC_drop c cp.2 j ln 0 hw
     rw [Nat.zero_add] at h3
     rw [h3] at h2
     simp only [List.length_append] at h1 h2
     omega
    have hf1 : fitsA 16 1 = true := by decide
    have hf2 : fitsA 24 1 = true := by decide
    have hwk := wrap_succ k (by have := hln ln (List.mem_of_getElem? hw);omega)
    rcases Z2 with _ | ⟨z,Z2⟩
    ·simp -implicitDefEqProofs only [h100n,t100,go_sem,↓reduceIte,Int.reduceEq,Int.reduceLT,Int.reduceLE,List.reduceReplicate,intA,setT_nil,setT_cons,hltk,hkx,hsl.cells,hsl.len,hsl.flat,hlen,hf1,hf2,hwk,bound_sl,List.flatMap_cons,List.flatMap_nil,List.append_nil,AV.cells,AV.flat,List.all_cons,List.all_nil,↓boolP_bool,↓iteB_true,↓iteB_false]
     rw [trim_6 _ _ _ _ _ _ _ (by omega) rfl (by omega)]
     exact Again.mk' μ2 (by omega) (hQ2 _ _ _ ⟨k + 1,[((c,j,k),s)],by omega,by rw [← hZ2,hstep];rfl,rfl,rfl⟩)
    ·have hlZ : Z2.length + 1 < 100000 := hlZ
     have hf3 : fitsA 16 (Z2.length + 1 + 1) = true := by unfold fitsA;exact decide_eq_true (by omega)
     have hf4 : fitsA 24 (Z2.length + 1 + 1) = true := by unfold fitsA;exact decide_eq_true (by omega)
     have ha1 := fun B0 B1 B2 B3 B5 x slot => app1 B0 B1 B2 B3 B5 Z2.length (wds (z :: Z2)) (by rw [wds_len];rfl) hf3 x slot
     have ha2 := fun B0 B1 B2 B3 B4 x y z' slot => app2 B0 B1 B2 B3 B4 Z2.length (pcs (z :: Z2)) (by rw [pcs_len];rfl) hf4 x y z' slot
     simp -implicitDefEqProofs only [h100c,t100,go_sem,↓reduceIte,Int.reduceEq,Int.reduceLT,Int.reduceLE,List.reduceReplicate,intA,setT_nil,setT_cons,hltk,hkx,hsl.cells,hsl.len,hsl.flat,hlen,ha1,ha2,hwk,bound_sl,List.flatMap_cons,List.flatMap_nil,List.append_nil,AV.cells,AV.flat,List.all_cons,List.all_nil,↓boolP_bool,↓iteB_true,↓iteB_false]
     have hsn := h100s ch w sd z Z2 ((c,j,k),s)
     refine Again.mk' μ2 (by omega) (hQ2 _ _ _ ⟨k + 1,z :: Z2 ++ [((c,j,k),s)],by omega,by rw [← hZ2,hstep];simp,rfl, ?_⟩)
     rw [hsn]
     rfl
 ·exact ⟨0,[],by omega,rfl,by rw [hls.1];rfl,rfl⟩
end Go.Ev
namespace Go.Ev
open Go.Proofs
attribute [local irreducible] Wp WpS
def longN (n : Nat) (s : ByteArray) : Nat := (if 0 < n then n + 1 else n) + s.size
theorem ansS179 {e : Exts} (n : Nat) (s : ByteArray) (hn : n < 2 ^ 40) (hs : s.size < 2 ^ 40) : Ans (Cx e) 179 [intA n,.v (.string s)] (intA (longN n s)) := by
 unfold Ans longN
 rw [fn_step (fn_179 e) (show Tryz.f179.body = some _ from rfl)]
 have hw := wrap_succ n (by omega)
 by_cases h : 0 < n
 ·have hi : (n : Int) > 0 := by omega
  have hw2 : IntKind.i64.wrap (((n + 1 : Nat) : Int) + (s.size : Int)) = ((n + 1 + s.size : Nat) : Int) := by rw [← Int.natCast_add];exact wrap_nat _ (by omega)
  simp -implicitDefEqProofs only [Tryz.f179,go_sem,↓reduceIte,Int.reduceEq,Int.reduceLT,Int.reduceLE,List.reduceReplicate,intA,setT_nil,setT_cons,hi,hw,hw2,if_pos h,decide_true,↓boolP_bool,↓iteB_true,↓iteB_false]
 ·have hi : ¬ (n : Int) > 0 := by omega
  have hw2 : IntKind.i64.wrap ((n : Int) + (s.size : Int)) = ((n + s.size : Nat) : Int) := by rw [← Int.natCast_add];exact wrap_nat _ (by omega)
  simp -implicitDefEqProofs only [Tryz.f179,go_sem,↓reduceIte,Int.reduceEq,Int.reduceLT,Int.reduceLE,List.reduceReplicate,intA,setT_nil,setT_cons,hi,hw2,if_neg h,decide_false,↓boolP_bool,↓iteB_true,↓iteB_false]
theorem call179 {e : Exts} (he : Quiet e) (n : Nat) (s : ByteArray) (hn : n < 2 ^ 40) (hs : s.size < 2 ^ 40) (me : FuncId) (d : Option Tmp) (H : Heap) : callA (Cx e) (lim (Cx e)) me 179 d [.v (.int .i64 n),.v (.string s)] H = some (.v (.int .i64 (longN n s)),H) :=
 (ansS179 n s hn hs).call (ext_179 he) (pure_179 _ _ _) rfl H
abbrev Ctx := Nat × Nat × Nat
def itC (x : Ctx) : List AV := [.agg [intA x.1,intA x.2.1,intA x.2.2]]
def innC (ws : Line) (w at_ b : Nat) : Nat → Nat → Nat → List Ctx
 | 0,_,_ => []
 | n + 1,a,L => let L' := if a = 0 then L else longN L (ws.getD (at_ + a) emp);if w < L' then [] else (b,a,L') :: innC ws w at_ b n (a + 1) L'
def outC (ws : Line) (w at_ : Nat) : Nat → Nat → Nat → List Ctx
 | 0,_,_ => []
 | n + 1,b,g => innC ws w at_ b (ws.length - at_) 0 (longN g (ws.getD (at_ - b) emp)) ++ outC ws w at_ n (b + 1) (longN g (ws.getD (at_ - b) emp))
def ctxs (ws : Line) (w at_ : Nat) : List Ctx := outC ws w at_ (at_ + 1) 0 0
theorem longN_le (n : Nat) (s : ByteArray) (k : Nat) (h : s.size < 1000) (hn : n ≤ k * 1001) : longN n s ≤ (k + 1) * 1001 := by unfold longN;split <;> omega
theorem yields2_178 {e : Exts} (he : Quiet e) (ws : Line) (hws : ∀ s ∈ ws,s.size < 1000) (hn : ws.length < 1000) (w : Nat) (_hw : w < 1000) (sd : Int) (P : AV) (at_ : Nat) (hat : at_ < ws.length) : Yields2 (Cx e) 178 [.ro (.agg [intA at_]) 0,.ro (.agg [intA w,.v (.int .u8 sd),.vs 1 (strs ws) none,P]) 0] ((ctxs ws w at_).map itC) := by
 intro l S R stp ok live n0 k hsrc s m H hok hlv hR hH hlk hsz
 have key : Fn' (Cx e) 178 [.yld l,.ro (.agg [intA at_]) 0,.ro (.agg [intA w,.v (.int .u8 sd),.vs 1 (strs ws) none,P]) 0] H fun v H' => v = .tup [] ∧ ∃ m',R (runIt stp ((ctxs ws w at_).map itC) s).2 m' ∧ Has m' H' ∧ Moves m H m' H' := by
  rw [fn_step (fn_178 e) (show Tryz.f178.body = some _ from rfl)]
  generalize hN : H.size = N at *
  have hwa := wrap_succ at_ (by omega)
  simp -implicitDefEqProofs only [Tryz.f178,go_sem,↓reduceIte,Int.reduceEq,Int.reduceLT,Int.reduceLE,List.reduceReplicate,intA,setT_nil,setT_cons,hN,settle_eqN hN,hwa,↓boolP_bool,↓iteB_true,↓iteB_false]
  refine Lp_rule (P := fun μ a H1 => ∃ b g s1 m1,b + μ = at_ + 1 ∧ g ≤ b * 1001 ∧ a = ⟨56,[(0,.yld l),(1,.ro (.agg [intA at_]) 0),(2,.ro (.agg [intA w,.v (.int .u8 sd),.vs 1 (strs ws) none,P]) 0),(4,intA g),(9,intA (at_ + 1 : Nat)),(10,intA b)],[]⟩ ∧ live s1 ∧ R s1 m1 ∧ Has m1 H1 ∧ Moves m H m1 H1 ∧ runIt stp ((ctxs ws w at_).map itC) s = runIt stp ((outC ws w at_ μ b g).map itC) s1 ∧ okRun stp ok ((outC ws w at_ μ b g).map itC) s1) ?_ (at_ + 1) _ _ ⟨0,0,s,m,by omega,by omega,rfl,hlv,hR,hH,Moves.refl _ _,rfl,hok⟩
  rintro μ _ H1 ⟨b,g,s1,m1,hb,hg,rfl,hlv1,hR1,hH1,hmv1,hrun1,hok1⟩
  have hlk1 : H1.lock = k := hmv1.lock.trans hlk
  have hsz1 : n0 ≤ H1.size := by have := hmv1.size;omega
  generalize hN1 : H1.size = N1 at *
  cases μ with
  | zero =>
   obtain rfl : b = at_ + 1 := by omega
   simp -implicitDefEqProofs only [go_sem,↓reduceIte,Int.reduceEq,Int.reduceLT,Int.reduceLE,List.reduceReplicate,intA,setT_nil,setT_cons,Int.lt_irrefl,hN1,settle_eqN hN1,trim_eqN hN1,↓boolP_bool,↓iteB_true,↓iteB_false]
   rw [hrun1]
   exact ⟨rfl,m1,hR1,hH1,hmv1⟩
  | succ μ =>
   have hbn : b ≤ at_ := by omega
   obtain ⟨x,hx⟩ := at_lt ws (at_ - b) (by omega)
   have hxs := hws x (List.mem_of_getElem? hx)
   have hxd : ws.getD (at_ - b) emp = x := by rw [List.getD_eq_getElem?_getD,hx];rfl
   have hlt : (b : Int) < ((at_ + 1 : Nat) : Int) := by omega
   have hw1 := wrap_succ b (by omega)
   have hw2 : IntKind.i64.wrap ((at_ : Int) - (b : Int)) = ((at_ - b : Nat) : Int) := by rw [← Int.ofNat_sub hbn];exact wrap_nat _ (by omega)
   have hw3 : IntKind.i64.wrap ((ws.length : Int) - (at_ : Int)) = ((ws.length - at_ : Nat) : Int) := by rw [← Int.ofNat_sub (by omega)];exact wrap_nat _ (by omega)
   have hlen := strs_len ws
   have hix := (show SlOf 1 (strs ws) (.vs 1 (strs ws) none) from Or.inr ⟨none,rfl⟩).idx (strs_get hx)
   have hsll := (show SlOf 1 (strs ws) (.vs 1 (strs ws) none) from Or.inr ⟨none,rfl⟩).len
   have h179 := call179 he g x (by omega) (by omega)
   have hkN : H1.lock ≤ N1 := by have := hsrc.klock;omega
   have hg1 := longN_le g x b hxs hg
   have hc : outC ws w at_ (μ + 1) b g = innC ws w at_ b (ws.length - at_) 0 (longN g x) ++ outC ws w at_ μ (b + 1) (longN g x) := by rw [outC,hxd]
   generalize longN g x = g1 at *
   simp -implicitDefEqProofs only [go_sem,↓reduceIte,Int.reduceEq,Int.reduceLT,Int.reduceLE,List.reduceReplicate,intA,setT_nil,setT_cons,hlt,hw1,hw2,hw3,hix,h179,hlen,hsll,hN1,settle_eqN hN1,trim_eqN hN1,↓boolP_bool,↓iteB_true,↓iteB_false]
   refine Lp_rule (P := fun μ2 a H2 => ∃ ia L s2 m2,ia + μ2 = ws.length - at_ ∧ L ≤ (b + 1 + ia) * 1001 ∧ a = ⟨56,[(0,.yld l),(1,.ro (.agg [intA at_]) 0),(2,.ro (.agg [intA w,.v (.int .u8 sd),.vs 1 (strs ws) none,P]) 0),(4,intA g1),(9,intA (at_ + 1 : Nat)),(10,intA b),(11,.v (.bool true)),(5,intA b),(6,intA L),(27,intA (ws.length - at_ : Nat)),(28,intA ia)],[]⟩ ∧ live s2 ∧ R s2 m2 ∧ Has m2 H2 ∧ Moves m1 H1 m2 H2 ∧ runIt stp ((ctxs ws w at_).map itC) s = runIt stp ((innC ws w at_ b μ2 ia L ++ outC ws w at_ μ (b + 1) g1).map itC) s2 ∧ okRun stp ok ((innC ws w at_ b μ2 ia L ++ outC ws w at_ μ (b + 1) g1).map itC) s2) ?_ (ws.length - at_) _ _ ⟨0,g1,s1,m1,by omega,by omega,rfl,hlv1,hR1,hH1,Moves.refl _ _,by rw [hrun1,hc],by rw [hc] at hok1;exact hok1⟩
   rintro μ2 _ H2 ⟨ia,L,s2,m2,hia,hL,rfl,hlv2,hR2,hH2,hmv2,hrun2,hok2⟩
   have hlk2 : H2.lock = k := hmv2.lock.trans hlk1
   have hsz2 : n0 ≤ H2.size := by have := hmv2.size;omega
   have hsz3 : N1 ≤ H2.size := by have := hmv2.size;omega
   have hmv12 : Moves m H m2 H2 := hmv1.trans hmv2
   have hout : ∀ (s' : S) (m' : Fm) (H' : Heap),live s' → R s' m' → Has m' H' → Moves m1 H1 m' H' → runIt stp ((ctxs ws w at_).map itC) s = runIt stp ((outC ws w at_ μ (b + 1) g1).map itC) s' → okRun stp ok ((outC ws w at_ μ (b + 1) g1).map itC) s' → ∀ vs,Has m' (H'.trim N1 vs []) ∧ Moves m H m' (H'.trim N1 vs []) := fun s' m' H' h1 h2 h3 h4 h5 h6 vs => ⟨h3.trim (hsrc.anch _ _ h2) hsz1 _ _,hmv1.trans (h4.trim _ _ hN1.symm)⟩
   generalize hN2 : H2.size = N2 at *
   cases μ2 with
   | zero =>
    obtain rfl : ia = ws.length - at_ := by omega
    simp -implicitDefEqProofs only [go_sem,↓reduceIte,Int.reduceEq,Int.reduceLT,Int.reduceLE,List.reduceReplicate,intA,setT_nil,setT_cons,Int.lt_irrefl,hw1,hN2,settle_eqN hN2,trim_eqN hN2,↓boolP_bool,↓iteB_true,↓iteB_false]
    obtain ⟨q1,q2⟩ := hout s2 m2 H2 hlv2 hR2 hH2 hmv2 hrun2 hok2 _
    exact ⟨μ,by omega,b + 1,g1,s2,m2,by omega,hg1,rfl,hlv2,hR2,q1,q2,hrun2,hok2⟩
   | succ μ2 =>
    have hlta : (ia : Int) < ((ws.length - at_ : Nat) : Int) := by omega
    have hwi := wrap_succ ia (by omega)
    obtain ⟨L2,hL2⟩ : ∃ L2,(if ia = 0 then L else longN L (ws.getD (at_ + ia) emp)) = L2 := ⟨_,rfl⟩
    have hL3 : L2 ≤ (b + 1 + ia + 1) * 1001 := by
     rw [← hL2]
     split
     ·omega
     ·obtain ⟨y,hy⟩ := at_lt ws (at_ + ia) (by omega)
      have hyd : ws.getD (at_ + ia) emp = y := by rw [List.getD_eq_getElem?_getD,hy];rfl
      rw [hyd]
      exact longN_le L y _ (hws y (List.mem_of_getElem? hy)) hL
    have hci : innC ws w at_ b (μ2 + 1) ia L = if w < L2 then [] else (b,ia,L2) :: innC ws w at_ b μ2 (ia + 1) L2 := by rw [innC];simp only [hL2]
    by_cases h0 : ia = 0
    ·have hgt : ¬ (ia : Int) > 0 := by omega
     obtain rfl : L = L2 := by rw [← hL2,if_pos h0]
     by_cases hwL : w < L
     ·have hwi2 : (L : Int) > (w : Int) := by omega
      rw [hci,if_pos hwL,List.nil_append] at hrun2 hok2
      simp -implicitDefEqProofs only [go_sem,↓reduceIte,Int.reduceEq,Int.reduceLT,Int.reduceLE,List.reduceReplicate,intA,setT_nil,setT_cons,hlta,hgt,hwi2,hw1,hN2,settle_eqN hN2,trim_eqN hN2,decide_true,decide_false,↓boolP_bool,↓iteB_true,↓iteB_false]
      obtain ⟨q1,q2⟩ := hout s2 m2 H2 hlv2 hR2 hH2 hmv2 hrun2 hok2 _
      exact ⟨μ,by omega,b + 1,g1,s2,m2,by omega,hg1,rfl,hlv2,hR2,q1,q2,hrun2,hok2⟩
     ·have hwi2 : ¬ (L : Int) > (w : Int) := by omega
      rw [hci,if_neg hwL,List.cons_append,List.map_cons] at hok2
      rw [hci,if_neg hwL,List.cons_append,List.map_cons,runIt_cons] at hrun2
      obtain ⟨H3,H4,m4,hr3,hr4,hR4,hH4,hmv4⟩ := hsrc.round' s2 m2 (itC (b,ia,L)) H2 hlv2 hok2.1 hR2 hH2 hlk2 (by omega)
      have hst := hsrc.step s2 (itC (b,ia,L)) hlv2 hok2.1
      rw [hN2] at hr4
      cases hb2 : (stp s2 (itC (b,ia,L))).1
      ·rw [hb2] at hr3 hrun2
       simp only [itC,intA] at hr3
       simp -implicitDefEqProofs only [go_sem,↓reduceIte,Int.reduceEq,Int.reduceLT,Int.reduceLE,List.reduceReplicate,intA,setT_nil,setT_cons,hlta,hgt,hwi2,hw1,hN2,settle_eqN hN2,trim_eqN hN2,hr3,hr4,decide_true,decide_false,Bool.not_false,↓boolP_bool,↓iteB_true,↓iteB_false]
       simp only [Bool.false_eq_true,if_false] at hrun2
       rw [hrun2]
       exact ⟨rfl,m4,hR4,hH4,hmv12.trans hmv4⟩
      ·rw [hb2] at hr3 hrun2
       simp only [itC,intA] at hr3
       simp -implicitDefEqProofs only [go_sem,↓reduceIte,Int.reduceEq,Int.reduceLT,Int.reduceLE,List.reduceReplicate,intA,setT_nil,setT_cons,hlta,hgt,hwi2,hw1,hwi,hN2,settle_eqN hN2,trim_eqN hN2,hr3,hr4,decide_true,decide_false,Bool.not_true,↓boolP_bool,↓iteB_true,↓iteB_false]
       simp only [if_true] at hrun2
       refine ⟨μ2,by omega,ia + 1,L,_,m4,by omega,by omega,rfl,hst hb2,hR4, ?_, ?_,hrun2,hok2.2 hb2⟩
       ·exact hH4.trim (hsrc.anch _ _ hR4) (by omega) _ _
       ·exact hmv2.trans (hmv4.trim _ _ hN2.symm)
    ·have hgt : (ia : Int) > 0 := by omega
     obtain ⟨y,hy⟩ := at_lt ws (at_ + ia) (by omega)
     have hys := hws y (List.mem_of_getElem? hy)
     have hyd : ws.getD (at_ + ia) emp = y := by rw [List.getD_eq_getElem?_getD,hy];rfl
     rw [if_neg h0,hyd] at hL2
     have hiy := (show SlOf 1 (strs ws) (.vs 1 (strs ws) none) from Or.inr ⟨none,rfl⟩).idx (strs_get hy)
     have hwy : IntKind.i64.wrap ((at_ : Int) + (ia : Int)) = ((at_ + ia : Nat) : Int) := by rw [← Int.natCast_add];exact wrap_nat _ (by omega)
     have hly := call179 he L y (by omega) (by omega)
     rw [hL2] at hly
     by_cases hwL : w < L2
     ·have hwi2 : (L2 : Int) > (w : Int) := by omega
      rw [hci,if_pos hwL,List.nil_append] at hrun2 hok2
      simp -implicitDefEqProofs only [go_sem,↓reduceIte,Int.reduceEq,Int.reduceLT,Int.reduceLE,List.reduceReplicate,intA,setT_nil,setT_cons,hlta,hgt,hwi2,hw1,hiy,hwy,hly,hN2,settle_eqN hN2,trim_eqN hN2,decide_true,decide_false,↓boolP_bool,↓iteB_true,↓iteB_false]
      obtain ⟨q1,q2⟩ := hout s2 m2 H2 hlv2 hR2 hH2 hmv2 hrun2 hok2 _
      exact ⟨μ,by omega,b + 1,g1,s2,m2,by omega,hg1,rfl,hlv2,hR2,q1,q2,hrun2,hok2⟩
     ·have hwi2 : ¬ (L2 : Int) > (w : Int) := by omega
      rw [hci,if_neg hwL,List.cons_append,List.map_cons] at hok2
      rw [hci,if_neg hwL,List.cons_append,List.map_cons,runIt_cons] at hrun2
      obtain ⟨H3,H4,m4,hr3,hr4,hR4,hH4,hmv4⟩ := hsrc.round' s2 m2 (itC (b,ia,L2)) H2 hlv2 hok2.1 hR2 hH2 hlk2 (by omega)
      have hst := hsrc.step s2 (itC (b,ia,L2)) hlv2 hok2.1
      rw [hN2] at hr4
      cases hb2 : (stp s2 (itC (b,ia,L2))).1
      ·rw [hb2] at hr3 hrun2
       simp only [itC,intA] at hr3
       simp -implicitDefEqProofs only [go_sem,↓reduceIte,Int.reduceEq,Int.reduceLT,Int.reduceLE,List.reduceReplicate,intA,setT_nil,setT_cons,hlta,hgt,hwi2,hw1,hiy,hwy,hly,hN2,settle_eqN hN2,trim_eqN hN2,hr3,hr4,decide_true,decide_false,Bool.not_false,↓boolP_bool,↓iteB_true,↓iteB_false]
       simp only [Bool.false_eq_true,if_false] at hrun2
       rw [hrun2]
       exact ⟨rfl,m4,hR4,hH4,hmv12.trans hmv4⟩
      ·rw [hb2] at hr3 hrun2
       simp only [itC,intA] at hr3
       simp -implicitDefEqProofs only [go_sem,↓reduceIte,Int.reduceEq,Int.reduceLT,Int.reduceLE,List.reduceReplicate,intA,setT_nil,setT_cons,hlta,hgt,hwi2,hw1,hwi,hiy,hwy,hly,hN2,settle_eqN hN2,trim_eqN hN2,hr3,hr4,decide_true,decide_false,Bool.not_true,↓boolP_bool,↓iteB_true,↓iteB_false]
       simp only [if_true] at hrun2
       refine ⟨μ2,by omega,ia + 1,L2,_,m4,by omega,by omega,rfl,hst hb2,hR4, ?_, ?_,hrun2,hok2.2 hb2⟩
       ·exact hH4.trim (hsrc.anch _ _ hR4) (by omega) _ _
       ·exact hmv2.trans (hmv4.trim _ _ hN2.symm)
 obtain ⟨v,H',h1,rfl,m',h2,h3,h4⟩ := fn_ex key
 exact ⟨H',m',h1,h2,h3,h4⟩
end Go.Ev
namespace Go.Ev
open Go.Proofs
attribute [local irreducible] Wp WpS
def ctxV (x : Ctx) : AV := .agg [intA x.1,intA x.2.1,intA x.2.2]
def unev (x : Ctx) : Nat := max (x.1 - x.2.1) (x.2.1 - x.1)
theorem ansS153 {e : Exts} (w : Int) (sd : Int) (ws : List AV) (ps : List AV) (at_ : Nat) : Ans (Cx e) 153 [.agg [intA w,.v (.int .u8 sd),.vs 1 ws none,.vs 3 ps none],intA at_] (.fn (.func 178) [] [.ro (.agg [intA at_]) 0,.ro (.agg [intA w,.v (.int .u8 sd),.vs 1 ws none,.vs 3 ps none]) 0]) := by
 unfold Ans
 rw [fn_step (fn_153 e) (show Tryz.f153.body = some _ from rfl)]
 simp -implicitDefEqProofs only [Tryz.f153,go_sem,↓reduceIte,Int.reduceEq,Int.reduceLT,Int.reduceLE,List.reduceReplicate,intA,setT_nil,setT_cons,↓boolP_bool,↓iteB_true,↓iteB_false]
 rfl
theorem ansS174 {e : Exts} (x y : Ctx) : Ans (Cx e) 174 [ctxV x,ctxV y] (.v (.bool (decide (y.1 < x.1)))) := by
 unfold Ans ctxV
 rw [fn_step (fn_174 e) (show Tryz.f174.body = some _ from rfl)]
 simp -implicitDefEqProofs only [Tryz.f174,go_sem,↓reduceIte,Int.reduceEq,Int.reduceLT,Int.reduceLE,List.reduceReplicate,intA,setT_nil,setT_cons,↓boolP_bool,↓iteB_true,↓iteB_false]
 rw [show decide ((x.1 : Int) > (y.1 : Int)) = decide (y.1 < x.1) by rw [decide_eq_decide];omega]
theorem ansS175 {e : Exts} (x y : Ctx) : Ans (Cx e) 175 [ctxV x,ctxV y] (.v (.bool (decide (x.1 < y.1)))) := by
 unfold Ans ctxV
 rw [fn_step (fn_175 e) (show Tryz.f175.body = some _ from rfl)]
 simp -implicitDefEqProofs only [Tryz.f175,go_sem,↓reduceIte,Int.reduceEq,Int.reduceLT,Int.reduceLE,List.reduceReplicate,intA,setT_nil,setT_cons,↓boolP_bool,↓iteB_true,↓iteB_false]
 rw [show decide ((x.1 : Int) < (y.1 : Int)) = decide (x.1 < y.1) by rw [decide_eq_decide];omega]
theorem max_two (x y : Int) : minmaxA true (.v (.int .i64 x)) [.v (.int .i64 y)] = some (.v (.int .i64 (max x y))) := by
 unfold minmaxA minmax2
 simp only [if_true]
 unfold minmaxA
 by_cases h : x < y
 ·simp only [gt_iff_lt,h,if_true]
  rw [Int.max_def,if_pos (by omega)]
 ·simp only [gt_iff_lt,h,if_false]
  rw [Int.max_def];split
  ·rw [show x = y by omega]
  ·rfl
theorem ansS177 {e : Exts} (x : Ctx) (h1 : x.1 < 2 ^ 40) (h2 : x.2.1 < 2 ^ 40) : Ans (Cx e) 177 [ctxV x] (intA (unev x)) := by
 unfold Ans ctxV
 rw [fn_step (fn_177 e) (show Tryz.f177.body = some _ from rfl)]
 have hw1 : IntKind.i64.wrap ((x.1 : Int) - (x.2.1 : Int)) = (x.1 : Int) - (x.2.1 : Int) := wrap_in _ (by omega) (by omega)
 have hw2 : IntKind.i64.wrap ((x.2.1 : Int) - (x.1 : Int)) = (x.2.1 : Int) - (x.1 : Int) := wrap_in _ (by omega) (by omega)
 simp -implicitDefEqProofs only [Tryz.f177,go_sem,↓reduceIte,Int.reduceEq,Int.reduceLT,Int.reduceLE,List.reduceReplicate,intA,setT_nil,setT_cons,hw1,hw2,max_two,↓boolP_bool,↓iteB_true,↓iteB_false]
 rw [show max ((x.1 : Int) - (x.2.1 : Int)) ((x.2.1 : Int) - (x.1 : Int)) = ((unev x : Nat) : Int) by unfold unev;omega]
theorem ansS151 {e : Exts} : Ans (Cx e) 151 [] (.agg [.v .nilFunc,.fn (.func 174) [] [],.fn (.func 175) [] [],.fn (.func 176) [] []]) := by
 unfold Ans
 rw [fn_step (fn_151 e) (show Tryz.f151.body = some _ from rfl)]
 simp -implicitDefEqProofs only [Tryz.f151,go_sem,↓reduceIte,Int.reduceEq,Int.reduceLT,Int.reduceLE,List.reduceReplicate,intA,setT_nil,setT_cons,↓boolP_bool,↓iteB_true,↓iteB_false]
 rfl
def aheadE (x y : Ctx) : Bool := if unev x = unev y then decide (x.1 < y.1) else decide (unev x < unev y)
theorem ansS176 {e : Exts} (he : Quiet e) (x y : Ctx) (h1 : x.1 < 2 ^ 40) (h2 : x.2.1 < 2 ^ 40) (h3 : y.1 < 2 ^ 40) (h4 : y.2.1 < 2 ^ 40) : Ans (Cx e) 176 [ctxV x,ctxV y] (.v (.bool (aheadE x y))) := by
 have cx := fun me d => (ansS177 (e := e) x h1 h2).callI (me := me) (d := d) (ext_177 he) (pure_177 _ _ _) rfl
 have cy := fun me d => (ansS177 (e := e) y h3 h4).callI (me := me) (d := d) (ext_177 he) (pure_177 _ _ _) rfl
 unfold Ans
 unfold ctxV intA at cx cy ⊢
 rw [fn_step (fn_176 e) (show Tryz.f176.body = some _ from rfl)]
 simp -implicitDefEqProofs only [Tryz.f176,go_sem,↓reduceIte,Int.reduceEq,Int.reduceLT,Int.reduceLE,List.reduceReplicate,intA,setT_nil,setT_cons,↓boolP_bool,↓iteB_true,↓iteB_false]
 refine wp_drawX [([],[],false),([],[],false),([0,1],[],false),([],[],false),([],[],false)] (by kernel_rfl) (by kernel_rfl) ?_
 by_cases h : unev x = unev y
 ·have hi : (unev x : Int) = (unev y : Int) := by omega
  have ha : aheadE x y = decide (x.1 < y.1) := by unfold aheadE;rw [if_pos h]
  simp -implicitDefEqProofs only [go_sem,↓reduceIte,Int.reduceEq,Int.reduceLT,Int.reduceLE,List.reduceReplicate,intA,setT_nil,setT_cons,cx,cy,hi,↓boolP_bool,↓iteB_true,↓iteB_false]
  rw [ha,show decide ((x.1 : Int) < (y.1 : Int)) = decide (x.1 < y.1) by rw [decide_eq_decide];omega]
 ·have hi : ¬ (unev x : Int) = (unev y : Int) := by omega
  have ha : aheadE x y = decide (unev x < unev y) := by unfold aheadE;rw [if_neg h]
  simp -implicitDefEqProofs only [go_sem,↓reduceIte,Int.reduceEq,Int.reduceLT,Int.reduceLE,List.reduceReplicate,intA,setT_nil,setT_cons,cx,cy,hi,decide_false,Bool.not_false,↓boolP_bool,↓iteB_true,↓iteB_false]
  refine wp_drawX [([],[],false),([],[],false),([0,1],[],false),([],[],false),([],[],false),([],[],false)] (by kernel_rfl) (by kernel_rfl) ?_
  simp -implicitDefEqProofs only [go_sem,↓reduceIte,Int.reduceEq,Int.reduceLT,Int.reduceLE,List.reduceReplicate,intA,setT_nil,setT_cons,cx,cy,hi,↓boolP_bool,↓iteB_true,↓iteB_false]
  rw [ha,show decide ((unev x : Int) < (unev y : Int)) = decide (unev x < unev y) by rw [decide_eq_decide];omega]
def aheadF (sd : Nat) (x y : Ctx) : Bool := if sd = 1 then decide (y.1 < x.1) else if sd = 2 then decide (x.1 < y.1) else aheadE x y
def aheadC (sd : Nat) (x y : Ctx) : Bool := if x.2.2 = y.2.2 then aheadF sd x y else decide (y.2.2 < x.2.2)
theorem callSd {e : Exts} (he : Quiet e) (sd : Nat) (h1 : 1 ≤ sd) (h2 : sd ≤ 3) (x y : Ctx) (hx1 : x.1 < 2 ^ 40) (hx2 : x.2.1 < 2 ^ 40) (hy1 : y.1 < 2 ^ 40) (hy2 : y.2.1 < 2 ^ 40) (me : FuncId) (d : Option Tmp) (H : Heap) : callA (Cx e) (lim (Cx e)) me (173 + sd) d [ctxV x,ctxV y] H = some (.v (.bool (aheadF sd x y)),H) := by
 obtain rfl | rfl | rfl : sd = 1 ∨ sd = 2 ∨ sd = 3 := by omega
 ·exact (ansS174 x y).call (ext_174 he) (pure_174 _ _ _) rfl H
 ·exact (ansS175 x y).call (ext_175 he) (pure_175 _ _ _) rfl H
 ·exact (ansS176 he x y hx1 hx2 hy1 hy2).call (ext_176 he) (pure_176 _ _ _) rfl H
theorem fn154 {e : Exts} {X : Heap} {N : Nat} (hN : X.size = N) (hlk : X.lock ≤ N) (f : FuncId) (x y : Ctx) (b : Bool) (q m : Nat) (hq : X.row q 0 = some (m,217,1,false,[.fn (.func f) [] []])) (hqN : q < N) (hcall : ∀ (me : FuncId) (d : Option Tmp) (H : Heap),callA (Cx e) (lim (Cx e)) me f d [ctxV x,ctxV y] H = some (.v (.bool b),H)) :
  Fn' (Cx e) 154 [ctxV x,ctxV y,.ptr q 0 0] X (fun v _ => v = .v (.bool (if x.2.2 = y.2.2 then b else decide (y.2.2 < x.2.2)))) := by
 unfold ctxV intA at hcall ⊢
 have hrq : ∀ E,(X.plus E).row q 0 = some (m,217,1,false,[.fn (.func f) [] []]) := fun E => by rw [rowLo (by omega)];exact hq
 rw [fn_step (fn_154 e) (show Tryz.f154.body = some _ from rfl),← plus_nil X]
 by_cases h : x.2.2 = y.2.2
 ·have hi : decide ((x.2.2 : Int) = (y.2.2 : Int)) = true := decide_eq_true (by omega)
  simp -implicitDefEqProofs only [Tryz.f154,go_sem,↓reduceIte,Int.reduceEq,Int.reduceLT,Int.reduceLE,List.reduceReplicate,intA,setT_nil,setT_cons,hi,hcall,hrq,if_pos h,Bool.not_true,sizeP hN,putP0 hN,putP hN,settleP0 hN,settleP hN,rowP0 hN,rowP hN,storeP0 hN hlk,storeP hN hlk,↓boolP_bool,↓iteB_true,↓iteB_false,List.length_nil,List.length_cons,Nat.add_zero]
  rfl
 ·have hi : ¬ (x.2.2 : Int) = (y.2.2 : Int) := by omega
  simp -implicitDefEqProofs only [Tryz.f154,go_sem,↓reduceIte,Int.reduceEq,Int.reduceLT,Int.reduceLE,List.reduceReplicate,intA,setT_nil,setT_cons,hi,hcall,hrq,if_neg h,decide_false,Bool.not_false,sizeP hN,putP0 hN,putP hN,settleP0 hN,settleP hN,rowP0 hN,rowP hN,storeP0 hN hlk,storeP hN hlk,↓boolP_bool,↓iteB_true,↓iteB_false,List.length_nil,List.length_cons,Nat.add_zero]
  rw [show decide ((y.2.2 : Int) < (x.2.2 : Int)) = decide (y.2.2 < x.2.2) by rw [decide_eq_decide];omega]
  rfl
theorem call154 {e : Exts} (he : Quiet e) {X : Heap} (sd : Nat) (h1 : 1 ≤ sd) (h2 : sd ≤ 3) (x y : Ctx) (hx1 : x.1 < 2 ^ 40) (hx2 : x.2.1 < 2 ^ 40) (hy1 : y.1 < 2 ^ 40) (hy2 : y.2.1 < 2 ^ 40) (q m : Nat) (hq : X.row q 0 = some (m,217,1,false,[.fn (.func (173 + sd)) [] []])) (hqN : q < X.size) (me : FuncId) (d : Option Tmp) : callA (Cx e) (lim (Cx e)) me 154 d [ctxV x,ctxV y,.ptr q 0 0] X = some (.v (.bool (aheadC sd x y)),X) := by
 refine callA_still (ext_154 he) (pure_154 _ _ _) rfl (fun h => ?_) ?_
 ·have h9 := boundL_le.1 (Nat.le_of_eq h) (.ptr q 0 0) (by simp)
  exact absurd h9 (by show ¬ q + 1 ≤ 0;omega)
 ·exact fn154 (X := { X with lock := X.size }) (N := X.size) rfl (Nat.le_refl _) (173 + sd) x y (aheadF sd x y) q m hq hqN fun me d H => callSd he sd h1 h2 x y hx1 hx2 hy1 hy2 me d H
end Go.Ev
namespace Go.Ev
open Go.Proofs
attribute [local irreducible] Wp WpS
def bsC : Option Ctx → List AV
 | none => [intA 0,intA 0,intA 0]
 | some y => [intA y.1,intA y.2.1,intA y.2.2]
theorem bsC_len (s : Option Ctx) : (bsC s).length = 3 := by cases s <;> rfl
theorem bsC_flat (s : Option Ctx) : (bsC s).all AV.flat = true := by cases s <;> rfl
theorem bsC_bd (s : Option Ctx) : boundL (bsC s) = 0 := by cases s <;> rfl
def nxC (sd : Nat) (s : Option Ctx) (c : Ctx) : Option Ctx := match s with | none => some c | some y => if aheadC sd c y then some c else some y
def deC (x : List AV) : Ctx := match x with | [.agg [.v (.int _ b),.v (.int _ a),.v (.int _ l)]] => (b.toNat,a.toNat,l.toNat) | _ => (0,0,0)
def smC (c : Ctx) : Prop := c.1 < 2 ^ 40 ∧ c.2.1 < 2 ^ 40
def okC (_ : Option Ctx) (x : List AV) : Prop := ∃ c : Ctx,x = itC c ∧ smC c
def lvC (s : Option Ctx) : Prop := ∀ y,s = some y → smC y
def stpC (sd : Nat) (s : Option Ctx) (x : List AV) : AExit × Option Ctx := (.normal,nxC sd s (deC x))
def R152 (sd q mq N : Nat) (s : Option Ctx) (m : Fm) : Prop := m = [(q,.cells 0 mq 217 1 false [.fn (.func (173 + sd)) [] []]),(N,.cells 0 (q + 1) 215 1 false [.fn (.func 154) [] [.ptr q 0 0]]),(N + 1,.cells 0 0 184 1 false [intA 0,intA 0,intA 0]),(N + 2,.cells 0 0 184 1 false (bsC s)),(N + 3,.cells 0 0 4 1 false [.v (.bool s.isSome)])]
theorem foldC (sd : Nat) : ∀ (l : List Ctx) (s : Option Ctx),foldE (stpC sd) (l.map itC) s = (.normal,l.foldl (nxC sd) s)
 | [],_ => rfl
 | c :: r,s => by
  rw [List.map_cons,foldE_go rfl]
  exact foldC sd r (nxC sd s c)
theorem okRunC (sd : Nat) : ∀ (l : List Ctx) (s : Option Ctx),(∀ c ∈ l,smC c) → okRun (fun s x => (isGo (stpC sd s x).1,(stpC sd s x).2)) okC (l.map itC) s
 | [],_,_ => trivial
 | c :: r,s,h => ⟨⟨c,rfl,h c (List.mem_cons_self ..)⟩,fun _ => okRunC sd r _ fun y hy => h y (List.mem_cons_of_mem _ hy)⟩
theorem nxC_sm {sd : Nat} {s : Option Ctx} {c : Ctx} (h1 : lvC s) (h2 : smC c) : lvC (nxC sd s c) := by
 intro y hy
 unfold nxC at hy
 cases s with
 | none => simp at hy;subst hy;exact h2
 | some z =>
  simp only at hy
  split at hy
  ·simp at hy;subst hy;exact h2
  ·exact h1 y hy
theorem bd2K_at {S : Type} (R : S → Fm → Prop) (d : Nat) (L' : ALoop) (m : Fm) (H : Heap) (p : AExit × S) (e : AExit) (a : AAct) (H' : Heap) : AtK (bd2K R d L' m H p) e a H' = (e = p.1 ∧ ∃ m',R p.2 m' ∧ Has m' H' ∧ loopObj H' (d + 1) = some L' ∧ Moves ((d + 1,.loop L') :: m) H ((d + 1,.loop L') :: m') H') := rfl
theorem fn152 {e : Exts} (he : Quiet e) (sd : Nat) (h1 : 1 ≤ sd) (h2 : sd ≤ 3) {X : Heap} {N : Nat} (hN : X.size = N) (hlk : X.lock = N) (q mq : Nat) (hq : X.get q = some (.cells 0 mq 217 1 false [.fn (.func (173 + sd)) [] []])) (hqN : q < N) (g : FuncId) (cap : List AV) (l : List Ctx) (hsm : ∀ c ∈ l,smC c) (hy : Yields2 (Cx e) g cap (l.map itC)) :
  Fn' (Cx e) 152 [.fn (.func g) [] cap,.fn (.func 154) [] [.ptr q 0 0]] X (fun v _ => v = .agg (bsC (l.foldl (nxC sd) none))) := by
 have hlkN : X.lock ≤ N := by omega
 rw [fn_step (fn_152 e) (show Tryz.f152.body = some _ from rfl),← plus_nil X]
 simp -implicitDefEqProofs only [Tryz.f152,go_sem,↓reduceIte,Int.reduceEq,Int.reduceLT,Int.reduceLE,List.reduceReplicate,intA,setT_nil,setT_cons,sizeP hN,putP0 hN,putP hN,settleP0 hN,settleP hN,rowP0 hN,rowP hN,storeP0 hN hlkN,storeP hN hlkN,↓boolP_bool,↓iteB_true,↓iteB_false,List.length_nil,List.length_cons,Nat.add_zero]
 have hN4 : ∀ a b c d : Option AObj,(X.plus [a,b,c,d]).size = N + 4 := fun a b c d => by rw [plus_size,hN];rfl
 refine wp_range2 hy rfl (R152 sd q mq N) (stpC sd) lvC okC (n0 := N + 4) (k := N) (by rw [hN4];exact Nat.le_refl _) (by rw [hN4];omega) (fun x hx => ?_) ?_ ?_ (fun s x hl hx _ => ?_) ?_ none _ (okRunC sd l none hsm) (fun y hy => nomatch hy) rfl ?_ hlk ?_
 ·obtain ⟨c, -,rfl⟩ := List.mem_map.1 hx
  rfl
 ·rintro s m rfl n hn ⟨p,hp,hpn⟩
  simp only [List.mem_cons,List.not_mem_nil,or_false] at hp
  rcases hp with rfl | rfl | rfl | rfl | rfl <;> simp only at hpn <;> omega
 ·rintro s m rfl
  rw [hN4]
  constructor
  ·rintro ⟨p,hp,he⟩
   simp only [List.mem_cons,List.not_mem_nil,or_false] at hp
   rcases hp with rfl | rfl | rfl | rfl | rfl <;> simp only at he <;> omega
  ·rintro ⟨p,hp,he⟩
   simp only [List.mem_cons,List.not_mem_nil,or_false] at hp
   rcases hp with rfl | rfl | rfl | rfl | rfl <;> simp only at he <;> omega
 ·obtain ⟨c,rfl,hc⟩ := hx
  exact nxC_sm hl hc
 ·rw [hN4]
  rintro L L' s m x H' - hlvs ⟨c,rfl,hc⟩ - rfl hHm hd0 hlo hlk' hsz'
  have g0 : H'.get q = some (.cells 0 mq 217 1 false [.fn (.func (173 + sd)) [] []]) := hHm (q,_) (by simp)
  have g1 : H'.get N = some (.cells 0 (q + 1) 215 1 false [.fn (.func 154) [] [.ptr q 0 0]]) := hHm (N,_) (by simp)
  have g2 : H'.get (N + 1) = some (.cells 0 0 184 1 false [intA 0,intA 0,intA 0]) := hHm (N + 1,_) (by simp)
  have g3 : H'.get (N + 2) = some (.cells 0 0 184 1 false (bsC s)) := hHm (N + 2,_) (by simp)
  have g4 : H'.get (N + 3) = some (.cells 0 0 4 1 false [.v (.bool s.isSome)]) := hHm (N + 3,_) (by simp)
  obtain ⟨N2,hN2⟩ : ∃ N2,H'.size = N2 := ⟨_,rfl⟩
  have hlk2 : H'.lock ≤ N2 := by omega
  rw [← plus_nil H']
  simp -implicitDefEqProofs only [go_sem,↓reduceIte,Int.reduceEq,Int.reduceLT,Int.reduceLE,List.reduceReplicate,intA,setT_nil,setT_cons,itC,List.zip_cons_cons,List.zip_nil_right,List.zip_nil_left,sizeP hN2,putP0 hN2,putP hN2,settleP0 hN2,settleP hN2,rowP0 hN2,rowP hN2,storeP0 hN2 hlk2,storeP hN2 hlk2,↓boolP_bool,↓iteB_true,↓iteB_false,List.length_nil,List.length_cons,Nat.add_zero]
  obtain ⟨E0,hE0⟩ : ∃ E0 : List (Option AObj),[some (.cells 0 0 184 1 false [.v (.int .i64 c.1),.v (.int .i64 c.2.1),.v (.int .i64 c.2.2)])] = E0 := ⟨_,rfl⟩
  have hlo1 : loopObj (H'.plus E0) (N + 4 + 1) = some L := get_loopObj ((plus_get _ (by omega)).trans (loopObj_getI hlo))
  rw [hE0,plus_nil]
  refine ⟨rfl,hlo1, ?_⟩
  obtain ⟨Y,hY⟩ : ∃ Y,(H'.plus E0).put (N + 4 + 1) (.loop L') = Y := ⟨_,rfl⟩
  have hszE : (H'.plus E0).size = N2 + 1 := by rw [plus_size,hN2,← hE0];rfl
  have hN3 : Y.size = N2 + 1 := by rw [← hY,put_sizeI _ (by omega)];exact hszE
  have hYg : ∀ b,b ≠ N + 4 + 1 → b < N2 → Y.get b = H'.get b := fun b hb hb2 => by rw [← hY,put_get_ne _ (by omega) hb];exact plus_get _ (by omega)
  have hYlk : Y.lock = N := by rw [← hY];exact hlk'
  have hlk3 : Y.lock ≤ N2 + 1 := by omega
  have hYL : Y.get (N + 4 + 1) = some (.loop L') := by rw [← hY];exact put_get_eq _ (by omega)
  have hYc : Y.get N2 = some (.cells 0 0 184 1 false [.v (.int .i64 c.1),.v (.int .i64 c.2.1),.v (.int .i64 c.2.2)]) := by rw [← hY,put_get_ne _ (by omega) (by omega),← hE0];exact plus_mid_get hN2 [] [] _
  have y0 := (hYg q (by omega) (by omega)).trans g0
  have y1 := (hYg N (by omega) (by omega)).trans g1
  have y2 := (hYg (N + 1) (by omega) (by omega)).trans g2
  have y3 := (hYg (N + 2) (by omega) (by omega)).trans g3
  have y4 := (hYg (N + 3) (by omega) (by omega)).trans g4
  have rw1 : ∀ F,(Y.plus F).row N 0 = some (q + 1,215,1,false,[.fn (.func 154) [] [.ptr q 0 0]]) := fun F => by rw [rowLo (by omega)];exact get_row y1
  have rw3 : ∀ F,(Y.plus F).row (N + 2) 0 = some (0,184,1,false,bsC s) := fun F => by rw [rowLo (by omega)];exact get_row y3
  have rw4 : ∀ F,(Y.plus F).row (N + 3) 0 = some (0,4,1,false,[.v (.bool s.isSome)]) := fun F => by rw [rowLo (by omega)];exact get_row y4
  have rwc : ∀ F,(Y.plus F).row N2 0 = some (0,184,1,false,[.v (.int .i64 c.1),.v (.int .i64 c.2.1),.v (.int .i64 c.2.2)]) := fun F => by rw [rowLo (by omega)];exact get_row hYc
  have h3r := rw3 []
  rw [plus_nil] at h3r
  have st3 := fun E => storeLo (X := Y) (b := N + 2) (xs := [.v (.int .i64 c.1),.v (.int .i64 c.2.1),.v (.int .i64 c.2.2)]) (by omega) (by omega) h3r (by rw [bsC_len];rfl) rfl E
  obtain ⟨W,hW⟩ : ∃ W,Y.put (N + 2) (.cells 0 (Nat.max 0 (boundL [.v (.int .i64 c.1),.v (.int .i64 c.2.1),.v (.int .i64 c.2.2)])) 184 1 false [.v (.int .i64 c.1),.v (.int .i64 c.2.1),.v (.int .i64 c.2.2)]) = W := ⟨_,rfl⟩
  rw [hW] at st3
  have hWs : W.size = N2 + 1 := by rw [← hW,put_sizeI _ (by omega)];exact hN3
  have hWl : W.lock = N := by rw [← hW];exact hYlk
  have hW3 : W.get (N + 2) = some (.cells 0 0 184 1 false [.v (.int .i64 c.1),.v (.int .i64 c.2.1),.v (.int .i64 c.2.2)]) := by rw [← hW];exact put_get_eq _ (by omega)
  have hWg : ∀ b,b ≠ N + 2 → W.get b = Y.get b := fun b hb => by rw [← hW];exact put_get_ne _ (by omega) hb
  have w4 := (hWg (N + 3) (by omega)).trans y4
  have st4 := fun E => storeLo (X := W) (b := N + 3) (xs := [.v (.bool true)]) (by omega) (by omega) (get_row w4) rfl rfl E
  obtain ⟨V,hV⟩ : ∃ V,W.put (N + 3) (.cells 0 (Nat.max 0 (boundL [.v (.bool true)])) 4 1 false [.v (.bool true)]) = V := ⟨_,rfl⟩
  rw [hV] at st4
  have hVs : V.size = N2 + 1 := by rw [← hV,put_sizeI _ (by omega)];exact hWs
  have hVl : V.lock = N := by rw [← hV];exact hWl
  have hV4 : V.get (N + 3) = some (.cells 0 0 4 1 false [.v (.bool true)]) := by rw [← hV];exact put_get_eq _ (by omega)
  have hVg : ∀ b,b ≠ N + 3 → V.get b = W.get b := fun b hb => by rw [← hV];exact put_get_ne _ (by omega) hb
  have hwl : W.lock ≤ N2 + 1 := by omega
  have hvl : V.lock ≤ N2 + 1 := by omega
  have fin : ∀ (Z : Heap) (s' : Option Ctx),Z.size = N2 + 1 → Z.lock = N → Z.get (N + 2) = some (.cells 0 0 184 1 false (bsC s')) → Z.get (N + 3) = some (.cells 0 0 4 1 false [.v (.bool s'.isSome)]) → (∀ b,b ≠ N + 2 → b ≠ N + 3 → Z.get b = Y.get b) →
    ∃ m',R152 sd q mq N s' m' ∧ Has m' Z ∧ loopObj Z (N + 4 + 1) = some L' ∧ Moves ((N + 4 + 1,.loop L') :: [(q,.cells 0 mq 217 1 false [.fn (.func (173 + sd)) [] []]),(N,.cells 0 (q + 1) 215 1 false [.fn (.func 154) [] [.ptr q 0 0]]),(N + 1,.cells 0 0 184 1 false [intA 0,intA 0,intA 0]),(N + 2,.cells 0 0 184 1 false (bsC s)),(N + 3,.cells 0 0 4 1 false [.v (.bool s.isSome)])]) H' ((N + 4 + 1,.loop L') :: m') Z := by
   intro Z s' z1 z2 z3 z4 z5
   refine ⟨_,rfl,fun p hp => ?_,get_loopObj ((z5 _ (by omega) (by omega)).trans hYL),by omega,by omega,fun b hb hnb => ?_,fun p hp => ?_⟩
   ·simp only [List.mem_cons,List.not_mem_nil,or_false] at hp
    rcases hp with rfl | rfl | rfl | rfl | rfl
    ·exact (z5 q (by omega) (by omega)).trans y0
    ·exact (z5 N (by omega) (by omega)).trans y1
    ·exact (z5 (N + 1) (by omega) (by omega)).trans y2
    ·exact z3
    ·exact z4
   ·have b1 : b ≠ N + 4 + 1 := fun he => hnb ⟨_,List.mem_cons_self ..,he.symm⟩
    have b2 : b ≠ N + 2 := fun he => hnb ⟨(N + 2,.cells 0 0 184 1 false (bsC s)),by simp,he.symm⟩
    have b3 : b ≠ N + 3 := fun he => hnb ⟨(N + 3,.cells 0 0 4 1 false [.v (.bool s.isSome)]),by simp,he.symm⟩
    rw [z5 b b2 b3,hYg b b1 (by omega)]
   ·left
    simp only [List.mem_cons,List.not_mem_nil,or_false] at hp
    rcases hp with rfl | rfl | rfl | rfl | rfl | rfl
    ·exact ⟨_,List.mem_cons_self ..,rfl⟩
    ·exact ⟨(q,.cells 0 mq 217 1 false [.fn (.func (173 + sd)) [] []]),by simp,rfl⟩
    ·exact ⟨(N,.cells 0 (q + 1) 215 1 false [.fn (.func 154) [] [.ptr q 0 0]]),by simp,rfl⟩
    ·exact ⟨(N + 1,.cells 0 0 184 1 false [intA 0,intA 0,intA 0]),by simp,rfl⟩
    ·exact ⟨(N + 2,.cells 0 0 184 1 false (bsC s)),by simp,rfl⟩
    ·exact ⟨(N + 3,.cells 0 0 4 1 false [.v (.bool s.isSome)]),by simp,rfl⟩
  have vo : ∀ b,b ≠ N + 2 → b ≠ N + 3 → V.get b = Y.get b := fun b b2 b3 => (hVg b b3).trans (hWg b b2)
  have v3 := (hVg (N + 2) (by omega)).trans hW3
  rw [hY,← plus_nil Y]
  cases s with
  | none =>
   simp only [Option.isSome_none] at rw4
   simp -implicitDefEqProofs only [go_sem,↓reduceIte,Int.reduceEq,Int.reduceLT,Int.reduceLE,List.reduceReplicate,intA,setT_nil,setT_cons,rw1,rw3,rw4,rwc,st3,st4,Bool.not_false,sizeP hN3,putP0 hN3,putP hN3,settleP0 hN3,settleP hN3,rowP0 hN3,rowP hN3,storeP0 hN3 hlk3,storeP hN3 hlk3,settleP0 hVs,settleP hVs,↓boolP_bool,↓iteB_true,↓iteB_false,List.length_nil,List.length_cons,Nat.add_zero,bd2K_at]
   rw [plus_nil]
   exact ⟨rfl,fin V (some c) hVs hVl v3 hV4 vo⟩
  | some y =>
   have h154 := fun me d E => call154 he (X := Y.plus E) sd h1 h2 c y hc.1 hc.2 (hlvs y rfl).1 (hlvs y rfl).2 q mq (by rw [rowLo (by omega)];exact get_row y0) (by rw [plus_size];omega) me d
   simp only [Option.isSome_some] at rw4
   unfold ctxV intA at h154
   cases ha : aheadC sd c y with
   | true =>
    simp only [bsC] at rw3
    simp -implicitDefEqProofs only [go_sem,↓reduceIte,Int.reduceEq,Int.reduceLT,Int.reduceLE,List.reduceReplicate,intA,setT_nil,setT_cons,rw1,rw3,rw4,rwc,st3,st4,h154,ha,Bool.not_true,sizeP hN3,putP0 hN3,putP hN3,settleP0 hN3,settleP hN3,rowP0 hN3,rowP hN3,storeP0 hN3 hlk3,storeP hN3 hlk3,settleP0 hVs,settleP hVs,↓boolP_bool,↓iteB_true,↓iteB_false,List.length_nil,List.length_cons,Nat.add_zero,bd2K_at]
    rw [plus_nil]
    have hnx : nxC sd (some y) c = some c := by unfold nxC;simp only [ha,if_true]
    refine ⟨rfl, ?_⟩
    show ∃ m',R152 sd q mq N (nxC sd (some y) c) m' ∧ _
    rw [hnx]
    exact fin V (some c) hVs hVl v3 hV4 vo
   | false =>
    simp only [bsC] at rw3
    simp -implicitDefEqProofs only [go_sem,↓reduceIte,Int.reduceEq,Int.reduceLT,Int.reduceLE,List.reduceReplicate,intA,setT_nil,setT_cons,rw1,rw3,rw4,rwc,st3,st4,h154,ha,Bool.not_true,sizeP hN3,putP0 hN3,putP hN3,settleP0 hN3,settleP hN3,rowP0 hN3,rowP hN3,storeP0 hN3 hlk3,storeP hN3 hlk3,settleP0 hVs,settleP hVs,↓boolP_bool,↓iteB_true,↓iteB_false,List.length_nil,List.length_cons,Nat.add_zero,bd2K_at]
    rw [plus_nil]
    have hnx : nxC sd (some y) c = some y := by unfold nxC;simp only [ha];rfl
    refine ⟨rfl, ?_⟩
    show ∃ m',R152 sd q mq N (nxC sd (some y) c) m' ∧ _
    rw [hnx]
    exact fin Y (some y) hN3 hYlk y3 y4 (fun _ _ _ => rfl)
 ·intro p hp
  simp only [List.mem_cons,List.not_mem_nil,or_false] at hp
  rcases hp with rfl | rfl | rfl | rfl | rfl
  ·rw [plus_get _ (by omega)];exact hq
  ·exact plus_mid_get hN [] _ _
  ·exact plus_mid_get hN [_] _ _
  ·exact plus_mid_get hN [_,_] _ _
  ·exact plus_mid_get hN [_,_,_] _ _
 ·rw [hN4,foldC]
  rintro m' H' rfl hHm hd hdd hmv hsz'
  generalize l.foldl (nxC sd) none = s at *
  have g2 : H'.get (N + 1) = some (.cells 0 0 184 1 false [intA 0,intA 0,intA 0]) := hHm (N + 1,_) (by simp)
  have g3 : H'.get (N + 2) = some (.cells 0 0 184 1 false (bsC s)) := hHm (N + 2,_) (by simp)
  obtain ⟨N2,hN2⟩ : ∃ N2,H'.size = N2 := ⟨_,rfl⟩
  have hl' : H'.lock = N := by rw [hmv.lock];exact hlk
  have hlk2 : H'.lock ≤ N2 := by omega
  have r3 : ∀ F,(H'.plus F).row (N + 2) 0 = some (0,184,1,false,bsC s) := fun F => by rw [rowLo (by omega)];exact get_row g3
  have st2 := fun E => storeLo (X := H') (b := N + 1) (xs := bsC s) (by omega) (by omega) (get_row g2) (by rw [bsC_len];rfl) (bsC_flat s) E
  obtain ⟨W,hW⟩ : ∃ W,H'.put (N + 1) (.cells 0 (Nat.max 0 (boundL (bsC s))) 184 1 false (bsC s)) = W := ⟨_,rfl⟩
  rw [hW] at st2
  have hWs : W.size = N2 := by rw [← hW,put_sizeI _ (by omega)];exact hN2
  have hWl : W.lock = N := by rw [← hW];exact hl'
  have hW2 : ∀ F,(W.plus F).row (N + 1) 0 = some (0,184,1,false,bsC s) := fun F => by
   rw [rowLo (by omega)]
   have := put_get_eq (H := H') (b := N + 1) (.cells 0 (Nat.max 0 (boundL (bsC s))) 184 1 false (bsC s)) (by omega)
   rw [hW,bsC_bd] at this
   exact get_row this
  have hWd : W.get (N + 4) = some .dfr := by rw [← hW,put_get_ne _ (by omega) (by omega)];exact hd
  have hkill : ∀ F,killAll [N + 4] (W.plus F) = some ((W.plus F).put (N + 4) .dead) := fun F => by
   unfold killAll
   rw [plus_get _ (by omega),hWd]
   simp only
   rw [if_pos (by rw [plus_lock];omega)]
   unfold killAll;rfl
  have hWk : ∀ F,((W.plus F).put (N + 4) .dead).row (N + 1) 0 = some (0,184,1,false,bsC s) := fun F => by
   have h9 := Heap.row_get (hW2 F)
   exact get_row ((put_get_ne _ (by rw [plus_size];omega) (by omega)).trans h9)
  have hl3 := bsC_len s
  have hfl := bsC_flat s
  have hagg : ∀ k : Nat,partOf Tryz.prog 184 (bsC s) 0 = some (.agg (bsC s)) := fun _ => by
   rw [part_184,hl3,if_pos (by omega),List.drop_zero,List.take_of_length_le (by omega)]
  rw [← plus_nil H']
  simp -implicitDefEqProofs only [go_sem,↓reduceIte,Int.reduceEq,Int.reduceLT,Int.reduceLE,List.reduceReplicate,intA,setT_nil,setT_cons,r3,st2,hW2,hl3,hfl,hagg 0,sizeP hN2,putP0 hN2,putP hN2,settleP0 hN2,settleP hN2,rowP0 hN2,rowP hN2,storeP0 hN2 hlk2,storeP hN2 hlk2,settleP0 hWs,settleP hWs,hkill,hWk,↓boolP_bool,↓iteB_true,↓iteB_false,List.length_nil,List.length_cons,Nat.add_zero]
  rfl
theorem callA_stillV {C : Cfg} {me f : FuncId} {d : Option Tmp} {args : List AV} {X : Heap} {w : AV} (hx : C.ext f = none) (hp : C.pure me f d = true) (hy : args.any isYld = false) (hb : boundL args ≠ 0) (hz : ∀ H,freezeV H 1000000 w = some w)
  (h2 : Fn' C f args { X with lock := X.size } (fun v _ => v = w)) (hh : C.exh f = none := by rfl) : callA C (lim C) me f d args X = some (w,X) := by
 rw [callA_none hx hh];unfold callB callKind
 simp only [hp,if_true]
 unfold Fn' at h2
 rw [bindO_iff] at h2
 obtain ⟨o,h3,h4⟩ := h2
 rw [if_neg (fun h => hb (Nat.eq_of_beq_eq_true h)),hy]
 simp only [Bool.false_eq_true,if_false]
 cases o with
 | ret v H => obtain rfl : v = w := h4;simp only [h3,hz];rfl
 | _ => exact h4.elim
theorem bsC_fz (s : Option Ctx) (H : Heap) : freezeV H 1000000 (.agg (bsC s)) = some (.agg (bsC s)) := by cases s <;> rfl
def bestC (sd : Nat) (l : List Ctx) : Option Ctx := l.foldl (nxC sd) none
theorem innC_sm (ws : Line) (w at_ b : Nat) (hb : b < 2 ^ 30) : ∀ (n a L : Nat),a + n < 2 ^ 30 → ∀ c ∈ innC ws w at_ b n a L,smC c
 | 0,_,_,_,_,hc => by simp [innC] at hc
 | n + 1,a,L,h,c,hc => by
  rw [innC] at hc
  generalize (if a = 0 then L else longN L (ws.getD (at_ + a) emp)) = L' at hc
  split at hc
  ·simp at hc
  ·rcases List.mem_cons.1 hc with rfl | hc
   ·exact ⟨by show b < _;omega,by show a < _;omega⟩
   ·exact innC_sm ws w at_ b hb n (a + 1) L' (by omega) c hc
theorem outC_sm (ws : Line) (w at_ : Nat) (hn : ws.length < 1000) : ∀ (n b g : Nat),b + n < 2 ^ 30 → ∀ c ∈ outC ws w at_ n b g,smC c
 | 0,_,_,_,c,hc => by simp [outC] at hc
 | n + 1,b,g,h,c,hc => by
  rw [outC] at hc
  rcases List.mem_append.1 hc with hc | hc
  ·exact innC_sm ws w at_ b (by omega) _ _ _ (by omega) c hc
  ·exact outC_sm ws w at_ hn n (b + 1) _ (by omega) c hc
theorem idx218_1 : indexA Tryz.prog 218 (.agg [.v .nilFunc,.fn (.func 174) [] [],.fn (.func 175) [] [],.fn (.func 176) [] []]) (.v (.int .u8 1)) = some (.agg [.fn (.func 174) [] []]) := by kernel_rfl
theorem idx218_2 : indexA Tryz.prog 218 (.agg [.v .nilFunc,.fn (.func 174) [] [],.fn (.func 175) [] [],.fn (.func 176) [] []]) (.v (.int .u8 2)) = some (.agg [.fn (.func 175) [] []]) := by kernel_rfl
theorem idx218_3 : indexA Tryz.prog 218 (.agg [.v .nilFunc,.fn (.func 174) [] [],.fn (.func 175) [] [],.fn (.func 176) [] []]) (.v (.int .u8 3)) = some (.agg [.fn (.func 176) [] []]) := by kernel_rfl
theorem idx218 (sd : Nat) (h1 : 1 ≤ sd) (h2 : sd ≤ 3) : indexA Tryz.prog 218 (.agg [.v .nilFunc,.fn (.func 174) [] [],.fn (.func 175) [] [],.fn (.func 176) [] []]) (.v (.int .u8 sd)) = some (.agg [.fn (.func (173 + sd)) [] []]) := by
 obtain h | h | h : sd = 1 ∨ sd = 2 ∨ sd = 3 := by omega
 ·rw [h];exact idx218_1
 ·rw [h];exact idx218_2
 ·rw [h];exact idx218_3
theorem ansS126 {e : Exts} (he : Quiet e) (ws : Line) (hws : ∀ s ∈ ws,s.size < 1000) (hn : ws.length < 1000) (w : Nat) (hw : w < 1000) (sd : Nat) (h1 : 1 ≤ sd) (h2 : sd ≤ 3) (ps : List AV) (at_ : Nat) (hat : at_ < ws.length) : Ans (Cx e) 126 [.agg [intA w,.v (.int .u8 sd),.vs 1 (strs ws) none,.vs 3 ps none],intA at_] (.agg (bsC (bestC sd (ctxs ws w at_)))) := by
 have c151 := fun me d => (ansS151 (e := e)).callI (me := me) (d := d) (ext_151 he) (pure_151 _ _ _) rfl
 have c153 := fun me d H => (ansS153 (e := e) w sd (strs ws) ps at_).call (me := me) (d := d) (ext_153 he) (pure_153 _ _ _) rfl H
 have hyl := yields2_178 he ws hws hn w hw sd (.vs 3 ps none) at_ hat
 have hsm := outC_sm ws w at_ hn (at_ + 1) 0 0 (by omega)
 have c152 := fun (X : Heap) (mq : Nat) (hq : X.get 7 = some (.cells 0 mq 217 1 false [.fn (.func (173 + sd)) [] []])) (hX : 7 < X.size) me d => callA_stillV (C := Cx e) (me := me) (d := d) (f := 152) (X := X) (ext_152 he) (pure_152 _ _ _) (by rfl) (by simp [boundL,bound]) (bsC_fz (bestC sd (ctxs ws w at_))) (fn152 he sd h1 h2 (X := { X with lock := X.size }) (N := X.size) rfl rfl 7 mq hq hX 178 _ _ hsm hyl)
 unfold intA at c153 c152
 unfold Ans
 rw [fn_step (fn_126 e) (show Tryz.f126.body = some _ from rfl)]
 have hix := idx218 sd h1 h2
 generalize bestC sd (ctxs ws w at_) = s at *
 have hl3 := bsC_len s
 have hfl := bsC_flat s
 have hbd := bsC_bd s
 have hagg : partOf Tryz.prog 184 (bsC s) 0 = some (.agg (bsC s)) := by
  rw [part_184,hl3,if_pos (by omega),List.drop_zero,List.take_of_length_le (by omega)]
 simp -implicitDefEqProofs only [Tryz.f126,go_sem,↓reduceIte,Int.reduceEq,Int.reduceLT,Int.reduceLE,List.reduceReplicate,intA,setT_nil,setT_cons,↓boolP_bool,↓iteB_true,↓iteB_false]
 refine wp_drawX [([],[],false),([],[],false),([],[],false),([0],[],false),([],[],false),([0,3],[],false),([],[5],false)] (by kernel_rfl) (by kernel_rfl) ?_
 simp -implicitDefEqProofs only [go_sem,↓reduceIte,Int.reduceEq,Int.reduceLT,Int.reduceLE,List.reduceReplicate,intA,setT_nil,setT_cons,c151,c153,hix,hl3,hfl,hagg,↓boolP_bool,↓iteB_true,↓iteB_false]
 rw [c152 _ 0 rfl (by show 7 < 9;omega)]
 simp -implicitDefEqProofs only [go_sem,↓reduceIte,Int.reduceEq,Int.reduceLT,Int.reduceLE,List.reduceReplicate,intA,setT_nil,setT_cons,hl3,hfl,hagg,↓boolP_bool,↓iteB_true,↓iteB_false]
 exact bsC_fz s _
end Go.Ev
namespace Go.Ev
def idxB (c : Nat) : Int → List UInt8 → Int
 | _,[] => -1
 | i,b :: r => if Nat.beq b.toNat c then i else idxB c (i + 1) r
theorem idxB_eq (c : UInt8) : ∀ (l : List UInt8) (i : Int),idxB c.toNat i l = if Lib.indexByte l c = -1 then -1 else Lib.indexByte l c + i
 | [],i => by simp [idxB,Lib.indexByte]
 | b :: l,i => by
  unfold idxB Lib.indexByte
  by_cases h : b = c
  ·subst h
   have h1 : Nat.beq b.toNat b.toNat = true := Nat.beq_refl _
   simp
  ·have h1 : Nat.beq b.toNat c.toNat = false := by
    cases hb : Nat.beq b.toNat c.toNat
    ·rfl
    ·exact absurd (UInt8.toNat_inj.1 (Nat.eq_of_beq_eq_true hb)) h
   have hge := Lib.indexByte_ge l c
   rw [h1,idxB_eq c l (i + 1)]
   simp only [Bool.false_eq_true,if_false,beq_iff_eq,h]
   by_cases h2 : Lib.indexByte l c = -1
   ·simp [h2]
   ·simp only [h2,if_false]
    rw [if_neg (by omega)];omega
def idxStr : List AV → Option AV
 | [.v (.string s),.v (.int .u8 c)] => if 0 ≤ c ∧ c < 256 then some (.v (.int .i64 (idxB c.toNat 0 s.data.toList))) else none
 | _ => none
theorem ext_idx {P : Program} {f : FuncId} {fn : Func} (hf : P.funcs[f]? = some fn) (hb : fn.body = none) (hn : (fn.name == "runtime.NumGoroutine") = false) (h1 : (Extern.findNext fn).isNone = true) (h2 : Extern.find fn = some Extern.BytealgIndexByte.indexByte)
  {args : List AV} {v : AV} (h : idxStr args = some v) (Z : Fzn) (ρ : Pls) (H : Heap) (w : World) (vals : List Value) (hs : Sim Z ρ H w) (hl : RepL Z ρ args vals) : FnMeets P f vals w (After Z ρ H w v H) := by
 unfold idxStr at h
 split at h
 ·rename_i s c
  split at h
  ·rename_i hc
   obtain ⟨v1,ws,rfl,hv1,hl⟩ := hl.uncons
   obtain ⟨v2,ws,rfl,hv2,hl⟩ := hl.uncons
   have : ws = [] := List.length_eq_zero_iff.1 hl.1.symm
   subst this
   obtain ⟨rfl, -⟩ := hv1.v_inv
   obtain ⟨rfl, -⟩ := hv2.v_inv
   simp only [Option.some.injEq] at h
   subst h
   refine Or.inl ⟨.int .i64 (Lib.indexByte s.data.toList c.toNat.toUInt8),w, ?_,Z,ρ, ?_,hs,Ext.refl _ _ _ _⟩
   ·have hfn : Extern.findNext fn = none := Option.isNone_iff_eq_none.1 h1
    have := Lib.run_indexByteString (P := P) s c w
    have hn' : ¬ fn.name = "runtime.NumGoroutine" := by
     intro e;rw [e] at hn;simp at hn
    simp [callFunc,hf,hn',hb,hfn,h2,this]
   ·have hcn : c.toNat.toUInt8.toNat = c.toNat := by
     have : c.toNat < 256 := by omega
     simp [Nat.toUInt8,Nat.mod_eq_of_lt this]
    have := idxB_eq c.toNat.toUInt8 s.data.toList 0
    rw [hcn] at this
    have e : idxB c.toNat 0 s.data.toList = Lib.indexByte s.data.toList c.toNat.toUInt8 := by
     rw [this];split
     ·rename_i h;exact h.symm
     ·omega
    rw [e];exact .v rfl
  ·cases h
 ·cases h
end Go.Ev
