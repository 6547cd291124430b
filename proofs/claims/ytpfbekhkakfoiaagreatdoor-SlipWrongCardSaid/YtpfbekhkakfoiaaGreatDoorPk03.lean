/- What the proof of this claim stands on, part 4: an evaluator of the model, proved right, and what it answers for functions of the program. -/
import Derived.Test.YtpfbekhkakfoiaaGreatDoorPk02
import Derived.WalkKit
import Derived.Shelf.Strings.OnBuilder
set_option maxHeartbeats 8000000
set_option maxRecDepth 1000000
set_option linter.unusedSimpArgs false
namespace Go.Ev
abbrev Fm := List (Nat × AObj)
def Has (m : Fm) (H : Heap) : Prop := ∀ p ∈ m,H.get p.1 = some p.2
def keyIn (b : Nat) (m : Fm) : Prop := ∃ p ∈ m,p.1 = b
def Anch (n0 : Nat) (m : Fm) : Prop := ∀ n,n0 ≤ n → (∃ p ∈ m,n ≤ p.1) → ∃ p ∈ m,p.1 < n ∧ n < p.2.bound
structure Moves (m : Fm) (H : Heap) (m' : Fm) (H' : Heap) : Prop where
 lock : H'.lock = H.lock
 size : H.size ≤ H'.size
 same : ∀ b,b < H.size → ¬ keyIn b m → H'.get b = H.get b
 keys : ∀ p ∈ m',keyIn p.1 m ∨ H.size ≤ p.1
theorem boundsOk_getI {n : Nat} : ∀ {l : List (Option AObj)} {b : Nat} {o : AObj},boundsOk n l = true → l[b]? = some (some o) → o.bound ≤ n
 | [],b,o,_,h => by simp at h
 | none :: r,0,o,_,h => by simp at h
 | none :: r,b + 1,o,hb,h => boundsOk_getI (l := r) (b := b) (by simpa [boundsOk] using hb) (by simpa using h)
 | some x :: r,0,o,hb,h => by
  simp at h;subst h
  simp only [boundsOk,Bool.and_eq_true] at hb
  exact Nat.le_of_ble_eq_true hb.1
 | some x :: r,b + 1,o,hb,h => by
  simp only [boundsOk,Bool.and_eq_true] at hb
  exact boundsOk_getI (l := r) (b := b) hb.2 (by simpa using h)
theorem trim_cases (H : Heap) (n : Nat) (vs : List AV) (ms : List Nat) : H.trim n vs ms = H ∨ (H.trim n vs ms = { H with objs := H.objs.take n } ∧ boundsOk n (H.objs.take n) = true) := by
 unfold Heap.trim
 split
 ·rename_i h
  simp only [Bool.and_eq_true] at h
  exact Or.inr ⟨rfl,h.1.2⟩
 ·exact Or.inl rfl
theorem take_get {H : Heap} {n b : Nat} (h : b < n) : (Heap.mk (H.objs.take n) H.lock).get b = H.get b := by
 unfold Heap.get;simp only;rw [List.getElem?_take,if_pos h]
theorem get_objs {H : Heap} {b : Nat} {o : AObj} (h : H.get b = some o) : H.objs[b]? = some (some o) := by
 unfold Heap.get at h
 cases hb : H.objs[b]? with
 | none => rw [hb] at h;cases h
 | some x => rw [hb] at h;cases x with
  | none => cases h
  | some y => cases h;rfl
theorem Has.trim {m : Fm} {H : Heap} {n0 n : Nat} (h : Has m H) (ha : Anch n0 m) (hn : n0 ≤ n) (vs : List AV) (ms : List Nat) : Has m (H.trim n vs ms) := by
 rcases trim_cases H n vs ms with h1 | ⟨h1,h2⟩
 ·rw [h1];exact h
 ·rw [h1]
  have key : ∀ p ∈ m,p.1 < n := by
   intro p hp
   rcases Nat.lt_or_ge p.1 n with hlt | hge
   ·exact hlt
   ·obtain ⟨q,hq,hq1,hq2⟩ := ha n hn ⟨p,hp,hge⟩
    have := boundsOk_getI h2 (b := q.1) (o := q.2) (by rw [List.getElem?_take,if_pos hq1];exact get_objs (h q hq))
    omega
  intro p hp
  show (Heap.mk (H.objs.take n) H.lock).get p.1 = _
  rw [take_get (key p hp)];exact h p hp
theorem Has.settle {m : Fm} {H : Heap} (h : Has m H) (n : Nat) : Has m (settleH n H) := by
 unfold settleH
 split
 ·rename_i hn
  have key : ∀ p ∈ m,p.1 < n := by
   intro p hp
   rcases Nat.lt_or_ge p.1 n with hlt | hge
   ·exact hlt
   ·have h1 := get_objs (h p hp)
    have h2 : (H.objs.drop n)[p.1 - n]? = some (some p.2) := by rw [List.getElem?_drop,show n + (p.1 - n) = p.1 by omega];exact h1
    have := List.all_eq_true.1 hn _ (List.mem_of_getElem? h2)
    simp at this
  intro p hp
  show (Heap.mk (H.objs.take n) H.lock).get p.1 = _
  rw [take_get (key p hp)];exact h p hp
 ·exact h
theorem Moves.refl (m : Fm) (H : Heap) : Moves m H m H := ⟨rfl,Nat.le_refl _,fun _ _ _ => rfl,fun p hp => Or.inl ⟨p,hp,rfl⟩⟩
theorem Moves.trans {m m' m'' : Fm} {H H' H'' : Heap} (h : Moves m H m' H') (k : Moves m' H' m'' H'') : Moves m H m'' H'' := by
 refine ⟨k.lock.trans h.lock,Nat.le_trans h.size k.size,fun b hb hm => ?_,fun p hp => ?_⟩
 ·have h1 : ¬ keyIn b m' := by
   rintro ⟨p,hp,rfl⟩
   rcases h.keys p hp with h2 | h2
   ·exact hm h2
   ·omega
  rw [k.same b (Nat.lt_of_lt_of_le hb h.size) h1,h.same b hb hm]
 ·rcases k.keys p hp with ⟨q,hq,he⟩ | h2
  ·rcases h.keys q hq with h3 | h3
   ·exact Or.inl (he ▸ h3)
   ·exact Or.inr (he ▸ h3)
  ·exact Or.inr (Nat.le_trans h.size h2)
theorem Moves.trim {m m' : Fm} {H H' : Heap} (h : Moves m H m' H') (vs : List AV) (ms : List Nat) {n : Nat} (hn : n = H.size) : Moves m H m' (H'.trim n vs ms) := by
 subst hn
 rcases trim_cases H' H.size vs ms with h1 | ⟨h1, -⟩
 ·rw [h1];exact h
 ·rw [h1]
  refine ⟨h.lock, ?_,fun b hb hm => ?_,h.keys⟩
  ·show H.size ≤ (H'.objs.take H.size).length
   have := h.size
   rw [List.length_take];unfold Heap.size at *;omega
  ·show (Heap.mk (H'.objs.take H.size) H'.lock).get b = _
   rw [take_get hb];exact h.same b hb hm
theorem Moves.settle {m m' : Fm} {H H' : Heap} (h : Moves m H m' H') {n : Nat} (hn : n = H.size) : Moves m H m' (settleH n H') := by
 subst hn
 unfold settleH
 split
 ·refine ⟨h.lock, ?_,fun b hb hm => ?_,h.keys⟩
  ·show H.size ≤ (H'.objs.take H.size).length
   have := h.size
   rw [List.length_take];unfold Heap.size at *;omega
  ·show (Heap.mk (H'.objs.take H.size) H'.lock).get b = _
   rw [take_get hb];exact h.same b hb hm
 ·exact h
theorem Moves.plus (m : Fm) (H : Heap) (E : List (Option AObj)) : Moves m H m (H.plus E) :=
 ⟨rfl,by rw [plus_size];omega,fun b hb _ => plus_get E hb,fun p hp => Or.inl ⟨p,hp,rfl⟩⟩
theorem Has.plus {m : Fm} {H : Heap} (h : Has m H) (E : List (Option AObj)) : Has m (H.plus E) := fun p hp => by rw [plus_get E (get_ltS (h p hp))];exact h p hp
theorem Moves.put {m m' : Fm} {H H' : Heap} (h : Moves m H m' H') {b : Nat} (o : AObj) (hb : H.size ≤ b) (hb2 : b < H'.size) : Moves m H m' (H'.put b o) := by
 refine ⟨h.lock,by rw [put_sizeI o hb2];exact h.size,fun c hc hm => ?_,h.keys⟩
 rw [put_get_ne o (by omega) (by omega)];exact h.same c hc hm
theorem Has.put {m : Fm} {H : Heap} (h : Has m H) {b : Nat} (o : AObj) (hb : b ≤ H.size) (hm : ¬ keyIn b m) : Has m (H.put b o) := fun p hp => by
 rw [put_get_ne o hb (fun e => hm ⟨p,hp,e⟩)];exact h p hp
def okRun {S : Type} (stp : S → List AV → Bool × S) (ok : S → List AV → Prop) : List (List AV) → S → Prop
 | [],_ => True
 | x :: r,s => ok s x ∧ ((stp s x).1 = true → okRun stp ok r (stp s x).2)
structure Src2 (C : Cfg) (l : Nat) (S : Type) (R : S → Fm → Prop) (stp : S → List AV → Bool × S) (ok : S → List AV → Prop) (live : S → Prop) (n0 k : Nat) : Prop where
 anch : ∀ s m,R s m → Anch n0 m
 klock : k ≤ n0
 step : ∀ s x,live s → ok s x → (stp s x).1 = true → live (stp s x).2
 round : ∀ s m x H,live s → ok s x → R s m → Has m H → H.lock = k → n0 ≤ H.size → ∃ H' m',lim C (.round l x H) = some (.ret (.v (.bool (stp s x).1)) H') ∧ R (stp s x).2 m' ∧ Has m' H' ∧ Moves m H m' H'
def Yields2 (C : Cfg) (f : FuncId) (cap : List AV) (items : List (List AV)) : Prop :=
 ∀ (l : Nat) (S : Type) (R : S → Fm → Prop) (stp : S → List AV → Bool × S) (ok : S → List AV → Prop) (live : S → Prop) (n0 k : Nat),Src2 C l S R stp ok live n0 k →
  ∀ s m H,okRun stp ok items s → live s → R s m → Has m H → H.lock = k → n0 ≤ H.size → ∃ H' m',lim C (.call f ([.yld l] ++ cap) H) = some (.ret (.tup []) H') ∧ R (runIt stp items s).2 m' ∧ Has m' H' ∧ Moves m H m' H'
theorem Src2.round' {C : Cfg} {l : Nat} {S : Type} {R : S → Fm → Prop} {stp : S → List AV → Bool × S} {ok : S → List AV → Prop} {live : S → Prop} {n0 k : Nat} (h : Src2 C l S R stp ok live n0 k) (s : S) (m : Fm) (x : List AV) (H : Heap) (h1 : live s) (h2 : ok s x) (h3 : R s m) (h4 : Has m H) (h5 : H.lock = k) (h6 : n0 ≤ H.size) :
  ∃ H' H2 m',lim C (.round l x H) = some (.ret (.v (.bool (stp s x).1)) H') ∧ settleH H.size H' = H2 ∧ R (stp s x).2 m' ∧ Has m' H2 ∧ Moves m H m' H2 := by
 obtain ⟨H',m',a,b,c,d⟩ := h.round s m x H h1 h2 h3 h4 h5 h6
 exact ⟨H',_,m',a,rfl,b,c.settle _,d.settle rfl⟩
end Go.Ev
namespace Go.Ev
section
variable {C : Cfg} {me : FuncId} {S : Type} {R : S → Fm → Prop} {stp : S → List AV → AExit × S} {lv : S → Prop} {ok : S → List AV → Prop} {n0 k d : Nat}
def bd2K (R : S → Fm → Prop) (d : Nat) (L' : ALoop) (m : Fm) (H : Heap) (p : AExit × S) : Post := fun e _ H' => e = p.1 ∧ ∃ m',R p.2 m' ∧ Has m' H' ∧ loopObj H' (d + 1) = some L' ∧ Moves ((d + 1,.loop L') :: m) H ((d + 1,.loop L') :: m') H'
def as2K (C : Cfg) (me : FuncId) (R : S → Fm → Prop) (d : Nat) (body : Code) (L L' : ALoop) (m : Fm) (H : Heap) (p : AExit × S) : Post := fun e a H1 => e = .normal ∧ loopObj H1 (d + 1) = some L ∧ Wp C me (some (d + 1)) body a (H1.put (d + 1) (.loop L')) (bd2K R d L' m H p)
theorem loopObj_getI {H : Heap} {b : Nat} {L : ALoop} (h : loopObj H b = some L) : H.get b = some (.loop L) := by
 unfold loopObj at h
 split at h
 ·rename_i l hl;cases h;exact hl
 ·cases h
theorem get_loopObj {H : Heap} {b : Nat} {L : ALoop} (h : H.get b = some (.loop L)) : loopObj H b = some L := by
 unfold loopObj;rw [h]
def RR (R : S → Fm → Prop) (d : Nat) (L : LoopState → Option Code → ALoop) (q : S × AExit) (m' : Fm) : Prop := ∃ m,R q.1 m ∧ m' = (d,.dfr) :: (d + 1,.loop (L (stateOf q.2) (pend q.2))) :: m
theorem src2_range {sz : Nat} {ts : List (Tmp × AV)} {ps : Array Tmp} {asg body : Code} (hn0 : n0 ≤ d) (hk : k ≤ d)
  (hanch : ∀ s m,R s m → Anch n0 m) (hdm : ∀ s m,R s m → ¬ keyIn d m ∧ ¬ keyIn (d + 1) m)
  (hlv : ∀ s x,lv s → ok s x → (stp s x).1 = .normal → lv (stp s x).2)
  (hbody : ∀ (L L' : ALoop) s m x H,L'.dfr = d → lv s → ok s x → x.length = ps.size → R s m → Has m H → H.get d = some .dfr → loopObj H (d + 1) = some L → H.lock = k → d + 2 ≤ H.size →
   Wp C me (some (d + 1)) asg ⟨sz,setTmps sz ts (ps.toList.zip x),[]⟩ H (as2K C me R d body L L' m H (stp s x))) :
  Src2 C (d + 1) (S × AExit) (RR R d (busyL me sz ts ps asg body d)) (fun q x => (isGo (stp q.1 x).1,((stp q.1 x).2,(stp q.1 x).1))) (fun q x => ok q.1 x ∧ x.length = ps.size) (fun q => lv q.1 ∧ q.2 = .normal) (d + 2) k := by
 refine ⟨?_,by omega,fun q x hl ho hs => ?_,fun q m' x H hl ho hR hH hlk hsz => ?_⟩
 ·rintro q m' ⟨m,hm,rfl⟩ n hn ⟨p,hp,hpn⟩
  have hpm : p ∈ m := by
   rcases List.mem_cons.1 hp with rfl | hp
   ·simp only at hpn;omega
   ·rcases List.mem_cons.1 hp with rfl | hp
    ·simp only at hpn;omega
    ·exact hp
  obtain ⟨q',hq,h1,h2⟩ := hanch _ m hm n (by omega) ⟨p,hpm,hpn⟩
  exact ⟨q',List.mem_cons_of_mem _ (List.mem_cons_of_mem _ hq),h1,h2⟩
 ·obtain ⟨s,e⟩ := q
  simp only at hl hs ⊢
  have he : (stp s x).1 = .normal := by
   cases h : (stp s x).1 <;> rw [h] at hs <;> first | rfl | cases hs
  exact ⟨hlv s x hl.1 ho.1 he,he⟩
 ·obtain ⟨s,e⟩ := q
  obtain ⟨hl1,rfl⟩ := hl
  obtain ⟨m,hm,rfl⟩ := hR
  simp only at hm ⊢
  have h0 : H.get d = some .dfr := hH (d,.dfr) (by simp)
  have h1 : H.get (d + 1) = some (.loop (busyL me sz ts ps asg body d (stateOf .normal) (pend .normal))) := hH (d + 1,_) (by simp)
  have hmH : Has m H := fun p hp => hH p (List.mem_cons_of_mem _ (List.mem_cons_of_mem _ hp))
  have key := round_step (C := C) (l := d + 1) (args := x) (H := H) (r := busyL me sz ts ps asg body d .ready none) (K := fun b H' => b = isGo (stp s x).1 ∧ ∃ m',RR R d (busyL me sz ts ps asg body d) ((stp s x).2,(stp s x).1) m' ∧ Has m' H' ∧ Moves ((d,.dfr) :: (d + 1,.loop (busyL me sz ts ps asg body d (stateOf .normal) (pend .normal))) :: m) H m' H') (get_loopObj h1) ho.2 (by omega) ?_
  ·obtain ⟨b,H',h2,rfl,m',h3,h4,h5⟩ := key
   exact ⟨H',m',h2,h3,h4,h5⟩
  ·refine Wp_mono (hbody (busyL me sz ts ps asg body d .ready none) (busyL me sz ts ps asg body d .busy none) s m x H rfl hl1 ho.1 ho.2 hm hmH h0 (get_loopObj h1) hlk hsz) ?_
   rintro e0 a0 H0 ⟨rfl,hL0,hb0⟩
   refine asgK_mk (r1 := busyL me sz ts ps asg body d .ready none) hL0 rfl ?_
   refine Wp_mono hb0 ?_
   rintro e1 a1 H1 ⟨rfl,m',hm',hH1,hL1,hmv⟩
   refine bodyK_mk (r3 := busyL me sz ts ps asg body d .busy none) (j := pend (stp s x).1) hL1 (jumpOf_pend _) ⟨pend_none _, ?_⟩
   have e1 : ({ busyL me sz ts ps asg body d .busy none with state := if (pend (stp s x).1).isNone then .ready else .done,pending := pend (stp s x).1 } : ALoop) = busyL me sz ts ps asg body d (stateOf (stp s x).1) (pend (stp s x).1) := rfl
   rw [e1]
   generalize hLf : busyL me sz ts ps asg body d (stateOf (stp s x).1) (pend (stp s x).1) = Lf
   have hd1 : d + 1 < H1.size := get_ltS (loopObj_getI hL1)
   have hd0 : H1.get d = some .dfr := by
    rw [hmv.same d (by omega) ?_,h0]
    rintro ⟨p,hp,he⟩
    rcases List.mem_cons.1 hp with rfl | hp
    ·simp only at he;omega
    ·exact (hdm _ _ hm).1 ⟨p,hp,he⟩
   have hR' : RR R d (busyL me sz ts ps asg body d) ((stp s x).2,(stp s x).1) ((d,.dfr) :: (d + 1,.loop Lf) :: m') := ⟨m',hm',by rw [← hLf]⟩
   have hH2 : Has ((d,.dfr) :: (d + 1,.loop Lf) :: m') (H1.put (d + 1) (.loop Lf)) := by
    intro p hp
    rcases List.mem_cons.1 hp with rfl | hp
    ·simp only;rw [put_get_ne _ (by omega) (by omega)];exact hd0
    ·rcases List.mem_cons.1 hp with rfl | hp
     ·simp only;exact put_get_eq _ (by omega)
     ·rw [put_get_ne _ (by omega) (fun e => (hdm _ _ hm').2 ⟨p,hp,e⟩)];exact hH1 p hp
   have hmv2 : Moves ((d,.dfr) :: (d + 1,.loop (busyL me sz ts ps asg body d (stateOf .normal) (pend .normal))) :: m) H ((d,.dfr) :: (d + 1,.loop Lf) :: m') (H1.put (d + 1) (.loop Lf)) := by
    refine ⟨hmv.lock,by rw [put_sizeI _ hd1];exact hmv.size,fun b hb hnb => ?_,fun p hp => ?_⟩
    ·have hb1 : b ≠ d + 1 := fun e => hnb ⟨(d + 1,.loop (busyL me sz ts ps asg body d (stateOf .normal) (pend .normal))),List.mem_cons_of_mem _ List.mem_cons_self,e.symm⟩
     rw [put_get_ne _ (by omega) hb1]
     refine hmv.same b hb ?_
     rintro ⟨p,hp,he⟩
     rcases List.mem_cons.1 hp with rfl | hp
     ·exact hb1 he.symm
     ·exact hnb ⟨p,List.mem_cons_of_mem _ (List.mem_cons_of_mem _ hp),he⟩
    ·rcases List.mem_cons.1 hp with rfl | hp
     ·exact Or.inl ⟨(d,.dfr),by simp,rfl⟩
     ·rcases List.mem_cons.1 hp with rfl | hp
      ·exact Or.inl ⟨(d + 1,.loop (busyL me sz ts ps asg body d (stateOf .normal) (pend .normal))),List.mem_cons_of_mem _ List.mem_cons_self,rfl⟩
      ·rcases hmv.keys p (List.mem_cons_of_mem _ hp) with ⟨q,hq,he⟩ | h
       ·rcases List.mem_cons.1 hq with rfl | hq
        ·exact Or.inl ⟨(d + 1,.loop (busyL me sz ts ps asg body d (stateOf .normal) (pend .normal))),List.mem_cons_of_mem _ List.mem_cons_self,he⟩
        ·exact Or.inl ⟨q,List.mem_cons_of_mem _ (List.mem_cons_of_mem _ hq),he⟩
       ·exact Or.inr h
   have hanch2 : Anch (d + 2) ((d,.dfr) :: (d + 1,.loop Lf) :: m') := by
    rintro n hn ⟨p,hp,hpn⟩
    have hpm : p ∈ m' := by
     rcases List.mem_cons.1 hp with rfl | hp
     ·simp only at hpn;omega
     ·rcases List.mem_cons.1 hp with rfl | hp
      ·simp only at hpn;omega
      ·exact hp
    obtain ⟨q',hq,h1,h2⟩ := hanch _ m' hm' n (by omega) ⟨p,hpm,hpn⟩
    exact ⟨q',List.mem_cons_of_mem _ (List.mem_cons_of_mem _ hq),h1,h2⟩
   exact ⟨_,hR',hH2.trim hanch2 hsz _ _,hmv2.trim _ _ rfl⟩
theorem okRun_q {n : Nat} : ∀ (items : List (List AV)) (s : S) (e : AExit),okRun (fun s x => (isGo (stp s x).1,(stp s x).2)) ok items s → (∀ x ∈ items,x.length = n) →
  okRun (fun (q : S × AExit) x => (isGo (stp q.1 x).1,((stp q.1 x).2,(stp q.1 x).1))) (fun q x => ok q.1 x ∧ x.length = n) items (s,e)
 | [],_,_,_,_ => trivial
 | x :: r,s,e,h,hl => ⟨⟨h.1,hl x (by simp)⟩,fun hg => okRun_q r _ _ (h.2 hg) fun y hy => hl y (by simp [hy])⟩
theorem wp_range2 {f : FuncId} {cap : List AV} {items : List (List AV)} (hy : Yields2 C f cap items) {g : Operand} {ps : Array Tmp} {asg body : Code} {a : AAct} {H : Heap} {K : Post} (hg : a.eval g = some (.fn (.func f) [] cap))
  (R : S → Fm → Prop) (stp : S → List AV → AExit × S) (lv : S → Prop) (ok : S → List AV → Prop) {n0 k : Nat} (hn0 : n0 ≤ H.size) (hk : k ≤ H.size) (hlen : ∀ x ∈ items,x.length = ps.size)
  (hanch : ∀ s m,R s m → Anch n0 m) (hdm : ∀ s m,R s m → ¬ keyIn H.size m ∧ ¬ keyIn (H.size + 1) m)
  (hlv : ∀ s x,lv s → ok s x → (stp s x).1 = .normal → lv (stp s x).2)
  (hbody : ∀ (L L' : ALoop) s m x H',L'.dfr = H.size → lv s → ok s x → x.length = ps.size → R s m → Has m H' → H'.get H.size = some .dfr → loopObj H' (H.size + 1) = some L → H'.lock = k → H.size + 2 ≤ H'.size →
   Wp C me (some (H.size + 1)) asg ⟨a.size,setTmps a.size a.tmps (ps.toList.zip x),[]⟩ H' (as2K C me R H.size body L L' m H' (stp s x)))
  (s0 : S) (m0 : Fm) (hok : okRun (fun s x => (isGo (stp s x).1,(stp s x).2)) ok items s0) (h0 : lv s0) (hR0 : R s0 m0) (hH0 : Has m0 H) (hlk : H.lock = k)
  (hK : ∀ m' H',R (foldE stp items s0).2 m' → Has m' H' → H'.get H.size = some .dfr → H'.get (H.size + 1) = some .dead → Moves m0 H ((H.size + 1,.dead) :: m') H' → H.size + 2 ≤ H'.size → AtK K (foldE stp items s0).1 ⟨a.size,a.tmps,H.size :: a.marks⟩ H') :
  Wp C me none (.rangeFunc g ps asg body) a H K := by
 generalize hd : H.size = d at *
 have hsrc := src2_range (C := C) (me := me) (R := R) (stp := stp) (lv := lv) (ok := ok) (sz := a.size) (ts := a.tmps) (ps := ps) (asg := asg) (body := body) hn0 hk hanch hdm hlv hbody
 have hbeg : (H.put d .dfr).put (d + 1) (.loop (busyL me a.size a.tmps ps asg body d .ready none)) = H.plus [some .dfr,some (.loop (busyL me a.size a.tmps ps asg body d .ready none))] := by
  have h1 : H.put d .dfr = H.plus [some .dfr] := by rw [← hd];exact put_push _
  rw [h1]
  exact plus_put_end hd [some .dfr] (.loop (busyL me a.size a.tmps ps asg body d .ready none))
 generalize hHb : H.plus [some AObj.dfr,some (.loop (busyL me a.size a.tmps ps asg body d .ready none))] = Hb at hbeg
 have hsb : Hb.size = d + 2 := by rw [← hHb,plus_size,hd];rfl
 have hg0 : Hb.get d = some .dfr := by
  rw [← hHb];exact plus_mid_get hd [] _ _
 have hg1 : Hb.get (d + 1) = some (.loop (busyL me a.size a.tmps ps asg body d .ready none)) := by
  rw [← hHb];exact plus_mid_get hd [some .dfr] [] _
 have hHasB : Has ((d,.dfr) :: (d + 1,.loop (busyL me a.size a.tmps ps asg body d .ready none)) :: m0) Hb := by
  intro p hp
  rcases List.mem_cons.1 hp with rfl | hp
  ·exact hg0
  ·rcases List.mem_cons.1 hp with rfl | hp
   ·exact hg1
   ·rw [← hHb];exact hH0.plus _ p hp
 obtain ⟨H1,m1,hc1,⟨m',hm',rfl⟩,hH1,hmv⟩ := hy (d + 1) (S × AExit) _ _ _ _ _ _ hsrc (s0,.normal) _ Hb (okRun_q items s0 .normal hok hlen) ⟨h0,rfl⟩ ⟨m0,hR0,rfl⟩ hHasB (by rw [← hHb];exact hlk) (by omega)
 have hanch1 := hsrc.anch _ _ ⟨m',hm',rfl⟩
 rw [run_range] at hm' hH1 hmv hanch1
 simp only at hm' hH1 hmv hanch1
 generalize hp : foldE stp items s0 = p at *
 have hcb := callB_yld (C := C) (me := me) (d := none) (l := d + 1) (by simp) hc1
 have hH2 := hH1.trim hanch1 (Nat.le_of_eq hsb.symm) [AV.tup []] []
 have hmv2 := hmv.trim [AV.tup []] [] (n := Hb.size) rfl
 generalize hT : H1.trim Hb.size [AV.tup []] [] = H2 at *
 have hl2 : H2.get (d + 1) = some (.loop (busyL me a.size a.tmps ps asg body d (stateOf p.1) (pend p.1))) := hH2 (d + 1,_) (by simp)
 have hd2 : H2.get d = some .dfr := hH2 (d,_) (by simp)
 have hs2 : d + 2 ≤ H2.size := by have := hmv2.size;omega
 have hfin : AtK K p.1 ⟨a.size,a.tmps,d :: a.marks⟩ (H2.put (d + 1) .dead) := by
  have hmd := hdm _ _ hm'
  refine hK m' (H2.put (d + 1) .dead) hm' ?_ ?_ ?_ ?_ ?_
  ·intro q hq
   rw [put_get_ne _ (by omega) (fun e => hmd.2 ⟨q,hq,e⟩)]
   exact hH2 q (List.mem_cons_of_mem _ (List.mem_cons_of_mem _ hq))
  ·rw [put_get_ne _ (by omega) (by omega)];exact hd2
  ·exact put_get_eq _ (by omega)
  ·refine ⟨?_, ?_,fun b hb hnb => ?_,fun q hq => ?_⟩
   ·show H2.lock = H.lock
    rw [hmv2.lock,← hHb];rfl
   ·rw [put_sizeI _ (by omega)];omega
   ·rw [put_get_ne _ (by omega) (by omega),hmv2.same b (by omega) ?_,← hHb]
    ·exact plus_get _ hb
    ·rintro ⟨q,hq,he⟩
     rcases List.mem_cons.1 hq with rfl | hq
     ·simp only at he;omega
     ·rcases List.mem_cons.1 hq with rfl | hq
      ·simp only at he;omega
      ·exact hnb ⟨q,hq,he⟩
   ·rcases List.mem_cons.1 hq with rfl | hq
    ·exact Or.inr (by simp only;omega)
    ·rcases hmv2.keys q (List.mem_cons_of_mem _ (List.mem_cons_of_mem _ hq)) with ⟨r,hr,he⟩ | h
     ·rcases List.mem_cons.1 hr with rfl | hr
      ·exact absurd ⟨q,hq,he.symm⟩ hmd.1
      ·rcases List.mem_cons.1 hr with rfl | hr
       ·exact absurd ⟨q,hq,he.symm⟩ hmd.2
       ·exact Or.inl ⟨r,hr,he⟩
     ·exact Or.inr (by omega)
  ·rw [put_sizeI _ (by omega)];exact hs2
 refine wp_range0 (f := f) (first := []) (cap := cap) hg (v := .tup []) (H2 := H2) ?_ (r := busyL me a.size a.tmps ps asg body d (stateOf p.1) (pend p.1)) ?_ ?_ ?_ ?_
 ·rw [hd]
  rw [← hbeg] at hcb
  exact hcb
 ·rw [hd];exact get_loopObj hl2
 ·unfold busyL stateOf;cases p.1 <;> simp [pend]
 ·rw [hd];rfl
 ·rw [hd]
  obtain ⟨e,s⟩ := p
  cases e with
  | normal => exact hfin
  | ret => exact hfin
  | exit i => exact hfin
end
end Go.Ev
namespace Go.Ev
open Go.Proofs
theorem settle_eqN {H : Heap} {n : Nat} (hn : H.size = n) : settleH n H = H := by subst hn;exact settle_size H
theorem trim_eqN {H : Heap} {n : Nat} (hn : H.size = n) (vs : List AV) (ms : List Nat) : H.trim n vs ms = H := by subst hn;exact trim_size H vs ms
end Go.Ev
namespace Go.Ev
section
variable {C : Cfg} {me : FuncId} {rd : Option Nat}
def okFoot (base top w : Nat) (ft : Foot) : Bool := match ft.reads with | some l => l.all fun b => Nat.blt b base || Nat.ble top b || w.testBit (b - base) | none => false
def callFoot : Foot := ⟨some [],some [],[],false,false,0,false,noKept⟩
def idleFoot (C : Cfg) (me : FuncId) (o : Oper) (a : AAct) (slot : Nat) : Foot :=
 match o.op with
 | .call c => match c.callee with | .value _ => callFoot | _ => footA C me o a slot
 | _ => footA C me o a slot
def frOne (o : Option Foot) (f : Foot) : Bool := match o with | some g => !clash g f | none => false
def freeT (feet : List Foot) (u : List Nat) (ft : Foot) : Bool := u.all fun k => frOne (feet[k]?) ft
def ltB (a b : Nat) : Bool := decide (a < b)
def okFootT (base : Nat) (w : List Nat) (ft : Foot) : Bool := match ft.reads with | some l => l.all fun b => ltB b base || w.any fun k => b == base + k | none => false
abbrev Tab := List (List Nat × List Nat × Bool)
noncomputable def callX (C : Cfg) (me : FuncId) (d : Option Tmp) (v : AV) (l : List AV) (H : Heap) : Option (AV × Heap) :=
 match v with
 | .fn (.func f) x y => callA C (lim C) me f d (x ++ l ++ y) H
 | .yld b => (match lim C (.round b l H) with | some (.ret v H') => some (v,H') | _ => none)
 | _ => none
def kind0 (C : Cfg) (me : FuncId) (d : Option Tmp) (v : AV) (l : List AV) : Bool :=
 match v with
 | .fn (.func f) x y => (C.ext f).isNone && Nat.beq (callKind C me f d (x ++ l ++ y)) 0
 | .yld _ => true
 | _ => false
def SameOut (base top : Nat) (G G' : Heap) : Prop := ∀ b,(b < base ∨ top ≤ b) → G'.get b = G.get b
def effV (C : Cfg) (me : FuncId) (base top : Nat) (d : Option Tmp) (v : AV) (l : List AV) (G : Heap) (cont : AV → Heap → Prop) : Prop :=
 kind0 C me d v l = true ∧ ∀ Gh : Heap,Gh.lock = G.lock → Gh.size = G.size → SameOut base top G Gh → ∃ r Y,callX C me d v l Gh = some (r,Y) ∧ G.size ≤ Y.size ∧
  ∀ G' : Heap,G'.lock = G.lock → G'.size = Y.size → SameOut base top Y G' → (∀ b,base ≤ b → b < top → G'.get b = G.get b ∨ G'.get b = Y.get b) → cont r G'
def effO (C : Cfg) (me : FuncId) (base top : Nat) (o : Oper) (a : AAct) (G : Heap) (cont : AV → Heap → Prop) : Prop :=
 match o.op with
 | .call c => (match c.callee with | .value g => bindO (evals a c.args.toList) fun l => bindO (a.eval g) fun v => effV C me base top o.dst v l G cont | _ => False)
 | _ => False
def kind2 (C : Cfg) (me : FuncId) (d : Option Tmp) (v : AV) (l : List AV) : Bool :=
 match v with
 | .fn (.func f) x y => (C.ext f).isNone && Nat.beq (callKind C me f d (x ++ l ++ y)) 2
 | _ => false
def SameVis (base top : Nat) (vl : List Nat) (G G' : Heap) : Prop := ∀ b,(b < base ∨ top ≤ b ∨ (base ≤ b ∧ vl.contains (b - base) = true)) → G'.get b = G.get b
def stillV (C : Cfg) (me : FuncId) (base top : Nat) (vl : List Nat) (d : Option Tmp) (v : AV) (l : List AV) (G : Heap) (cont : AV → Heap → Prop) : Prop :=
 kind2 C me d v l = true ∧ ∃ r,(∀ Gh : Heap,Gh.lock = G.lock → Gh.size = G.size → SameVis base top vl G Gh → ∃ Y,callX C me d v l Gh = some (r,Y)) ∧ cont r G
def stillO (C : Cfg) (me : FuncId) (base top : Nat) (vl : List Nat) (o : Oper) (a : AAct) (G : Heap) (cont : AV → Heap → Prop) : Prop :=
 match o.op with
 | .call c => (match c.callee with | .value g => bindO (evals a c.args.toList) fun l => bindO (a.eval g) fun v => stillV C me base top vl o.dst v l G cont | _ => False)
 | _ => False
def stillFoot : Foot := ⟨none,some [],[],false,false,0,false,noKept⟩
def effFoot : Foot := ⟨none,none,[],false,true,0,false,noKept⟩
def drawP (C : Cfg) (me : FuncId) (arr : Array Oper) (base : Nat) : Tab → List Oper → Nat → List Foot → AAct → Heap → PostS → Prop
 | _,[],_,_,a,G,K => AtS K a G
 | tb,o :: r,i,feet,a,G,K => bindO (wantedA arr a o) fun w => iteB w
   (iteB (plainO o) (WpO C me o.dst o.op a G (base + i) fun v _ => drawP C me arr base tb.tail r (i + 1) (feet ++ [noFoot]) (a.put o.dst v) G K)
    (iteB (locOp o.op) (iteB (okFootT base (tb.headD ([],[],false)).2.1 (footA C me o a (base + i)) && freeT feet (tb.headD ([],[],false)).1 (footA C me o a (base + i)))
      (WpO C me o.dst o.op a G (base + i) fun v G' => drawP C me arr base tb.tail r (i + 1) (feet ++ [footA C me o a (base + i)]) (a.put o.dst v) G' K) False)
     (iteB (tb.headD ([],[],false)).2.2
      (iteB (tb.headD ([],[],false)).1.isEmpty (effO C me base (base + arr.toList.length) o a G fun v G' => drawP C me arr base tb.tail r (i + 1) (feet ++ [effFoot]) (a.put o.dst v) G' K)
       (iteB (freeT feet (tb.headD ([],[],false)).1 stillFoot) (stillO C me base (base + arr.toList.length) (tb.headD ([],[],false)).2.1 o a G fun v G' => drawP C me arr base tb.tail r (i + 1) (feet ++ [stillFoot]) (a.put o.dst v) G' K) False))
      (iteB (freeT feet (tb.headD ([],[],false)).1 (idleFoot C me o a (base + i)))
       (bindO (opI C me { objs := [],lock := 0 } o.dst o.op a) fun v => drawP C me arr base tb.tail r (i + 1) (feet ++ [idleFoot C me o a (base + i)]) (a.put o.dst v) G K) False))))
   (drawP C me arr base tb.tail r (i + 1) (feet ++ [noFoot]) (a.put o.dst undefA) G K)
def plainAt (l : List Oper) (i : Nat) : Bool := match l[i]? with | some o => plainO o | none => false
def rowOk (l : List Oper) (wi : Nat) (i : Nat) (u w : List Nat) : Bool := plainAt l i || ((List.range i).all fun k => wi.testBit k || plainAt l k || u.contains k) && w.all fun k => wi.testBit k
def tabOk (l : List Oper) (ws : List Nat) (tb : Tab) : Bool := (List.range l.length).all fun i => rowOk l (ws.getD i 0) i (tb.getD i ([],[],false)).1 (tb.getD i ([],[],false)).2.1
theorem clash_no (ft : Foot) : clash noFoot ft = false := by
 obtain ⟨rx,wx,fx,px,gx⟩ := ft
 have e1 : ∀ z,meet (some []) z = false := fun _ => rfl
 simp [clash,noFoot,e1]
theorem free_of {l : List Oper} {wi i : Nat} {u w : List Nat} {feet : List Foot} {ft : Foot} (hr : rowOk l wi i u w = true) (hnp : plainAt l i = false) (hp : ∀ k o,k < i → l[k]? = some o → plainO o = true → feet[k]? = some noFoot) (hf : freeT feet u ft = true) : freeOf feet wi ft i = true := by
 unfold rowOk at hr
 rw [hnp,Bool.false_or] at hr
 simp only [Bool.and_eq_true,List.all_eq_true] at hr
 have key : ∀ n,n ≤ i → freeOf feet wi ft n = true := by
  intro n
  induction n with
  | zero => intro _;rfl
  | succ k ih =>
   intro hk
   unfold freeOf
   rw [ih (by omega),Bool.and_true]
   have := hr.1 k (List.mem_range.2 (by omega))
   simp only [Bool.or_eq_true] at this
   rcases this with (h | h) | h
   ·rw [h,Bool.true_or]
   ·unfold plainAt at h
    split at h
    ·rename_i o ho
     rw [hp k o (by omega) ho h]
     simp only [clash_no,Bool.not_false,Bool.or_true]
    ·cases h
   ·have h2 := List.all_eq_true.1 hf k (by simpa using h)
    unfold frOne at h2
    rw [Bool.or_eq_true]
    exact Or.inr h2
 exact key i (Nat.le_refl _)
theorem ok_of {l : List Oper} {wi i base top : Nat} {u w : List Nat} {ft : Foot} (hr : rowOk l wi i u w = true) (hnp : plainAt l i = false) (h : okFootT base w ft = true) : okFoot base top wi ft = true := by
 unfold rowOk at hr
 rw [hnp,Bool.false_or] at hr
 simp only [Bool.and_eq_true,List.all_eq_true] at hr
 unfold okFootT at h
 unfold okFoot
 split at h
 ·rename_i rl hrl
  rw [List.all_eq_true] at h ⊢
  intro b hb
  have := h b hb
  simp only [Bool.or_eq_true] at this ⊢
  rcases this with h1 | h1
  ·left;left;exact Nat.ble_eq_true_of_le (of_decide_eq_true h1)
  ·obtain ⟨k,hk,he⟩ := List.any_eq_true.1 h1
   right
   have : b = base + k := by simpa using he
   rw [this,Nat.add_sub_cancel_left];exact hr.2 k hk
 ·cases h
theorem free_no {feet : List Foot} {w : Nat} : ∀ n,n ≤ feet.length → freeOf feet w noFoot n = true
 | 0,_ => rfl
 | k + 1,hn => by
  unfold freeOf
  rw [free_no k (by omega),Bool.and_true,Bool.or_eq_true]
  right
  cases h : feet[k]? with
  | none => exact absurd (List.getElem?_eq_none_iff.1 h) (by omega)
  | some f =>
   obtain ⟨rx,wx,fx,px,gx⟩ := f
   have e2 : ∀ r : Option (List Nat),meet r (some []) = false := by
    intro r;unfold meet;split <;> simp_all
   simp [clash,noFoot,e2]
theorem vis_of {ft : Foot} {base top w slot : Nat} {l : List Nat} (hr : ft.reads = some l) (h : okFoot base top w ft = true) : (∀ b ∈ l,visB base top w slot ft b = true) ∧ visB base top w slot ft slot = true := by
 unfold okFoot at h
 rw [hr] at h
 simp only [List.all_eq_true] at h
 refine ⟨fun b hb => ?_, ?_⟩
 ·unfold visB
  rw [hr]
  simp only [h b hb,Bool.true_and,Bool.or_eq_true]
  exact Or.inr (List.any_eq_true.2 ⟨b,hb,Nat.beq_refl b⟩)
 ·unfold visB;rw [Nat.beq_refl];rfl
theorem foot_grows {o : Oper} {a : AAct} {slot : Nat} : (footA C me o a slot).grows = false := by
 unfold footA
 split <;> try rfl
 split <;> try rfl
 split <;> try rfl
 split <;> try rfl
 split <;> rfl
theorem opI_any {o : Oper} {a : AAct} {v : AV} (hp : plainO o = false) (hl : locOp o.op = false) (h : opI C me { objs := [],lock := 0 } o.dst o.op a = some v) (slot : Nat) :
  (∀ G : Heap,opA C (lim C) me o a G slot = some (some v,G)) ∧ (footA C me o a slot).idle = true ∧ idleFoot C me o a slot = footA C me o a slot := by
 obtain ⟨dst,op,ty,pos,after,guard⟩ := o
 simp only at hl h hp
 unfold opI at h
 split at h
 ·cases hl
 ·rename_i t x l hh m
  simp only [Option.bind_eq_some_iff] at h
  obtain ⟨u,hu,l',hl',h',hh',m',hm',h⟩ := h
  have hs : ∀ G : Heap,sliceA C.P G t u l' h' m' = some v := by
   intro G
   unfold sliceI at h
   split at h
   ·cases h
   ·rename_i hne
    rw [← h]
    unfold sliceA
    cases C.P.underlying t with
    | none => cases u <;> rfl
    | some d => cases d <;> cases u <;> first | rfl | (exact absurd rfl (hne _ _ _ _ _)) | (rename_i y;cases y <;> first | rfl | (rename_i p n c;cases p <;> first | rfl | (cases n <;> first | rfl | (cases c <;> rfl))))
  refine ⟨fun G => ?_,rfl,rfl⟩
  simp only [opA,hu]
  show (match (some u),lookO a l,lookO a hh,lookO a m with | some v,some l,some h,some m => (sliceA C.P G t v l h m).map fun v => (some v,G) | _,_,_,_ => none) = _
  rw [hl',hh',hm']
  simp only [hs G,Option.map_some]
 ·rename_i c
  obtain ⟨cal,args,ts⟩ := c
  simp only at h
  split at h
  ·obtain ⟨l,hev,h⟩ := Option.bind_eq_some_iff.1 h
   have hs : ∀ G : Heap,lenA C.P G ts.toList l = some v := by
    intro G
    unfold lenI at h
    split at h
    ·cases h
    ·rename_i hne
     rw [← h]
     unfold lenA
     cases ts.toList with
     | nil => rfl
     | cons t r =>
      cases l with
      | nil => rfl
      | cons x s =>
       simp only
       cases C.P.underlying t with
       | none => cases x <;> rfl
       | some d => cases d <;> cases x <;> first | rfl | (exact absurd rfl (hne _ _)) | (rename_i y;cases y <;> first | rfl | (rename_i p;cases p <;> rfl) | (rename_i p n c;cases p <;> first | rfl | (cases n <;> first | rfl | (cases c <;> rfl))))
   refine ⟨fun G => ?_, ?_,rfl⟩
   ·simp only [opA,hev,hs G,Option.map_some]
   ·simp only [footA];rfl
  ·obtain ⟨l,hev,h⟩ := Option.bind_eq_some_iff.1 h
   refine ⟨fun G => ?_,rfl,rfl⟩
   cases l with
   | nil => cases h
   | cons x r =>
    have h : minmaxA false x r = some v := h
    simp only [opA,hev,h,Option.map_some]
  ·rename_i g
   simp only [Option.bind_eq_some_iff] at h
   obtain ⟨l,hev,gv,hg,h⟩ := h
   unfold callV at h
   split at h
   ·rename_i f x y
    unfold callI at h
    split at h
    ·rename_i hex
     cases h
     obtain ⟨h1,h2⟩ := hex.choose_spec
     have hfe : ∀ ty pos after guard,footA C me ⟨dst,.call ⟨.value g,args,ts⟩,ty,pos,after,guard⟩ a slot = callFoot := by
      intro ty pos after guard
      simp only [footA,hg,hev]
      rcases h2 with h2 | h2
      ·rw [if_pos h2];rfl
      ·split
       ·rfl
       ·rw [h2];rfl
     refine ⟨fun G => ?_, ?_, ?_⟩
     ·simp only [opA,hev,hg]
      rw [h1 G];rfl
     ·rw [hfe];rfl
     ·rw [hfe];rfl
    ·cases h
   ·cases h
  ·cases h
 ·rename_i h1 h2 h3
  have : plainO (bareO dst op) = false := hp
  rw [this] at h
  simp at h
theorem drawP_runs {arr : Array Oper} {ops : List Oper} {ws : List Nat} {base n : Nat} {K : PostS} (hnear : ∀ d,C.near me d = false) (hn : arr.toList.length = n) : ∀ (l : List Oper) (tb : Tab) (i : Nat) (feetM feet : List Foot) (a : AAct) (G : Heap),feet.length = i → feetM.length = i → i + l.length ≤ n → base + n ≤ G.size → (∀ (k : Nat) (ft : Foot),frOne (feetM[k]?) ft = true → frOne (feet[k]?) ft = true) → (∀ k,l[k]? = ops[i + k]?) →
  (∀ k,i + k < i + l.length → rowOk ops (ws.getD (i + k) 0) (i + k) (tb.getD k ([],[],false)).1 (tb.getD k ([],[],false)).2.1 = true) → (∀ k o,k < i → ops[k]? = some o → plainO o = true → feet[k]? = some noFoot) → drawP C me arr base tb l i feetM a G K →
  ∃ r,drawA C (lim C) me arr base (base + n) ws l i feet a G = some r ∧ K r.1 r.2
 | [],tb,i,feetM,feet,a,G,_,_,_,_,_,_,_,_,h => ⟨(a,G),rfl,(by unfold drawP at h;exact h)⟩
 | o :: r,tb,i,feetM,feet,a,G,hf,hfM,hi,hs,hle,hops,htb,hpl,h => by
  have hle' : ∀ f f' : Foot,(∀ ft,frOne (some f) ft = true → frOne (some f') ft = true) → ∀ (k : Nat) (ft : Foot),frOne ((feetM ++ [f])[k]?) ft = true → frOne ((feet ++ [f'])[k]?) ft = true := by
   intro f f' hff k ft hk
   rcases Nat.lt_or_ge k i with h1 | h1
   ·rw [List.getElem?_append_left (by omega)] at hk ⊢;exact hle k ft hk
   ·rw [List.getElem?_append_right (by omega)] at hk ⊢
    rw [hfM] at hk;rw [hf]
    cases hki : k - i with
    | zero => rw [hki] at hk;exact hff ft hk
    | succ z => rw [hki] at hk;simp [frOne] at hk
  have hsame : ∀ f : Foot,∀ ft,frOne (some f) ft = true → frOne (some f) ft = true := fun _ _ h => h
  have hfree : ∀ (u : List Nat) (ft : Foot),freeT feetM u ft = true → freeT feet u ft = true := fun u ft h => List.all_eq_true.2 fun k hk => hle k ft (List.all_eq_true.1 h k hk)
  have hrow := htb 0 (by simp)
  have ho0 : ops[i]? = some o := by have := hops 0;simpa using this.symm
  have hops' : ∀ k,r[k]? = ops[i + 1 + k]? := fun k => by have := hops (k + 1);rw [List.getElem?_cons_succ] at this;rw [this,show i + (k + 1) = i + 1 + k by omega]
  have htd : ∀ k,tb.tail.getD k ([],[],false) = tb.getD (k + 1) ([],[],false) := fun k => by cases tb <;> simp
  have htb' : ∀ k,i + 1 + k < i + 1 + r.length → rowOk ops (ws.getD (i + 1 + k) 0) (i + 1 + k) (tb.tail.getD k ([],[],false)).1 (tb.tail.getD k ([],[],false)).2.1 = true := fun k hk => by
   rw [htd,show i + 1 + k = i + (k + 1) by omega];exact htb (k + 1) (by simp;omega)
  have hhd : tb.getD 0 ([],[],false) = tb.headD ([],[],false) := by cases tb <;> rfl
  have hpl' : ∀ (ft : Foot),(plainO o = true → ft = noFoot) → ∀ k o',k < i + 1 → ops[k]? = some o' → plainO o' = true → (feet ++ [ft])[k]? = some noFoot := by
   intro ft hft k o' hk ho' hp
   rcases Nat.lt_or_ge k i with h1 | h1
   ·rw [List.getElem?_append_left (by omega)];exact hpl k o' h1 ho' hp
   ·have : k = i := by omega
    subst this
    rw [ho0] at ho';cases ho'
    rw [List.getElem?_append_right (by omega),hf,Nat.sub_self,hft hp];rfl
  rw [hhd,Nat.add_zero] at hrow
  have hi' : i + (r.length + 1) ≤ n := by simpa using hi
  unfold drawP at h
  rw [bindO_iff] at h
  obtain ⟨w,hw,h⟩ := h
  unfold drawA stepD
  rw [hw]
  cases w
  ·simp only [iteB_false] at h
   simp only
   rw [free_no i (by omega),if_pos rfl]
   exact drawP_runs hnear hn r _ (i + 1) _ _ _ G (by simp [hf]) (by simp [hfM]) (by omega) hs (hle' _ _ (hsame _)) hops' htb' (hpl' noFoot fun _ => rfl) h
  ·simp only [iteB_true] at h
   simp only
   by_cases hp : plainO o = true
   ·rw [hp] at h
    simp only [iteB_true] at h
    rw [if_pos hp]
    unfold WpO at h
    rw [bindO_iff,← opA_same] at h
    obtain ⟨⟨v,G1⟩,hop,h⟩ := h
    rw [hop]
    simp only
    rw [free_no i (by omega),if_pos rfl]
    exact drawP_runs hnear hn r _ (i + 1) _ _ _ G (by simp [hf]) (by simp [hfM]) (by omega) hs (hle' _ _ (hsame _)) hops' htb' (hpl' noFoot fun _ => rfl) h
   ·have hp' : plainO o = false := by simpa using hp
    rw [hp'] at h
    simp only [iteB_false] at h
    rw [if_neg hp]
    have hnp : plainAt ops i = false := by unfold plainAt;rw [ho0];exact hp'
    by_cases hl : locOp o.op = true
    ·rw [hl] at h
     simp only [iteB_true] at h
     generalize hft : footA C me o a (base + i) = ft at h ⊢
     cases hokT : okFootT base (tb.headD ([],[],false)).2.1 ft && freeT feetM (tb.headD ([],[],false)).1 ft
     ·rw [hokT] at h;exact h.elim
     ·rw [hokT] at h
      simp only [iteB_true] at h
      simp only [Bool.and_eq_true] at hokT
      have hok : okFoot base (base + n) (ws.getD i 0) ft = true ∧ freeOf feet (ws.getD i 0) ft i = true := ⟨ok_of hrow hnp hokT.1,free_of hrow hnp hpl (hfree _ _ hokT.2)⟩
      unfold WpO at h
      rw [bindO_iff,← opA_same] at h
      obtain ⟨⟨v,G1⟩,hop,h⟩ := h
      obtain ⟨reads,hr,eff,he1,he2,he3⟩ := opA_loc hl hop
      rw [hft] at hr
      obtain ⟨hv1,hv2⟩ := vis_of (slot := base + i) hr hok.1
      generalize hvis : visB base (base + n) (ws.getD i 0) (base + i) ft = vis at hv1 hv2 ⊢
      have hrl : ∀ b ∈ reads,b < G.size → (G.hide vis).get b = G.get b := fun b hb hbs => by rw [hide_get,if_pos hbs,if_pos (hv1 b hb)]
      have hrl2 : ∀ b ∈ reads,(G.hide vis).get b = G.get b := fun b hb => by
       rcases Nat.lt_or_ge b G.size with h1 | h1
       ·exact hrl b hb h1
       ·rw [hide_get,if_neg (by omega),get_none (by omega)]
      have hrun := he3 (G.hide vis) rfl hrl2
      simp only at hrun
      rw [hrun]
      simp only
      have heff : ∀ b o',eff = some (b,o') → b < G.size ∧ vis b = true := by
       intro b o' he
       rcases he1 b o' he with ⟨h1,h2⟩ | h1
       ·obtain ⟨o2,ho2⟩ := Option.isSome_iff_exists.1 h2
        exact ⟨get_ltS ho2,hv1 b h1⟩
       ·subst h1;exact ⟨by omega,hv2⟩
      obtain ⟨hm1,hm2,hm3⟩ := merge_putO heff
      have hg : ({ ft with grows := false } : Foot) = ft := by rw [← hft];have := foot_grows (C := C) (me := me) (o := o) (a := a) (slot := base + i);cases hq : footA C me o a (base + i);rw [hq] at this;simp only at this;subst this;rfl
      have hcont := drawP_runs (n := n) (ws := ws) (ops := ops) hnear hn r _ (i + 1) _ (feet ++ [ft]) _ G1 (by simp [hf]) (by simp [hfM]) (by omega) (by rw [he2,hm3];exact hs) (hle' _ _ (hsame _)) hops' htb' (hpl' ft fun h => absurd h hp) h
      by_cases hid : ft.idle = true
      ·rw [if_pos hid]
       have hG1 : G1 = G := by
        have hW : ∃ W,(footA C me o a (base + i)).writes = some W ∧ W ++ (footA C me o a (base + i)).fresh = [] := by
         rw [hft]
         unfold Foot.idle at hid
         split at hid
         ·rename_i hw;exact ⟨[],hw,by simpa using hid⟩
         ·cases hid
        obtain ⟨W,hW1,hW2⟩ := hW
        have := opA_keeps hop (by omega) hW1
        rw [hW2] at this
        exact heap_ext this.1 this.2.1 fun b => this.2.2 b (by simp)
       simp only [footI,hnear,Bool.false_eq_true,if_false]
       simp only [hok.2,if_true]
       rw [hG1] at hcont
       exact hcont
      ·rw [if_neg hid,hm2,Nat.ble_eq_true_of_le (Nat.le_refl _)]
       simp only [footN,hnear,Bool.false_eq_true,if_false]
       simp only [if_true,hm1,Nat.beq_refl,Bool.not_true,hg,hok.2]
       rw [he2] at hcont
       exact hcont
    ·have hl' : locOp o.op = false := by simpa using hl
     rw [hl'] at h
     simp only [iteB_false] at h
     cases hflag : (tb.headD ([],[],false)).2.2
     case false =>
      rw [hflag] at h
      simp only [iteB_false] at h
      generalize hft : idleFoot C me o a (base + i) = ft at h
      cases hokT : freeT feetM (tb.headD ([],[],false)).1 ft
      ·rw [hokT] at h;exact h.elim
      ·rw [hokT] at h
       simp only [iteB_true] at h
       have hok : freeOf feet (ws.getD i 0) ft i = true := free_of hrow hnp hpl (hfree _ _ hokT)
       rw [bindO_iff] at h
       obtain ⟨v,hv,h⟩ := h
       obtain ⟨h1,h2,h3⟩ := opI_any hp' hl' hv (base + i)
       rw [hft] at h3
       rw [← h3] at h2 ⊢
       rw [h1]
       simp only
       rw [if_pos h2]
       simp only [footI,hnear,Bool.false_eq_true,if_false]
       simp only [hok,if_true]
       exact drawP_runs hnear hn r _ (i + 1) _ _ _ G (by simp [hf]) (by simp [hfM]) (by omega) hs (hle' _ _ (hsame _)) hops' htb' (hpl' _ fun h => absurd h hp) h
     case true =>
      rw [hflag] at h
      simp only [iteB_true] at h
      cases hem : (tb.headD ([],[],false)).1.isEmpty
      ·rw [hem] at h
       simp only [iteB_false] at h
       cases hokT : freeT feetM (tb.headD ([],[],false)).1 stillFoot
       ·rw [hokT] at h;exact h.elim
       ·rw [hokT] at h
        simp only [iteB_true] at h
        have hok : freeOf feet (ws.getD i 0) stillFoot i = true := free_of hrow hnp hpl (hfree _ _ hokT)
        obtain ⟨dst,op,ty,pos,after,guard⟩ := o
        unfold stillO at h
        simp only at h
        split at h
        ·rename_i c
         split at h
         ·rename_i g hcal
          rw [bindO_iff] at h
          obtain ⟨l,hev,h⟩ := h
          rw [bindO_iff] at h
          obtain ⟨v,hg,h⟩ := h
          obtain ⟨hk,rv,hrun,h⟩ := h
          obtain ⟨cal,args,ts⟩ := c
          simp only at hcal hev
          subst hcal
          cases v <;> simp only [kind2] at hk <;> try (cases hk;done)
          rename_i f x y
          cases f <;> simp only [Bool.and_eq_true] at hk <;> try (cases hk;done)
          rename_i f
          have hft : footA C me ⟨dst,.call ⟨.value g,args,ts⟩,ty,pos,after,guard⟩ a (base + i) = stillFoot := by
           have h1 : (standA C f (x ++ l ++ y)).isSome = false := by
            have := hk.1
            unfold standA
            cases hx : C.ext f <;> rw [hx] at this <;> simp_all
           have h2 := Nat.eq_of_beq_eq_true hk.2
           simp only [footA,hg,hev,h1,h2,Bool.false_eq_true,if_false,stillFoot]
          rw [hft]
          generalize hvis : visB base (base + n) (ws.getD i 0) (base + i) stillFoot = vis
          have hwl : ∀ k,(tb.headD ([],[],false)).2.1.contains k = true → (ws.getD i 0).testBit k = true := by
           have hr2 := hrow
           unfold rowOk at hr2
           rw [hnp,Bool.false_or,Bool.and_eq_true] at hr2
           exact fun k hk => List.all_eq_true.1 hr2.2 k (List.contains_iff_mem.1 hk)
          have hvo : ∀ b,(b < base ∨ base + n ≤ b ∨ (base ≤ b ∧ (tb.headD ([],[],false)).2.1.contains (b - base) = true)) → vis b = true := by
           intro b hb
           rw [← hvis]
           unfold visB stillFoot
           simp only [Bool.and_true,Bool.or_eq_true]
           right
           rcases hb with hb | hb | hb
           ·left;left;exact Nat.ble_eq_true_of_le hb
           ·left;right;exact Nat.ble_eq_true_of_le hb
           ·right;exact hwl _ hb.2
          obtain ⟨Y,hY⟩ := hrun (G.hide vis) rfl (hide_size G vis) (fun b hb => by
           rcases Nat.lt_or_ge b G.size with h1 | h1
           ·rw [hide_get,if_pos h1,if_pos (hvo b (by rw [hn] at hb;exact hb))]
           ·rw [hide_get,if_neg (by omega),get_none (by omega)])
          have hop : opA C (lim C) me ⟨dst,.call ⟨.value g,args,ts⟩,ty,pos,after,guard⟩ a (G.hide vis) (base + i) = some (some rv,Y) := by
           simp only [opA,hev,hg]
           unfold callX at hY
           simp only at hY ⊢
           rw [hY];rfl
          rw [hop]
          simp only
          rw [if_pos (by rfl)]
          simp only [footI,hnear,Bool.false_eq_true,if_false]
          simp only [hok,if_true]
          exact drawP_runs hnear hn r _ (i + 1) _ _ _ G (by simp [hf]) (by simp [hfM]) (by omega) hs (hle' _ _ (hsame _)) hops' htb' (hpl' _ fun h => absurd h hp) h
         ·exact h.elim
        ·exact h.elim
      ·rw [hem] at h
       simp only [iteB_true] at h
       have hu : (tb.headD ([],[],false)).1 = [] := List.isEmpty_iff.1 hem
       rw [hu] at hrow
       obtain ⟨dst,op,ty,pos,after,guard⟩ := o
       unfold effO at h
       simp only at h
       split at h
       ·rename_i c
        split at h
        ·rename_i g hcal
         rw [bindO_iff] at h
         obtain ⟨l,hev,h⟩ := h
         rw [bindO_iff] at h
         obtain ⟨v,hg,h⟩ := h
         obtain ⟨hk,h⟩ := h
         obtain ⟨cal,args,ts⟩ := c
         simp only at hcal hev
         subst hcal
         have hft : footA C me ⟨dst,.call ⟨.value g,args,ts⟩,ty,pos,after,guard⟩ a (base + i) = ⟨none,none,[],false,false,0,false,noKept⟩ := by
          simp only [footA,hg,hev]
          cases v <;> simp only [kind0] at hk <;> try (cases hk;done)
          ·rename_i f x y
           cases f <;> simp only [Bool.and_eq_true] at hk <;> try (cases hk;done)
           rename_i f
           have h1 : (standA C f (x ++ l ++ y)).isSome = false := by
            have := hk.1
            unfold standA
            cases hx : C.ext f <;> rw [hx] at this <;> simp_all
           have h2 := Nat.eq_of_beq_eq_true hk.2
           simp only [h1,h2,Bool.false_eq_true,if_false]
          ·rfl
         rw [hft]
         generalize hvis : visB base (base + n) (ws.getD i 0) (base + i) ⟨none,none,[],false,false,0,false,noKept⟩ = vis
         have hvo : ∀ b,(b < base ∨ base + n ≤ b) → vis b = true := by
          intro b hb
          rw [← hvis]
          unfold visB
          simp only [Bool.and_true,Bool.or_eq_true]
          right
          rcases hb with hb | hb
          ·left;left;exact Nat.ble_eq_true_of_le hb
          ·left;right;exact Nat.ble_eq_true_of_le hb
         obtain ⟨rv,Y,hY,hYs,hcont⟩ := h (G.hide vis) rfl (hide_size G vis) (fun b hb => by
          rcases Nat.lt_or_ge b G.size with h1 | h1
          ·rw [hide_get,if_pos h1,if_pos (hvo b (by rw [hn] at hb;exact hb))]
          ·rw [hide_get,if_neg (by omega),get_none (by omega)])
         have hop : opA C (lim C) me ⟨dst,.call ⟨.value g,args,ts⟩,ty,pos,after,guard⟩ a (G.hide vis) (base + i) = some (some rv,Y) := by
          simp only [opA,hev,hg]
          unfold callX at hY
          cases v with
          | fn f x y =>
           cases f with
           | func f =>
            simp only at hY ⊢
            rw [hY];rfl
           | _ => simp at hY
          | yld b =>
           simp only at hY ⊢
           split at hY
           ·rename_i hr
            simp only [Option.some.injEq,Prod.mk.injEq] at hY
            obtain ⟨rfl,rfl⟩ := hY
            rw [hr]
           ·cases hY
          | _ => simp at hY
         rw [hop]
         simp only
         rw [if_neg (by simp [Foot.idle]),Nat.ble_eq_true_of_le hYs,if_pos rfl]
         simp only [footN,hnear,Bool.false_eq_true,if_false]
         have hok : ∀ gr : Bool,freeOf feet (ws.getD i 0) ⟨none,none,[],false,gr,0,false,noKept⟩ i = true := fun gr => free_of hrow hnp hpl rfl
         rw [hok,if_pos rfl]
         have hG' := hcont (G.merge vis Y) rfl (merge_size vis hYs) (fun b hb => by
          rw [merge_get _ hYs]
          rcases Nat.lt_or_ge b G.size with h1 | h1
          ·rw [if_pos h1,if_pos (hvo b (by rw [hn] at hb;exact hb))]
          ·rw [if_neg (by omega)]) (fun b h1 h2 => by
          rw [merge_get _ hYs]
          split
          ·split
           ·exact Or.inr rfl
           ·exact Or.inl rfl
          ·exact Or.inr rfl)
         refine drawP_runs hnear hn r _ (i + 1) _ _ _ _ (by simp [hf]) (by simp [hfM]) (by omega) (by rw [merge_size vis hYs];omega) (hle' effFoot _ ?_) hops' htb' (hpl' _ fun h => absurd h hp) hG'
         intro ft hft'
         obtain ⟨r',w',f',p',g'⟩ := ft
         unfold frOne effFoot clash at hft'
         unfold frOne clash
         simp only [Bool.not_eq_true',Bool.or_eq_false_iff,Bool.true_and] at hft' ⊢
         obtain ⟨⟨⟨⟨⟨⟨q1,q2⟩,q3⟩,q4⟩,q5⟩,q6⟩,q7⟩ := hft'
         exact ⟨⟨⟨⟨⟨⟨q1,q2⟩,q3⟩,q4⟩,q5⟩,by rw [q6,Bool.and_false]⟩,q7⟩
        ·exact h.elim
       ·exact h.elim
theorem wp_drawD {id : Nat} {ops : Array Oper} {a : AAct} {H : Heap} {K : Post} (tb : Tab) (hok : drawOk ops = true) (htb : tabOk ops.toList (waitsAll ops.toList) tb = true)
  (h : drawP C me ops H.size tb ops.toList 0 [] a ⟨H.objs ++ List.replicate ops.toList.length none,H.lock⟩ (setK C me H.size K)) (hnear : ∀ d,C.near me d = false := by intro d;rfl) : Wp C me rd (.region id ops true) a H K := by
 obtain ⟨r,h1,h2⟩ := drawP_runs (ops := ops.toList) (ws := waitsAll ops.toList) (n := ops.toList.length) hnear rfl ops.toList tb 0 [] [] a _ rfl rfl (by omega) (by unfold Heap.size;simp) (fun _ _ h => h) (fun k => by rw [Nat.zero_add]) (fun k hk => by rw [Nat.zero_add] at hk ⊢;exact List.all_eq_true.1 htb k (List.mem_range.2 (by omega))) (fun k o hk => by omega) h
 have hreg : regionA C (lim C) me ops true a H = some r := by
  unfold regionA
  unfold drawOk at hok
  simp only [if_true]
  rw [if_pos hok];exact h1
 unfold Wp
 simp only [codeA,hreg,Option.map_some,bindO_some]
 exact h2
@[congr] theorem drawP_congr {arr : Array Oper} {base : Nat} {tb : Tab} {l : List Oper} {i i' : Nat} {feet feet' : List Foot} {a a' : AAct} {G G' : Heap} {K : PostS} (hi : i = i') (hf : feet = feet') (ha : a = a') (hG : G = G') : drawP C me arr base tb l i feet a G K = drawP C me arr base tb l i' feet' a' G' K := by rw [hi,hf,ha,hG]
section eqs
variable {arr : Array Oper} {base : Nat} {tb : Tab}
@[go_sem ↓] theorem drawP_nil (i : Nat) (feet : List Foot) (a : AAct) (G : Heap) (K : PostS) : drawP C me arr base tb [] i feet a G K = AtS K a G := by unfold drawP;rfl
def plainOp (op : Op) : Bool :=
 match op with
 | .move _ | .assign _ | .pick .. | .build .. | .nilCheck _ | .binOp .. | .unOp .. | .convert .. | .makeInterface .. | .makeFunc .. | .fieldAddr .. | .field .. | .indexAddr .. | .index .. | .extract .. => true
 | _ => false
theorem plainOp_eq (o : Oper) : plainO o = plainOp o.op := rfl
def footD (C : Cfg) (me : FuncId) (d : Option Tmp) (op : Op) (a : AAct) (slot : Nat) : Foot := footA C me (bareO d op) a slot
def contP (C : Cfg) (me : FuncId) (arr : Array Oper) (base : Nat) (tb : Tab) (r : List Oper) (i : Nat) (feet : List Foot) (d : Option Tmp) (a : AAct) (K : PostS) : PostO := fun v G => drawP C me arr base tb r i feet (a.put d v) G K
def contQ (C : Cfg) (me : FuncId) (arr : Array Oper) (base : Nat) (tb : Tab) (r : List Oper) (i : Nat) (feet : List Foot) (d : Option Tmp) (a : AAct) (G : Heap) (K : PostS) : PostO := fun v _ => drawP C me arr base tb r i feet (a.put d v) G K
@[go_sem ↓] theorem contP_some (r : List Oper) (i : Nat) (feet : List Foot) (d : Tmp) (s : Nat) (l : List (Tmp × AV)) (m : List Nat) (K : PostS) (v : AV) (G : Heap) : AtO (contP C me arr base tb r i feet (some d) ⟨s,l,m⟩ K) v G = drawP C me arr base tb r i feet ⟨s,putT s d v l,m⟩ G K := by
 unfold AtO contP;simp only [AAct.put,putT];split <;> rfl
@[go_sem ↓] theorem contP_none (r : List Oper) (i : Nat) (feet : List Foot) (a : AAct) (K : PostS) (v : AV) (G : Heap) : AtO (contP C me arr base tb r i feet none a K) v G = drawP C me arr base tb r i feet a G K := rfl
@[go_sem ↓] theorem contQ_some (r : List Oper) (i : Nat) (feet : List Foot) (d : Tmp) (s : Nat) (l : List (Tmp × AV)) (m : List Nat) (G : Heap) (K : PostS) (v : AV) (G' : Heap) : AtO (contQ C me arr base tb r i feet (some d) ⟨s,l,m⟩ G K) v G' = drawP C me arr base tb r i feet ⟨s,putT s d v l,m⟩ G K := by
 unfold AtO contQ;simp only [AAct.put,putT];split <;> rfl
def stepDP (C : Cfg) (me : FuncId) (arr : Array Oper) (base : Nat) (tb : Tab) (d : Option Tmp) (op : Op) (r : List Oper) (i : Nat) (feet : List Foot) (a : AAct) (G : Heap) (K : PostS) : Prop :=
 iteB (plainOp op) (WpO C me d op a G 0 (contQ C me arr base tb.tail r (i + 1) (feet ++ [noFoot]) d a G K))
  (iteB (locOp op) (iteB (okFootT base (tb.headD ([],[],false)).2.1 (footD C me d op a (base + i)) && freeT feet (tb.headD ([],[],false)).1 (footD C me d op a (base + i)))
    (WpO C me d op a G (base + i) (contP C me arr base tb.tail r (i + 1) (feet ++ [footD C me d op a (base + i)]) d a K)) False)
   (iteB (tb.headD ([],[],false)).2.2
    (iteB (tb.headD ([],[],false)).1.isEmpty (effO C me base (base + arr.toList.length) (bareO d op) a G (contP C me arr base tb.tail r (i + 1) (feet ++ [effFoot]) d a K)) (iteB (freeT feet (tb.headD ([],[],false)).1 stillFoot) (stillO C me base (base + arr.toList.length) (tb.headD ([],[],false)).2.1 (bareO d op) a G (contP C me arr base tb.tail r (i + 1) (feet ++ [stillFoot]) d a K)) False))
    (iteB (freeT feet (tb.headD ([],[],false)).1 (idleFoot C me (bareO d op) a (base + i)))
     (WpJ C me d op a { objs := [],lock := 0 } (contQ C me arr base tb.tail r (i + 1) (feet ++ [idleFoot C me (bareO d op) a (base + i)]) d a G K)) False)))
@[congr] theorem stepDP_congr {d : Option Tmp} {op : Op} {r : List Oper} {i i' : Nat} {feet feet' : List Foot} {a a' : AAct} {G G' : Heap} {K : PostS} (hi : i = i') (hf : feet = feet') (ha : a = a') (hG : G = G') : stepDP C me arr base tb d op r i feet a G K = stepDP C me arr base tb d op r i' feet' a' G' K := by rw [hi,hf,ha,hG]
theorem drawP_step (o : Oper) (r : List Oper) (i : Nat) (feet : List Foot) (a : AAct) (G : Heap) (K : PostS) :
  drawP C me arr base tb (o :: r) i feet a G K = bindO (wantedA arr a o) fun w => iteB w (stepDP C me arr base tb o.dst o.op r i feet a G K) (drawP C me arr base tb.tail r (i + 1) (feet ++ [noFoot]) (a.put o.dst undefA) G K) := by
 have e1 : ∀ s,footA C me o a s = footD C me o.dst o.op a s := fun s => rfl
 have e2 : ∀ s,idleFoot C me o a s = idleFoot C me (bareO o.dst o.op) a s := fun s => rfl
 conv => lhs;unfold drawP
 unfold stepDP
 rw [plainOp_eq,e1,e2]
 congr 1
 funext w
 cases w
 ·rfl
 ·simp only [iteB_true]
  cases hp : plainOp o.op
  ·simp only [iteB_false]
   rfl
  ·simp only [iteB_true]
   unfold WpO
   have := plain_slot (C := C) (me := me) (o := bareO o.dst o.op) hp a G (base + i) 0
   show bindO (opA C (lim C) me (bareO o.dst o.op) a G (base + i)) _ = bindO (opA C (lim C) me (bareO o.dst o.op) a G 0) _
   rw [this];rfl
@[go_sem ↓] theorem drawP_op (d : Option Tmp) (op : Op) (ty : TypeId) (p : String) (af : Array Edge) (r : List Oper) (i : Nat) (feet : List Foot) (a : AAct) (G : Heap) (K : PostS) :
  drawP C me arr base tb (⟨d,op,ty,p,af,none⟩ :: r) i feet a G K = stepDP C me arr base tb d op r i feet a G K := by
 rw [drawP_step];rfl
@[go_sem ↓] theorem stepDP_move (d : Option Tmp) (x) (r : List Oper) (i : Nat) (feet : List Foot) (a : AAct) (G : Heap) (K : PostS) : stepDP C me arr base tb d (.move x) r i feet a G K = WpO C me d (.move x) a G 0 (contQ C me arr base tb.tail r (i + 1) (feet ++ [noFoot]) d a G K) := rfl
@[go_sem ↓] theorem stepDP_assign (d : Option Tmp) (x) (r : List Oper) (i : Nat) (feet : List Foot) (a : AAct) (G : Heap) (K : PostS) : stepDP C me arr base tb d (.assign x) r i feet a G K = WpO C me d (.assign x) a G 0 (contQ C me arr base tb.tail r (i + 1) (feet ++ [noFoot]) d a G K) := rfl
@[go_sem ↓] theorem stepDP_build (d : Option Tmp) (t y) (r : List Oper) (i : Nat) (feet : List Foot) (a : AAct) (G : Heap) (K : PostS) : stepDP C me arr base tb d (.build t y) r i feet a G K = WpO C me d (.build t y) a G 0 (contQ C me arr base tb.tail r (i + 1) (feet ++ [noFoot]) d a G K) := rfl
@[go_sem ↓] theorem stepDP_binOp (d : Option Tmp) (o t x y z) (r : List Oper) (i : Nat) (feet : List Foot) (a : AAct) (G : Heap) (K : PostS) : stepDP C me arr base tb d (.binOp o t x y z) r i feet a G K = WpO C me d (.binOp o t x y z) a G 0 (contQ C me arr base tb.tail r (i + 1) (feet ++ [noFoot]) d a G K) := rfl
@[go_sem ↓] theorem stepDP_fieldAddr (d : Option Tmp) (t x j) (r : List Oper) (i : Nat) (feet : List Foot) (a : AAct) (G : Heap) (K : PostS) : stepDP C me arr base tb d (.fieldAddr t x j) r i feet a G K = WpO C me d (.fieldAddr t x j) a G 0 (contQ C me arr base tb.tail r (i + 1) (feet ++ [noFoot]) d a G K) := rfl
@[go_sem ↓] theorem stepDP_indexAddr (d : Option Tmp) (t x y) (r : List Oper) (i : Nat) (feet : List Foot) (a : AAct) (G : Heap) (K : PostS) : stepDP C me arr base tb d (.indexAddr t x y) r i feet a G K = WpO C me d (.indexAddr t x y) a G 0 (contQ C me arr base tb.tail r (i + 1) (feet ++ [noFoot]) d a G K) := rfl
@[go_sem ↓] theorem stepDP_index (d : Option Tmp) (t x y) (r : List Oper) (i : Nat) (feet : List Foot) (a : AAct) (G : Heap) (K : PostS) : stepDP C me arr base tb d (.index t x y) r i feet a G K = WpO C me d (.index t x y) a G 0 (contQ C me arr base tb.tail r (i + 1) (feet ++ [noFoot]) d a G K) := rfl
@[go_sem ↓] theorem stepDP_load (d : Option Tmp) (t x) (r : List Oper) (i : Nat) (feet : List Foot) (a : AAct) (G : Heap) (K : PostS) : stepDP C me arr base tb d (.load t x) r i feet a G K = bindO (nf (footD C me d (.load t x) a (base + i))) fun ft => iteB (okFootT base (tb.headD ([],[],false)).2.1 ft && freeT feet (tb.headD ([],[],false)).1 ft) (WpO C me d (.load t x) a G (base + i) (contP C me arr base tb.tail r (i + 1) (feet ++ [ft]) d a K)) False := rfl
@[go_sem ↓] theorem stepDP_store (d : Option Tmp) (t x y) (r : List Oper) (i : Nat) (feet : List Foot) (a : AAct) (G : Heap) (K : PostS) : stepDP C me arr base tb d (.store t x y) r i feet a G K = bindO (nf (footD C me d (.store t x y) a (base + i))) fun ft => iteB (okFootT base (tb.headD ([],[],false)).2.1 ft && freeT feet (tb.headD ([],[],false)).1 ft) (WpO C me d (.store t x y) a G (base + i) (contP C me arr base tb.tail r (i + 1) (feet ++ [ft]) d a K)) False := rfl
@[go_sem ↓] theorem stepDP_alloc (d : Option Tmp) (t) (r : List Oper) (i : Nat) (feet : List Foot) (a : AAct) (G : Heap) (K : PostS) : stepDP C me arr base tb d (.alloc t) r i feet a G K = bindO (nf (footD C me d (.alloc t) a (base + i))) fun ft => iteB (okFootT base (tb.headD ([],[],false)).2.1 ft && freeT feet (tb.headD ([],[],false)).1 ft) (WpO C me d (.alloc t) a G (base + i) (contP C me arr base tb.tail r (i + 1) (feet ++ [ft]) d a K)) False := rfl
@[go_sem ↓] theorem stepDP_buildSlice (d : Option Tmp) (t n x) (r : List Oper) (i : Nat) (feet : List Foot) (a : AAct) (G : Heap) (K : PostS) : stepDP C me arr base tb d (.buildSlice t n x) r i feet a G K = bindO (nf (footD C me d (.buildSlice t n x) a (base + i))) fun ft => iteB (okFootT base (tb.headD ([],[],false)).2.1 ft && freeT feet (tb.headD ([],[],false)).1 ft) (WpO C me d (.buildSlice t n x) a G (base + i) (contP C me arr base tb.tail r (i + 1) (feet ++ [ft]) d a K)) False := rfl
@[go_sem ↓] theorem stepDP_slice (d : Option Tmp) (t x l h m) (r : List Oper) (i : Nat) (feet : List Foot) (a : AAct) (G : Heap) (K : PostS) : stepDP C me arr base tb d (.slice t x l h m) r i feet a G K = iteB (tb.headD ([],[],false)).2.2 (iteB (tb.headD ([],[],false)).1.isEmpty (effO C me base (base + arr.toList.length) (bareO d (.slice t x l h m)) a G (contP C me arr base tb.tail r (i + 1) (feet ++ [effFoot]) d a K)) (iteB (freeT feet (tb.headD ([],[],false)).1 stillFoot) (stillO C me base (base + arr.toList.length) (tb.headD ([],[],false)).2.1 (bareO d (.slice t x l h m)) a G (contP C me arr base tb.tail r (i + 1) (feet ++ [stillFoot]) d a K)) False)) (bindO (nf (idleFoot C me (bareO d (.slice t x l h m)) a (base + i))) fun ft => iteB (freeT feet (tb.headD ([],[],false)).1 ft) (WpJ C me d (.slice t x l h m) a { objs := [],lock := 0 } (contQ C me arr base tb.tail r (i + 1) (feet ++ [ft]) d a G K)) False) := rfl
@[go_sem ↓] theorem stepDP_len (d : Option Tmp) (args ts) (r : List Oper) (i : Nat) (feet : List Foot) (a : AAct) (G : Heap) (K : PostS) : stepDP C me arr base tb d (.call ⟨.builtin .len,args,ts⟩) r i feet a G K = iteB (tb.headD ([],[],false)).2.2 (iteB (tb.headD ([],[],false)).1.isEmpty (effO C me base (base + arr.toList.length) (bareO d (.call ⟨.builtin .len,args,ts⟩)) a G (contP C me arr base tb.tail r (i + 1) (feet ++ [effFoot]) d a K)) (iteB (freeT feet (tb.headD ([],[],false)).1 stillFoot) (stillO C me base (base + arr.toList.length) (tb.headD ([],[],false)).2.1 (bareO d (.call ⟨.builtin .len,args,ts⟩)) a G (contP C me arr base tb.tail r (i + 1) (feet ++ [stillFoot]) d a K)) False)) (bindO (nf (idleFoot C me (bareO d (.call ⟨.builtin .len,args,ts⟩)) a (base + i))) fun ft => iteB (freeT feet (tb.headD ([],[],false)).1 ft) (WpJ C me d (.call ⟨.builtin .len,args,ts⟩) a { objs := [],lock := 0 } (contQ C me arr base tb.tail r (i + 1) (feet ++ [ft]) d a G K)) False) := rfl
@[go_sem ↓] theorem stepDP_callv (d : Option Tmp) (g args ts) (r : List Oper) (i : Nat) (feet : List Foot) (a : AAct) (G : Heap) (K : PostS) : stepDP C me arr base tb d (.call ⟨.value g,args,ts⟩) r i feet a G K = iteB (tb.headD ([],[],false)).2.2 (iteB (tb.headD ([],[],false)).1.isEmpty (effO C me base (base + arr.toList.length) (bareO d (.call ⟨.value g,args,ts⟩)) a G (contP C me arr base tb.tail r (i + 1) (feet ++ [effFoot]) d a K)) (iteB (freeT feet (tb.headD ([],[],false)).1 stillFoot) (stillO C me base (base + arr.toList.length) (tb.headD ([],[],false)).2.1 (bareO d (.call ⟨.value g,args,ts⟩)) a G (contP C me arr base tb.tail r (i + 1) (feet ++ [stillFoot]) d a K)) False)) (bindO (nf (idleFoot C me (bareO d (.call ⟨.value g,args,ts⟩)) a (base + i))) fun ft => iteB (freeT feet (tb.headD ([],[],false)).1 ft) (WpJ C me d (.call ⟨.value g,args,ts⟩) a { objs := [],lock := 0 } (contQ C me arr base tb.tail r (i + 1) (feet ++ [ft]) d a G K)) False) := rfl
def objsE (o : Option AV) : List Nat := match o with | some v => objsOf v | none => []
@[go_sem] theorem objsE_some (v : AV) : objsE (some v) = objsOf v := rfl
@[go_sem] theorem objs_ptr (b v k : Nat) : objsOf (.ptr b v k) = [b] := rfl
@[go_sem] theorem objs_sl (b v o n : Nat) (c : Option Nat) : objsOf (.sl b v o n c) = [b] := rfl
@[go_sem] theorem objs_v (x : Value) : objsOf (.v x) = [] := rfl
@[go_sem] theorem objs_vs (s : Nat) (l : List AV) (c : Option Nat) : objsOf (.vs s l c) = [] := rfl
@[go_sem] theorem objs_ro (x : AV) (k : Nat) : objsOf (.ro x k) = [] := rfl
def objsL (a : AAct) : List Operand → List Nat
 | [] => []
 | x :: r => objsE (a.eval x) ++ objsL a r
theorem objsL_eq (a : AAct) : ∀ l : List Operand,l.flatMap (objsO a) = objsL a l
 | [] => rfl
 | x :: r => by rw [List.flatMap_cons,objsL_eq a r];rfl
@[go_sem] theorem objsL_nil (a : AAct) : objsL a [] = [] := rfl
@[go_sem] theorem objsL_cons (a : AAct) (x : Operand) (r : List Operand) : objsL a (x :: r) = objsE (a.eval x) ++ objsL a r := rfl
@[go_sem] theorem footD_load (d : Option Tmp) (t x) (a : AAct) (s : Nat) : footD C me d (.load t x) a s = ⟨some (objsE (a.eval x)),some [],[],false,false,0,false,noKept⟩ := rfl
@[go_sem] theorem footD_store (d : Option Tmp) (t x y) (a : AAct) (s : Nat) : footD C me d (.store t x y) a s = ⟨some (objsE (a.eval x)),some (objsE (a.eval x)),[],false,false,0,false,noKept⟩ := rfl
@[go_sem] theorem footD_alloc (d : Option Tmp) (t) (a : AAct) (s : Nat) : footD C me d (.alloc t) a s = ⟨some [],some [],[s],false,false,0,false,noKept⟩ := rfl
@[go_sem] theorem footD_build (d : Option Tmp) (t n x) (a : AAct) (s : Nat) : footD C me d (.buildSlice t n x) a s = ⟨some [],some [],[s],false,false,0,false,noKept⟩ := rfl
@[go_sem] theorem idleFoot_slice (d : Option Tmp) (t x l h m) (a : AAct) (s : Nat) : idleFoot C me (bareO d (.slice t x l h m)) a s = ⟨some (objsE (a.eval x)),some [],[],false,false,0,false,noKept⟩ := rfl
@[go_sem] theorem idleFoot_len (d : Option Tmp) (args ts) (a : AAct) (s : Nat) : idleFoot C me (bareO d (.call ⟨.builtin .len,args,ts⟩)) a s = ⟨some (objsL a args.toList),some [],[],false,false,0,false,noKept⟩ := by
 unfold idleFoot footA bareO;simp only
 rw [objsL_eq]
@[go_sem] theorem idleFoot_call (d : Option Tmp) (g args ts) (a : AAct) (s : Nat) : idleFoot C me (bareO d (.call ⟨.value g,args,ts⟩)) a s = ⟨some [],some [],[],false,false,0,false,noKept⟩ := rfl
@[go_sem] theorem okFootT_mk (b : Nat) (w l : List Nat) (x : Option (List Nat)) (f : List Nat) (p g : Bool) (n : Nat) (q : Bool) : okFootT b w ⟨some l,x,f,p,g,n,q,noKept⟩ = l.all fun c => ltB c b || w.any fun k => c == b + k := rfl
@[go_sem] theorem freeT_nil (feet : List Foot) (ft : Foot) : freeT feet [] ft = true := rfl
@[go_sem] theorem freeT_cons (feet : List Foot) (k : Nat) (u : List Nat) (ft : Foot) : freeT feet (k :: u) ft = (frOne (feet[k]?) ft && freeT feet u ft) := rfl
def meetL (l : List Nat) (m : List Nat) : Bool := l.any fun x => m.any fun y => x == y
@[go_sem] theorem meetL_nil (m : List Nat) : meetL [] m = false := rfl
@[go_sem] theorem meetL_nilr (l : List Nat) : meetL l [] = false := by unfold meetL;induction l <;> simp_all
theorem meet_L : ∀ l m : List Nat,meet (some l) (some m) = meetL l m
 | [],_ => rfl
 | x :: l,[] => by rw [meetL_nilr];rfl
 | x :: l,y :: m => by
  show ((x :: l).any (y :: m).contains) = _
  unfold meetL
  congr 1
  funext z
  exact List.contains_eq_any_beq
theorem keptL (r w : Option (List Nat)) (g : List Nat) (p gr q : Bool) (n : Nat) (l m : List Nat) : (meetL l m && !(keptAll ⟨r,w,g,p,gr,n,q,noKept⟩ (some m))) = meetL l m := by
 cases m with
 | nil => rw [meetL_nilr];rfl
 | cons x m => simp [keptAll,noKept]
theorem keptL' (r w : Option (List Nat)) (g : List Nat) (p gr q : Bool) (n : Nat) (l m : List Nat) : (meetL m l && !(keptAll ⟨r,w,g,p,gr,n,q,noKept⟩ (some m))) = meetL m l := by
 cases m with
 | nil => rfl
 | cons x m => simp [keptAll,noKept]
@[go_sem] theorem frOne_mk (r w f : List Nat) (p : Bool) (r' w' f' : List Nat) (p' : Bool) (n n' : Nat) (q q' : Bool) : frOne (some ⟨some r,some w,f,p,false,n,q,noKept⟩) ⟨some r',some w',f',p',false,n',q',noKept⟩ = !(meetL w r' || meetL w w' || meetL r w' || meetL f r' || meetL f w') := by
 unfold frOne clash
 simp only [meet_L,Bool.false_and,Bool.or_false]
 rw [keptL,keptL']
@[go_sem] theorem meetL_one (x y : Nat) : meetL [x] [y] = (x == y) := by simp [meetL]
@[go_sem] theorem ltB_zero (n : Nat) : ltB 0 (n + 1) = true := by simp [ltB]
@[go_sem] theorem ltB_succ (a n : Nat) : ltB (a + 1) (n + 1) = ltB a n := by simp [ltB]
@[go_sem] theorem tail_tab (x : List Nat × List Nat × Bool) (tb : Tab) : (x :: tb).tail = tb := rfl
@[congr] theorem stillV_congr {top : Nat} {vl : List Nat} {d : Option Tmp} {v v' : AV} {l l' : List AV} {G G' : Heap} {cont : AV → Heap → Prop} (hv : v = v') (hl : l = l') (hG : G = G') : stillV C me base top vl d v l G cont = stillV C me base top vl d v' l' G' cont := by rw [hv,hl,hG]
@[congr] theorem effV_congr {top : Nat} {d : Option Tmp} {v v' : AV} {l l' : List AV} {G G' : Heap} {cont : AV → Heap → Prop} (hv : v = v') (hl : l = l') (hG : G = G') : effV C me base top d v l G cont = effV C me base top d v' l' G' cont := by rw [hv,hl,hG]
end eqs
end
end Go.Ev
namespace Go.Ev
section
variable {P : Program}
def appTo (e sz by' : Nat) (H : Heap) (slot n : Nat) (new : List AV) (s : AV) : Option (AV × Heap) :=
 match s with
 | .v (.slice none 0 0) => if n = 0 then some (s,H) else (if fitsA by' n && ([] : List AV).all AV.flat then some (.sl slot 0 0 n none,H.put slot (.cells 0 (Nat.max (boundL []) (boundL new)) e sz true ([] ++ new))) else none)
 | .vs z xs cap =>
  if z ≠ sz then none else
  if n = 0 then some (s,H) else
  match cap with
  | some c => if c = xs.length then (if fitsA by' (xs.length + n) && (xs.flatMap AV.cells).all AV.flat then some (.sl slot 0 0 (xs.length + n) none,H.put slot (.cells 0 (Nat.max (boundL (xs.flatMap AV.cells)) (boundL new)) e sz true (xs.flatMap AV.cells ++ new))) else none) else none
  | none => none
 | .sl b v off len cap =>
  if n = 0 then some (s,H) else
  match H.row b v with
  | some (m,e1,z,g,cs) =>
   match cap with
   | some c =>
    if len + n ≤ c then
     (match storeCells H b v (off + len * sz) new with | some H' => some (.sl b v off (len + n) cap,H') | none => none)
    else if off + len * sz ≤ cs.length then (if fitsA by' (len + n) && ((cs.drop off).take (len * sz)).all AV.flat then some (.sl slot 0 0 (len + n) none,H.put slot (.cells 0 (Nat.max (boundL ((cs.drop off).take (len * sz))) (boundL new)) e sz true ((cs.drop off).take (len * sz) ++ new))) else none) else none
   | none =>
    if z ≠ sz then none else
    if off + (len + n) * sz ≤ cs.length then
     (match storeCells H b v (off + len * sz) new with | some H' => some (.sl b v off (len + n) cap,H') | none => none)
    else if g = true ∧ off + len * sz = cs.length ∧ H.lock ≤ b ∧ fitsA by' (len + n) = true ∧ e1 = e then
     some (.sl b (v + 1) 0 (len + n) none,H.put b (.cells (v + 1) (Nat.max m (boundL new)) e sz true (cs.drop off ++ new)))
    else none
  | _ => none
 | _ => none
theorem appTo_eq (e : TypeId) (i : TypeInfo) (H : Heap) (slot n : Nat) (new : List AV) (s : AV) : appendTo H slot e i n new s = appTo e i.size i.bytes H slot n new s := by
 unfold appendTo appTo madeA
 rfl
def appG (e sz by' : Nat) (H : Heap) (slot : Nat) (s : AV) (c : Option (Nat × List AV)) : Option (AV × Heap) :=
 match c with
 | none => none
 | some (n,new) => if new.all AV.flat = false then none else appTo e sz by' H slot n new s
theorem app_eq {t u e : TypeId} {i : TypeInfo} {z : AV} (hi : isIntT P u = false) (hu : P.underlying t = some (.slice e)) (hinf : P.info? e = some i) (hz : zeroT P e = some z) (h1 : i.size ≠ 0) (h2 : i.bytes ≠ 0) (h3 : z.cells.length = i.size) (H : Heap) (slot : Nat) (s x : AV) :
  appendA P H slot [t,u] [s,x] = appG e i.size i.bytes H slot s (cellsFrom H i.size x) := by
 unfold appendA appG
 simp only [hi,hu,hinf,hz,Bool.false_eq_true,if_false]
 cases cellsFrom H i.size x with
 | none => rfl
 | some p =>
  simp only
  by_cases hf : p.2.all AV.flat = false
  ·rw [if_pos (Or.inr (Or.inr (Or.inl hf))),if_pos hf]
  ·rw [if_neg (by rintro (h | h | h | h);exact h1 h;exact h2 h;exact hf h;exact h h3),if_neg hf,appTo_eq]
theorem app_eq2 {t u e sz by' : Nat} (hi : isIntT P u = false) (hu : P.underlying t = some (.slice e)) (hinf : (P.info? e).map (fun i => (i.size,i.bytes)) = some (sz,by')) (hz : (zeroT P e).map (fun z => z.cells.length) = some sz) (h1 : sz ≠ 0) (h2 : by' ≠ 0) (H : Heap) (slot : Nat) (s x : AV) :
  appendA P H slot [t,u] [s,x] = appG e sz by' H slot s (cellsFrom H sz x) := by
 obtain ⟨i,hi1,hi2⟩ := Option.map_eq_some_iff.1 hinf
 obtain ⟨z,hz1,hz2⟩ := Option.map_eq_some_iff.1 hz
 simp only [Prod.mk.injEq] at hi2
 obtain ⟨rfl,rfl⟩ := hi2
 exact app_eq hi hu hi1 hz1 h1 h2 hz2 H slot s x
end
@[go_sem] theorem appG_some (e sz b : Nat) (H : Heap) (slot : Nat) (s : AV) (n : Nat) (new : List AV) : appG e sz b H slot s (some (n,new)) = if new.all AV.flat = false then none else appTo e sz b H slot n new s := rfl
@[go_sem] theorem cells_vs' (H : Heap) (sz z : Nat) (xs : List AV) (c : Option Nat) : cellsFrom H sz (.vs z xs c) = if z = sz then some (xs.length,xs.flatMap AV.cells) else none := rfl
@[go_sem] theorem cells_nil (H : Heap) (sz : Nat) : cellsFrom H sz (.v (.slice none 0 0)) = some (0,[]) := rfl
def rowCells (off len sz : Nat) (r : Option (Nat × TypeId × Nat × Bool × List AV)) : Option (Nat × List AV) := match r with | some (_,_,_,_,cs) => if off + len * sz ≤ cs.length then some (len,(cs.drop off).take (len * sz)) else none | _ => none
@[go_sem] theorem cells_sl' (H : Heap) (sz b v off len : Nat) (c : Option Nat) : cellsFrom H sz (.sl b v off len c) = rowCells off len sz (H.row b v) := rfl
@[go_sem] theorem rowCells_some (off len sz m e z : Nat) (g : Bool) (cs : List AV) : rowCells off len sz (some (m,e,z,g,cs)) = if off + len * sz ≤ cs.length then some (len,(cs.drop off).take (len * sz)) else none := rfl
@[go_sem] theorem appTo_nil (e sz b : Nat) (H : Heap) (slot n : Nat) (new : List AV) : appTo e sz b H slot n new (.v (.slice none 0 0)) = if n = 0 then some (.v (.slice none 0 0),H) else if fitsA b n = true then some (.sl slot 0 0 n none,H.put slot (.cells 0 (boundL new) e sz true new)) else none := by
 unfold appTo
 simp only [List.all_nil,Bool.and_true,List.nil_append]
 rw [show Nat.max (boundL []) (boundL new) = boundL new from Nat.zero_max (boundL new)]
theorem appTo_own {e sz b' : Nat} {H : Heap} {slot b v len n : Nat} {new : List AV} {m e' : Nat} {cs : List AV} (hr : H.row b v = some (m,e',sz,true,cs)) (hl : len * sz = cs.length) (hk : H.lock ≤ b) (hf : fitsA b' (len + n) = true) (hn : 0 < n) (hs : 0 < sz) (he : e' = e := by rfl) :
  appTo e sz b' H slot n new (.sl b v 0 len none) = some (.sl b (v + 1) 0 (len + n) none,H.put b (.cells (v + 1) (Nat.max m (boundL new)) e sz true (cs ++ new))) := by
 unfold appTo
 simp only [hr]
 rw [if_neg (by omega),if_neg (by simp),if_neg,if_pos ⟨trivial,by simpa using hl,hk,hf,he⟩]
 ·rfl
 ·have : (len + n) * sz = len * sz + n * sz := Nat.add_mul ..
  have h2 : 0 < n * sz := Nat.mul_pos hn hs
  omega
theorem appTo_none {e sz b' : Nat} {H : Heap} {slot : Nat} {new : List AV} {b v off len : Nat} {c : Option Nat} : appTo e sz b' H slot 0 new (.sl b v off len c) = some (.sl b v off len c,H) := by
 unfold appTo;rfl
@[go_sem] theorem plus_mk (l : List (Option AObj)) (k : Nat) (E : List (Option AObj)) : (Heap.mk l k).plus E = ⟨l ++ E,k⟩ := rfl
section
variable {X : Heap} {N : Nat}
theorem rowP (hN : X.size = N) (E : List (Option AObj)) (k v : Nat) : (X.plus E).row (N + k) v = objRow v ((E[k]?).join) := by
 subst hN
 unfold Heap.row objRow
 rw [plus_get_hi _ (by omega),Nat.add_sub_cancel_left]
 cases (E[k]?).join with
 | none => rfl
 | some o => cases o <;> rfl
theorem rowP0 (hN : X.size = N) (E : List (Option AObj)) (v : Nat) : (X.plus E).row N v = objRow v ((E[0]?).join) := rowP hN E 0 v
theorem putP (hN : X.size = N) (E : List (Option AObj)) (k : Nat) (o : AObj) : (X.plus E).put (N + k) o = X.plus (setOrPush (some o) k E) := by
 subst hN
 rw [plus_put_hi _ _ (by omega),Nat.add_sub_cancel_left]
theorem putP0 (hN : X.size = N) (E : List (Option AObj)) (o : AObj) : (X.plus E).put N o = X.plus (setOrPush (some o) 0 E) := putP hN E 0 o
def stP (X : Heap) (E : List (Option AObj)) (k v off : Nat) (xs : List AV) (o : Option AObj) : Option Heap :=
 match o with
 | some (.cells w m e sz g cs) => if w = v ∧ off + xs.length ≤ cs.length ∧ xs.all AV.flat = true then some (X.plus (setOrPush (some (.cells w (Nat.max m (boundL xs)) e sz g (splice off xs cs))) k E)) else none
 | _ => none
@[go_sem] theorem stP_cells (X : Heap) (E : List (Option AObj)) (k v off : Nat) (xs : List AV) (w m e sz g) (cs : List AV) : stP X E k v off xs (some (.cells w m e sz g cs)) = if w = v ∧ off + xs.length ≤ cs.length ∧ xs.all AV.flat = true then some (X.plus (setOrPush (some (.cells w (Nat.max m (boundL xs)) e sz g (splice off xs cs))) k E)) else none := rfl
theorem storeP (hN : X.size = N) (hl : X.lock ≤ N) (E : List (Option AObj)) (k v off : Nat) (xs : List AV) : storeCells (X.plus E) (N + k) v off xs = stP X E k v off xs ((E[k]?).join) := by
 unfold storeCells
 rw [rowP hN]
 unfold objRow stP
 have hk : (X.plus E).lock ≤ N + k := by rw [plus_lock];omega
 cases (E[k]?).join with
 | none => rfl
 | some o =>
  cases o with
  | cells w m e sz g cs =>
   simp only
   by_cases hw : w = v
   ·subst hw
    simp only [if_true,true_and,hk,putP hN]
   ·simp only [hw,if_false,false_and]
  | _ => rfl
theorem storeP0 (hN : X.size = N) (hl : X.lock ≤ N) (E : List (Option AObj)) (v off : Nat) (xs : List AV) : storeCells (X.plus E) N v off xs = stP X E 0 v off xs ((E[0]?).join) := storeP hN hl E 0 v off xs
theorem sizeP (hN : X.size = N) (E : List (Option AObj)) : (X.plus E).size = N + E.length := by rw [plus_size,hN]
theorem settleP (hN : X.size = N) (E : List (Option AObj)) (k : Nat) : settleH (N + k) (X.plus E) = if (E.drop k).all Option.isNone = true then X.plus (E.take k) else X.plus E := by
 subst hN
 unfold settleH Heap.plus Heap.size
 simp only
 rw [List.drop_append,List.drop_of_length_le (by omega),List.nil_append,Nat.add_sub_cancel_left]
 by_cases h : (E.drop k).all Option.isNone = true
 ·rw [if_pos h,if_pos h,List.take_append,List.take_of_length_le (by omega),Nat.add_sub_cancel_left]
 ·rw [if_neg h,if_neg h]
theorem settleP0 (hN : X.size = N) (E : List (Option AObj)) : settleH N (X.plus E) = if (E.drop 0).all Option.isNone = true then X.plus (E.take 0) else X.plus E := settleP hN E 0
theorem rowLo {b : Nat} (hb : b < X.size) (E : List (Option AObj)) (v : Nat) : (X.plus E).row b v = X.row b v := plus_row E hb
theorem putLo {b : Nat} (hb : b < X.size) (E : List (Option AObj)) (o : AObj) : (X.plus E).put b o = (X.put b o).plus E := plus_put E o hb
end
section
variable {C : Cfg} {me : FuncId} {rd : Option Nat}
theorem wp_drawX {id : Nat} {ops : Array Oper} {a : AAct} {H : Heap} {K : Post} (tb : Tab) (hok : drawOk ops = true) (htb : tabOk ops.toList (waitsAll ops.toList) tb = true)
  (h : drawP C me ops H.size tb ops.toList 0 [] a (H.plus (List.replicate ops.toList.length none)) (setK C me H.size K)) (hnear : ∀ d,C.near me d = false := by intro d;rfl) : Wp C me rd (.region id ops true) a H K := wp_drawD tb hok htb h hnear
end
end Go.Ev
namespace Go.Ev
def HasE (rows : Fm) (E : List (Option AObj)) : Prop := ∀ p ∈ rows,E[p.1]? = some (some p.2)
structure MovesE (rows : Fm) (E : List (Option AObj)) (rows' : Fm) (E' : List (Option AObj)) : Prop where
 size : E.length ≤ E'.length
 same : ∀ j,j < E.length → ¬ keyIn j rows → E'[j]? = E[j]?
 keys : ∀ p ∈ rows',keyIn p.1 rows ∨ E.length ≤ p.1
theorem MovesE.refl (rows : Fm) (E : List (Option AObj)) : MovesE rows E rows E := ⟨Nat.le_refl _,fun _ _ _ => rfl,fun p hp => Or.inl ⟨p,hp,rfl⟩⟩
theorem MovesE.append (rows : Fm) (E G : List (Option AObj)) : MovesE rows E rows (E ++ G) := ⟨by simp,fun j hj _ => List.getElem?_append_left hj,fun p hp => Or.inl ⟨p,hp,rfl⟩⟩
theorem HasE.append {rows : Fm} {E : List (Option AObj)} (h : HasE rows E) (G : List (Option AObj)) : HasE rows (E ++ G) := fun p hp => by
 rw [List.getElem?_append_left (List.getElem?_eq_some_iff.1 (h p hp)).1];exact h p hp
section
variable {C : Cfg} {me : FuncId} {S : Type}
theorem get_list {l : List (Option AObj)} {k b : Nat} {o : AObj} (h : l[b]? = some (some o)) : (Heap.mk l k).get b = some o := by
 unfold Heap.get;rw [h];rfl
end
end Go.Ev
namespace Go.Ev
theorem ltB_n0 (a : Nat) : ltB a 0 = false := by simp [ltB]
attribute [go_sem] ltB_n0 List.any_cons List.any_nil repeatCells splice chunk bsFin ne_eq not_true_eq_false not_false_eq_true List.headD_cons Bool.false_eq_true Nat.le_refl Nat.zero_mul Nat.one_mul Nat.mul_one assoc_setI decide_true decide_false Bool.not_true Bool.not_false List.mem_cons List.not_mem_nil true_or or_true false_or or_false and_true true_and and_self List.getElem?_cons_succ List.getElem?_cons_zero Option.bind_some Option.map_some Option.map_none List.map_cons List.map_nil List.length_cons List.length_nil List.filterMap_cons List.filterMap_nil List.cons_append List.nil_append List.append_nil Nat.zero_add Nat.add_zero List.take_succ_cons List.take_zero List.take_nil List.drop_succ_cons List.drop_zero List.drop_nil List.all_cons List.all_nil Bool.and_true Bool.true_and Bool.false_and Bool.and_false Bool.or_true Bool.true_or Bool.or_false Bool.false_or beq_iff_eq beq_self_eq_true List.zip_cons_cons List.zip_nil_right List.zip_nil_left
end Go.Ev
namespace Go.Ev
open Go.Proofs
attribute [local irreducible] Wp WpS
theorem ans65 {e : Exts} (he : Quiet e) (a : Int) (n : Nat) (hn : n < 2 ^ 63) : Ans (Cx e) 119 [intA a,intA n] (.v (.bool (decide (0 ≤ a ∧ a < n)))) := by
 have hw : IntKind.i64.wrap ((n : Int) - 1) = (n : Int) - 1 := wrap_in _ (by omega) (by omega)
 have hc := call69 he 0 ((n : Int) - 1) [a] (by simp) (.vs 1 [.v (.int .i64 a)] (some 1)) (Or.inr ⟨_,rfl⟩)
 rw [within_len] at hc
 unfold intA at hc
 unfold Ans
 rw [fn_step (fn_119 e) (show Tryz.f119.body = some _ from rfl)]
 simp -implicitDefEqProofs only [Tryz.f119,go_sem,↓reduceIte,Int.reduceEq,Int.reduceLT,Int.reduceLE,List.reduceReplicate,intA,setT_nil,setT_cons,hw,hc]
theorem call65 {e : Exts} (he : Quiet e) (a : Int) (n : Nat) (hn : n < 2 ^ 63) (me : FuncId) (d : Option Tmp) (H : Heap) : callA (Cx e) (lim (Cx e)) me 119 d [.v (.int .i64 a),.v (.int .i64 n)] H = some (.v (.bool (decide (0 ≤ a ∧ a < n))),H) :=
 (ans65 he a n hn).call (ext_119 he) (pure_119 _ _ _) rfl H
theorem callI65 {e : Exts} (he : Quiet e) (a : Int) (n : Nat) (hn : n < 2 ^ 63) (me : FuncId) (d : Option Tmp) : callI (Cx e) me 119 d [.v (.int .i64 a),.v (.int .i64 n)] = some (.v (.bool (decide (0 ≤ a ∧ a < n)))) :=
 (ans65 he a n hn).callI (ext_119 he) (pure_119 _ _ _) rfl
theorem ans45 {e : Exts} (he : Quiet e) (t : Txt) (ht : Fits t) (ch : AV) (xs : List AV) (hch : SlOf 2 xs ch) (hall : All2 ChapA t xs) (a b c : Int) : ∃ x,LineO (lineAt t a b) x ∧ Ans (Cx e) 88 [.agg [ch],.agg [intA a,intA b,intA c]] x := by
 have hc1 := call65 he a t.length ht.chs
 by_cases h1 : 0 ≤ a ∧ a < t.length
 ·obtain ⟨i,rfl⟩ : ∃ i : Nat,a = i := ⟨a.toNat,by omega⟩
  obtain ⟨cp,hs⟩ := at_lt t i (by omega)
  obtain ⟨y,hy,l,rfl,lxs,hl,hls⟩ := hall.get hs
  have hm := List.mem_of_getElem? hs
  have hc2 := call65 he b cp.2.length (ht.lines cp hm)
  rw [decide_eq_true h1] at hc1
  by_cases h2 : 0 ≤ b ∧ b < cp.2.length
  ·obtain ⟨j,rfl⟩ : ∃ j : Nat,b = j := ⟨b.toNat,by omega⟩
   obtain ⟨ln,hn⟩ := at_lt cp.2 j (by omega)
   obtain ⟨lx,hx,hlx⟩ := hls.get hn
   have hlx : SlOf 1 (strs ln) lx := hlx
   rw [decide_eq_true h2] at hc2
   have hL : lineAt t i j = some ln := by unfold lineAt;rw [if_pos (by omega)];simp [hs,hn]
   rw [hL]
   refine ⟨lx,hlx, ?_⟩
   unfold Ans
   rw [fn_step (fn_88 e) (show Tryz.f88.body = some _ from rfl)]
   simp -implicitDefEqProofs only [Tryz.f88,go_sem,↓reduceIte,Int.reduceEq,Int.reduceLT,Int.reduceLE,List.reduceReplicate,intA,setT_nil,setT_cons,hch.cells,hch.flat,hch.bound,hch.len,← hall.1,hc1,hch.idx hy,hl.len,hl.cells,← hls.1,hc2,hl.idx hx,hlx.cells]
   rcases hlx with ⟨rfl, -⟩ | ⟨cap,rfl⟩ <;> rfl
  ·rw [decide_eq_false h2] at hc2
   have hL : lineAt t i b = none := by
    unfold lineAt
    split
    ·simp only [Int.toNat_natCast,hs,Option.bind_some]
     rw [List.getElem?_eq_none_iff];omega
    ·rfl
   rw [hL]
   refine ⟨_,rfl, ?_⟩
   unfold Ans
   rw [fn_step (fn_88 e) (show Tryz.f88.body = some _ from rfl)]
   simp -implicitDefEqProofs only [Tryz.f88,go_sem,↓reduceIte,Int.reduceEq,Int.reduceLT,Int.reduceLE,List.reduceReplicate,intA,setT_nil,setT_cons,hch.cells,hch.flat,hch.bound,hch.len,← hall.1,hc1,hch.idx hy,hl.len,hl.cells,← hls.1,hc2]
 ·rw [decide_eq_false h1] at hc1
  have hL : lineAt t a b = none := by
   unfold lineAt
   split
   ·have : t[a.toNat]? = none := by rw [List.getElem?_eq_none_iff];omega
    rw [this];rfl
   ·rfl
  rw [hL]
  refine ⟨_,rfl, ?_⟩
  unfold Ans
  rw [fn_step (fn_88 e) (show Tryz.f88.body = some _ from rfl)]
  simp -implicitDefEqProofs only [Tryz.f88,go_sem,↓reduceIte,Int.reduceEq,Int.reduceLT,Int.reduceLE,List.reduceReplicate,intA,setT_nil,setT_cons,hch.cells,hch.flat,hch.bound,hch.len,← hall.1,hc1]
theorem LineO.bound {o : Option Line} {x : AV} (h : LineO o x) : bound x = 0 := by
 cases o with
 | none => simp only [LineO] at h;subst h;rfl
 | some l => exact SlOf.bound h
theorem call45 {e : Exts} (he : Quiet e) (t : Txt) (ht : Fits t) (ch : AV) (xs : List AV) (hch : SlOf 2 xs ch) (hall : All2 ChapA t xs) (a b c : Int) : ∃ x,LineO (lineAt t a b) x ∧ (∀ (me : FuncId) (d : Option Tmp) (H : Heap),callA (Cx e) (lim (Cx e)) me 88 d [.agg [ch],.agg [.v (.int .i64 a),.v (.int .i64 b),.v (.int .i64 c)]] H = some (x,H)) ∧ ∀ (me : FuncId) (d : Option Tmp),callI (Cx e) me 88 d [.agg [ch],.agg [.v (.int .i64 a),.v (.int .i64 b),.v (.int .i64 c)]] = some x := by
 obtain ⟨x,hx,h⟩ := ans45 he t ht ch xs hch hall a b c
 exact ⟨x,hx,fun me d H => h.call (ext_88 he) (pure_88 _ _ _) (by simp only [boundL_cons,bound_agg,hch.bound,boundL_nil,intA,bound_v];rfl) H,fun me d => h.callI (ext_88 he) (pure_88 _ _ _) (by simp only [boundL_cons,bound_agg,hch.bound,boundL_nil,intA,bound_v];rfl)⟩
end Go.Ev
namespace Go.Ev
open Go.Proofs
attribute [local irreducible] Wp WpS
theorem ans44 {e : Exts} (he : Quiet e) (t : Txt) (ht : Fits t) (ch : AV) (xs : List AV) (hch : SlOf 2 xs ch) (hall : All2 ChapA t xs) (a b c : Int) : Ans (Cx e) 87 [.agg [ch],.agg [intA a,intA b,intA c]] (.v (.bool (placeB' t a b c))) := by
 obtain ⟨x,hx, -,hc⟩ := call45 he t ht ch xs hch hall a b c
 unfold placeB' Ans
 rw [fn_step (fn_87 e) (show Tryz.f87.body = some _ from rfl)]
 cases hL : lineAt t a b with
 | none =>
  rw [hL] at hx
  simp only [LineO] at hx
  subst hx
  have h65 := callI65 he c 0 (by omega)
  rw [decide_eq_false (by omega)] at h65
  simp -implicitDefEqProofs only [Tryz.f87,go_sem,↓reduceIte,Int.reduceEq,Int.reduceLT,Int.reduceLE,List.reduceReplicate,intA,setT_nil,setT_cons,hch.cells,hch.flat,hch.bound]
  refine wp_draw (by kernel_rfl) ?_
  simp -implicitDefEqProofs only [go_sem,↓reduceIte,Int.reduceEq,Int.reduceLT,Int.reduceLE,List.reduceReplicate,intA,setT_nil,setT_cons,hch.cells,hch.flat,hch.bound,hc]
  show bindO (callI (Cx e) 87 119 (some 11) [.v (.int .i64 c),.v (.int .i64 0)]) _
  rw [show ((0 : Nat) : Int) = 0 from rfl] at h65
  rw [h65];rfl
 | some l =>
  rw [hL] at hx
  have hx : SlOf 1 (strs l) x := hx
  obtain ⟨cp,hcm,hlm⟩ := lineAt_mem hL
  have h65 := callI65 he c l.length (ht.words cp hcm l hlm)
  simp -implicitDefEqProofs only [Tryz.f87,go_sem,↓reduceIte,Int.reduceEq,Int.reduceLT,Int.reduceLE,List.reduceReplicate,intA,setT_nil,setT_cons,hch.cells,hch.flat,hch.bound]
  refine wp_draw (by kernel_rfl) ?_
  simp -implicitDefEqProofs only [go_sem,↓reduceIte,Int.reduceEq,Int.reduceLT,Int.reduceLE,List.reduceReplicate,intA,setT_nil,setT_cons,hch.cells,hch.flat,hch.bound,hc,hx.len,hx.lenI,strs_len,h65]
theorem call44 {e : Exts} (he : Quiet e) (t : Txt) (ht : Fits t) (ch : AV) (xs : List AV) (hch : SlOf 2 xs ch) (hall : All2 ChapA t xs) (a b c : Int) (me : FuncId) (d : Option Tmp) (H : Heap) : callA (Cx e) (lim (Cx e)) me 87 d [.agg [ch],.agg [.v (.int .i64 a),.v (.int .i64 b),.v (.int .i64 c)]] H = some (.v (.bool (placeB' t a b c)),H) :=
 (ans44 he t ht ch xs hch hall a b c).call (ext_87 he) (pure_87 _ _ _) (by simp only [boundL_cons,bound_agg,hch.bound,boundL_nil,intA,bound_v];rfl) H
end Go.Ev
namespace Go.Ev
open Go.Proofs
attribute [local irreducible] Wp WpS
structure Rd where
 ch : Int
 ln : Int
 wd : Int
 kind : Int
 word : ByteArray
end Go.Ev
namespace Go.Ev
open Go.Proofs
attribute [local irreducible] Wp WpS
theorem str_eqB (u w : ByteArray) : bytesEq u.data.toList w.data.toList = decide (u = w) := by
 rw [bytesEq_iff,Bool.eq_iff_iff]
 simp only [decide_eq_true_eq]
 exact (str_ext u w).symm
theorem bin_seq {P : Program} {t : TypeId} (x y : Operand) (u w : ByteArray) : binA P .eql t x y (.v (.string u)) (.v (.string w)) = some (.v (.bool (decide (u = w)))) := by
 rw [← str_eqB];rfl
def emp : ByteArray := ⟨#[]⟩
def at0 (l : Line) (i : Int) : ByteArray := (l[i.toNat]?).getD emp
def fits1 (l : Line) (r : Rd) : Bool := decide (0 ≤ r.wd ∧ r.wd < l.length) && decide (r.word = emp)
def fits2 (l : Line) (r : Rd) : Bool := withinB 0 l.length [r.wd] && wordB r.word
def fits3 (l : Line) (r : Rd) : Bool := decide (0 ≤ r.wd ∧ r.wd < l.length) && wordB r.word && !decide (r.word = at0 l r.wd)
end Go.Ev
namespace Go.Ev
open Go.Proofs
@[go_sem] theorem app_41 (H : Heap) (slot : Nat) (s x : AV) : appendA Tryz.prog H slot [41,41] [s,x] = appG 28 3 24 H slot s (cellsFrom H 3 x) := app_eq2 (by kernel_rfl) und_41 (by kernel_rfl) (by kernel_rfl) (by decide) (by decide) H slot s x
@[go_sem] theorem app_87 (H : Heap) (slot : Nat) (s x : AV) : appendA Tryz.prog H slot [87,87] [s,x] = appG 9 1 16 H slot s (cellsFrom H 1 x) := app_eq2 (by kernel_rfl) und_87 (by kernel_rfl) (by kernel_rfl) (by decide) (by decide) H slot s x
@[go_sem] theorem app_118 (H : Heap) (slot : Nat) (s x : AV) : appendA Tryz.prog H slot [118,118] [s,x] = appG 121 4 64 H slot s (cellsFrom H 4 x) := app_eq2 (by kernel_rfl) und_118 (by kernel_rfl) (by kernel_rfl) (by decide) (by decide) H slot s x
end Go.Ev
namespace Go.Ev
open Go.Proofs
attribute [local irreducible] Wp WpS
structure RdF (r : Rd) : Prop where
 lo : 0 ≤ r.kind
 hi : r.kind < 256
 word : r.word.size < 2 ^ 63
theorem conv_u8 (n : Int) (h0 : 0 ≤ n) (h1 : n < 256) : convA Tryz.prog 5 3 (.v (.int .u8 n)) = some (.v (.int .i64 n)) := by
 have : convA Tryz.prog 5 3 (.v (.int .u8 n)) = some (.v (.int .i64 (IntKind.i64.wrap n))) := by kernel_rfl
 rw [this,wrap_in n (by omega) (by omega)]
theorem slLen_none : slLen (.v (.slice none 0 0)) = some (.v (.int .i64 0)) := rfl
end Go.Ev
namespace Go.Ev
open Go.Proofs
attribute [local irreducible] Wp WpS
def atLine (ch ln wd : Int) (r : Rd) : Bool := eqP r.ch r.ln 0 ch ln wd
theorem bound_sl (b v o n : Nat) (c : Option Nat) : bound (.sl b v o n c) = b + 1 := rfl
end Go.Ev
namespace Go.Ev
open Go.Proofs
attribute [local irreducible] Wp WpS
end Go.Ev
namespace Go.Ev
open Go.Proofs
attribute [local irreducible] Wp WpS
theorem SlOf.objs {sz : Nat} {xs : List AV} {x : AV} (h : SlOf sz xs x) : objsOf x = [] := by rcases h with ⟨rfl,rfl⟩ | ⟨cap,rfl⟩ <;> rfl
theorem strs_cells : ∀ vs : List ByteArray,(strs vs).flatMap AV.cells = strs vs
 | [] => rfl
 | v :: vs => by unfold strs at *;rw [List.map_cons,List.flatMap_cons];have := strs_cells vs;unfold strs at this;rw [this];rfl
theorem strs_flat (vs : List ByteArray) : (strs vs).all AV.flat = true := by unfold strs;rw [List.all_map];exact List.all_eq_true.2 fun _ _ => rfl
end Go.Ev
namespace Go.Ev
open Go.Proofs
attribute [local irreducible] Wp WpS
def rowOf : AV → Option Nat
 | .sl b _ _ _ _ => some b
 | _ => none
def DoneR (X : Heap) (ds : List ByteArray) (dv : AV) : Prop :=
 (ds = [] ∧ dv = .v (.slice none 0 0)) ∨ ∃ b v,X.lock ≤ b ∧ b < X.size ∧ dv = .sl b v 0 ds.length none ∧ X.row b v = some (0,9,1,true,strs ds)
structure Turned (X Y : Heap) (dv dv' : AV) (ds' : List ByteArray) : Prop where
 lock : Y.lock = X.lock
 size : X.size ≤ Y.size
 same : ∀ i,i < X.size → rowOf dv ≠ some i → Y.get i = X.get i
 done : DoneR Y ds' dv'
 row : rowOf dv' = rowOf dv ∨ ∃ i,rowOf dv' = some i ∧ X.size ≤ i
theorem row_put_same {H : Heap} {b v m e sz : Nat} {g : Bool} {cs : List AV} (hb : b < H.size) : (H.put b (.cells v m e sz g cs)).row b v = some (m,e,sz,g,cs) := by
 unfold Heap.row
 rw [put_get_eq _ (by omega)]
 simp
end Go.Ev
namespace Go.Ev
open Go.Proofs
attribute [local irreducible] Wp WpS
theorem takeH_get {n i : Nat} {H : Heap} (hi : i < n) : ({ H with objs := H.objs.take n } : Heap).get i = H.get i := by
 unfold Heap.get
 simp only
 rw [List.getElem?_take,if_pos hi]
theorem settle_some {n i : Nat} {H : Heap} {o : AObj} (h : H.get i = some o) : (settleH n H).get i = some o := by
 unfold settleH
 split
 ·rename_i ha
  by_cases hi : i < n
  ·rw [takeH_get hi];exact h
  ·exfalso
   unfold Heap.get at h
   have h2 : (H.objs.drop n)[i - n]? = some (some o) := by
    rw [List.getElem?_drop,show n + (i - n) = i by omega]
    cases hq : H.objs[i]? with
    | none => rw [hq] at h;exact nomatch h
    | some z => rw [hq] at h;simp only [Option.join] at h;rw [show z = some o from h]
   have := List.all_eq_true.1 ha _ (List.mem_of_getElem? h2)
   exact nomatch this
 ·exact h
theorem settle_lock {n : Nat} {H : Heap} : (settleH n H).lock = H.lock := by unfold settleH;split <;> rfl
theorem row_of_get {H : Heap} {b v m e sz : Nat} {g : Bool} {cs : List AV} (h : H.row b v = some (m,e,sz,g,cs)) : H.get b = some (.cells v m e sz g cs) := by
 unfold Heap.row at h
 split at h
 ·rename_i hq;split at h
  ·rename_i hv;subst hv;simp only [Option.some.injEq,Prod.mk.injEq] at h;obtain ⟨rfl,rfl,rfl,rfl,rfl⟩ := h;exact hq
  ·exact nomatch h
 ·exact nomatch h
theorem get_row {H : Heap} {b v m e sz : Nat} {g : Bool} {cs : List AV} (h : H.get b = some (.cells v m e sz g cs)) : H.row b v = some (m,e,sz,g,cs) := by
 unfold Heap.row;rw [h];simp
theorem get_size {H : Heap} {b : Nat} {o : AObj} (h : H.get b = some o) : b < H.size := by
 unfold Heap.get at h
 unfold Heap.size
 cases hq : H.objs[b]? with
 | none => rw [hq] at h;exact nomatch h
 | some z => exact (List.getElem?_eq_some_iff.1 hq).1
theorem DoneR.put {X : Heap} {ds : List ByteArray} {dv : AV} (h : DoneR X ds dv) {i : Nat} (o : AObj) (hi : i < X.size) (hne : rowOf dv ≠ some i) : DoneR (X.put i o) ds dv := by
 rcases h with h | ⟨b,v,h1,h2,rfl,h4⟩
 ·exact Or.inl h
 ·refine Or.inr ⟨b,v,h1,by rw [put_sizeI _ hi];exact h2,rfl,get_row ?_⟩
  rw [put_get_ne _ (by omega) (fun h => hne (by rw [← h];rfl))]
  exact row_of_get h4
theorem DoneR.settle {X : Heap} {ds : List ByteArray} {dv : AV} (h : DoneR X ds dv) (n : Nat) : DoneR (settleH n X) ds dv := by
 rcases h with h | ⟨b,v,h1,h2,rfl,h4⟩
 ·exact Or.inl h
 ·have := settle_some (n := n) (row_of_get h4)
  exact Or.inr ⟨b,v,by rw [settle_lock];exact h1,get_size this,rfl,get_row this⟩
theorem DoneR.trim {X : Heap} {ds : List ByteArray} {dv : AV} (h : DoneR X ds dv) (n : Nat) (lx : AV) : DoneR (X.trim n [.agg [lx,dv]] []) ds dv := by
 rcases h with h | ⟨b,v,h1,h2,rfl,h4⟩
 ·exact Or.inl h
 ·unfold Heap.trim
  split
  ·rename_i hq
   rw [Bool.and_eq_true,Bool.and_eq_true,Bool.and_eq_true,Nat.ble_eq] at hq
   have hb : b < n := by
    have h5 := hq.1.1.1
    have : b + 1 ≤ boundL [.agg [lx,.sl b v 0 ds.length none]] := by
     simp only [boundL,bound]
     exact Nat.le_trans (Nat.le_trans (Nat.le_max_left _ _) (Nat.le_max_right _ _)) (Nat.le_max_left _ _)
    omega
   have hg := (takeH_get (H := X) hb).trans (row_of_get h4)
   exact Or.inr ⟨b,v,h1,get_size hg,rfl,get_row hg⟩
  ·exact Or.inr ⟨b,v,h1,h2,rfl,h4⟩
theorem trim_lo {n i : Nat} {H : Heap} {vs : List AV} {ms : List Nat} (hi : i < n) : (H.trim n vs ms).get i = H.get i := by
 unfold Heap.trim
 split
 ·exact takeH_get hi
 ·rfl
theorem trim_size' {n : Nat} {H : Heap} {vs : List AV} {ms : List Nat} (h : n ≤ H.size) : n ≤ (H.trim n vs ms).size := by
 unfold Heap.trim
 split
 ·unfold Heap.size at *;simp only [List.length_take];omega
 ·exact h
theorem trim_lock {n : Nat} {H : Heap} {vs : List AV} {ms : List Nat} : (H.trim n vs ms).lock = H.lock := by unfold Heap.trim;split <;> rfl
end Go.Ev
namespace Go.Ev
open Go.Proofs
attribute [local irreducible] Wp WpS
theorem DoneR.plus {X : Heap} {ds : List ByteArray} {dv : AV} (h : DoneR X ds dv) (E : List (Option AObj)) : DoneR (X.plus E) ds dv := by
 rcases h with h | ⟨b,v,h1,h2,rfl,h4⟩
 ·exact Or.inl h
 ·exact Or.inr ⟨b,v,h1,by rw [plus_size];omega,rfl,by rw [rowLo h2];exact h4⟩
theorem DoneR.below {X : Heap} {ds : List ByteArray} {dv : AV} (h : DoneR X ds dv) {i : Nat} (hi : X.size ≤ i) : rowOf dv ≠ some i := by
 rcases h with ⟨_,rfl⟩ | ⟨b,v,h1,h2,rfl,h4⟩
 ·exact fun h => nomatch h
 ·intro h;simp only [rowOf,Option.some.injEq] at h;omega
theorem Turned.off {X Y : Heap} {dv dv' : AV} {_ds ds' : List ByteArray} (ht : Turned X Y dv dv' ds') {i : Nat} (hi : i < X.size) (hne : rowOf dv ≠ some i) : rowOf dv' ≠ some i := by
 rcases ht.row with h | ⟨j,h,hj⟩
 ·rw [h];exact hne
 ·rw [h];intro h;simp only [Option.some.injEq] at h;omega
theorem DoneR.flat {X : Heap} {ds : List ByteArray} {dv : AV} (h : DoneR X ds dv) : dv.flat = true ∧ dv.cells = [dv] := by
 rcases h with ⟨_,rfl⟩ | ⟨b,v,h1,h2,rfl,h4⟩ <;> exact ⟨rfl,rfl⟩
end Go.Ev
namespace Go.Ev
open Go.Proofs
attribute [local irreducible] Wp WpS
theorem storeLo {X : Heap} {b m e sz : Nat} {g : Bool} {cs xs : List AV} (hb : b < X.size) (hlk : X.lock ≤ b) (hr : X.row b 0 = some (m,e,sz,g,cs)) (hx : xs.length = cs.length) (hf : xs.all AV.flat = true) (E : List (Option AObj)) :
  storeCells (X.plus E) b 0 0 xs = some ((X.put b (.cells 0 (Nat.max m (boundL xs)) e sz g xs)).plus E) := by
 have hs : splice 0 xs cs = xs := by unfold splice;rw [List.take_zero,List.nil_append,Nat.zero_add,hx,List.drop_length,List.append_nil]
 unfold storeCells
 rw [rowLo hb,hr]
 have hl : (X.plus E).lock ≤ b := hlk
 simp only [hl,hf,hx,Nat.zero_add,Nat.le_refl,and_self,if_true,hs,putLo hb,true_and]
def rdOne (ls : List ByteArray) (st : Nat × List ByteArray) (r : Rd) : Nat × List ByteArray :=
 (if r.kind = 2 then r.wd.toNat else r.wd.toNat + 1,st.2 ++ (ls.drop st.1).take (r.wd.toNat - st.1) ++ if r.kind = 1 then [] else [r.word])
theorem chunk_one : ∀ (l : List AV),chunk 1 l.length l = l
 | [] => rfl
 | x :: r => by
  show (if 1 = 1 then (x :: r).headD undefA else _) :: chunk 1 r.length ((x :: r).drop 1) = x :: r
  rw [if_pos rfl,List.drop_one,List.tail_cons,chunk_one r];rfl
theorem trim_whole {H : Heap} {n : Nat} (h : H.size ≤ n) (vs : List AV) (ms : List Nat) : H.trim n vs ms = H := by
 unfold Heap.trim
 split
 ·unfold Heap.size at h
  rw [List.take_of_length_le h]
 ·rfl
def readLineL (ls : List ByteArray) (l : List Rd) : List ByteArray := (l.foldl (rdOne ls) (0,[])).2 ++ ls.drop (l.foldl (rdOne ls) (0,[])).1
end Go.Ev
namespace Go.Ev
open Go.Proofs
attribute [local irreducible] Wp WpS
def Clear (base top : Nat) (dv : AV) : Prop := ∀ i,rowOf dv = some i → i < base ∨ top ≤ i
structure Behind (base top : Nat) (G G' : Heap) (dv dv' : AV) (ds' : List ByteArray) : Prop where
 lock : G'.lock = G.lock
 size : G.size ≤ G'.size
 same : ∀ i,i < base → rowOf dv ≠ some i → G'.get i = G.get i
 done : DoneR G' ds' dv'
 clear : Clear base top dv'
 row : rowOf dv' = rowOf dv ∨ ∃ i,rowOf dv' = some i ∧ G.size ≤ i
theorem Behind.off {base top : Nat} {G G' : Heap} {dv dv' : AV} {ds' : List ByteArray} (h : Behind base top G G' dv dv' ds') {i : Nat} (hi : i < G.size) (hne : rowOf dv ≠ some i) : rowOf dv' ≠ some i := by
 rcases h.row with h | ⟨j,h,hj⟩
 ·rw [h];exact hne
 ·rw [h];intro h;simp only [Option.some.injEq] at h;omega
end Go.Ev
namespace Go.Ev
open Go.Proofs
attribute [local irreducible] Wp WpS
end Go.Ev
namespace Go.Ev
open Go.Proofs
attribute [local irreducible] Wp WpS
end Go.Ev
namespace Go.Ev
open Go.Proofs
attribute [local irreducible] Wp WpS
structure Cst where
 id : AV
 ls : List AV
 b : Nat
 v : Nat
def Cst.sl (c : Cst) : AV := if c.ls = [] then .v (.slice none 0 0) else .sl c.b c.v 0 c.ls.length none
def Cst.cells (c : Cst) : List AV := [c.id,c.sl]
def Cst.fz (c : Cst) : AV := if c.ls = [] then .v (.slice none 0 0) else .vs 1 c.ls none
end Go.Ev
namespace Go.Ev
open Go.Proofs
attribute [local irreducible] Wp WpS
end Go.Ev
namespace Go.Ev
open Go.Proofs
attribute [local irreducible] Wp WpS
def SlH (X : Heap) (xs : List AV) (x : AV) : Prop := SlOf 1 xs x ∨ ∃ b v cap m e g cs,x = .sl b v 0 xs.length cap ∧ b < X.size ∧ X.row b v = some (m,e,1,g,cs) ∧ cs.take xs.length = xs ∧ xs.length ≤ cs.length
theorem SlH.len {X : Heap} {xs : List AV} {x : AV} (h : SlH X xs x) : slLen x = some (.v (.int .i64 xs.length)) := by
 rcases h with h | ⟨b,v,cap,m,e,g,cs,rfl, -⟩
 ·exact h.len
 ·rfl
theorem SlH.get {X : Heap} {N : Nat} (hN : X.size = N) {xs : List AV} {x : AV} (h : SlH X xs x) {i : Nat} {z : AV} (hz : xs[i]? = some z) (hzc : z.cells = [z]) (k : IntKind) :
  ∃ p,slIdx 1 x (.v (.int k (i : Int))) = some p ∧ (∀ (t : TypeId) E,isAggT Tryz.prog t = some false → sizeT Tryz.prog t = some 1 → loadA Tryz.prog (X.plus E) t p = some z) ∧ ∀ top,N ≤ top → (objsOf p).all (fun c => ltB c top) = true := by
 have hi := (List.getElem?_eq_some_iff.1 hz).1
 rcases h with h | ⟨b,v,cap,m,e,g,cs,rfl,hb,hr,ht,hl⟩
 ·refine ⟨.ro z 0,h.idx hz k,fun t E ha hs => ?_,fun _ _ => rfl⟩
  unfold loadA partOf
  rw [ha,hs]
  show z.cells[0]? = some z
  rw [hzc];rfl
 ·refine ⟨.ptr b v (0 + i * 1), ?_,fun t E ha hs => ?_,fun top h => ?_⟩
  ·unfold slIdx
   simp;omega
  ·have hrow : (X.plus E).row b v = some (m,e,1,g,cs) := by rw [rowLo hb,hr]
   unfold loadA
   simp only [hrow]
   unfold partOf
   rw [ha,hs]
   simp only
   rw [Nat.zero_add,Nat.mul_one,← List.getElem?_take_of_lt (j := xs.length) hi,ht,hz]
  ·simp only [objsOf,List.all_cons,List.all_nil,Bool.and_true]
   unfold ltB
   simp;omega
theorem SlH.lock {X : Heap} {xs : List AV} {x : AV} (h : SlH X xs x) (k : Nat) : SlH { X with lock := k } xs x := by
 rcases h with h | ⟨b,v,cap,m,e,g,cs,rfl,hb,hr,ht⟩
 ·exact Or.inl h
 ·exact Or.inr ⟨b,v,cap,m,e,g,cs,rfl,hb,hr,ht⟩
theorem SlH.closed {X : Heap} {xs : List AV} {x : AV} (h : SlH X xs x) (hb : bound x = 0) (Y : Heap) : SlH Y xs x := by
 rcases h with h | ⟨b,v,cap,m,e,g,cs,rfl, -⟩
 ·exact Or.inl h
 ·simp [bound] at hb
theorem SlH.yld {X : Heap} {xs : List AV} {x : AV} (h : SlH X xs x) : isYld x = false := by
 rcases h with h | ⟨b,v,cap,m,e,g,cs,rfl, -⟩
 ·rcases h with ⟨rfl,_⟩ | ⟨c,rfl⟩ <;> rfl
 ·rfl
theorem callA_still {C : Cfg} {me f : FuncId} {d : Option Tmp} {args : List AV} {X : Heap} {w : Value} (hx : C.ext f = none) (hp : C.pure me f d = true) (hy : args.any isYld = false)
  (h1 : boundL args = 0 → Fn' C f args { objs := [],lock := 0 } (fun v _ => v = .v w)) (h2 : Fn' C f args { X with lock := X.size } (fun v _ => v = .v w)) (hh : C.exh f = none := by rfl) : callA C (lim C) me f d args X = some (.v w,X) := by
 rw [callA_none hx hh];unfold callB callKind
 simp only [hp,if_true]
 by_cases hb : boundL args = 0
 ·have h1 := h1 hb
  unfold Fn' at h1
  rw [bindO_iff] at h1
  obtain ⟨o,h3,h4⟩ := h1
  rw [if_pos (by rw [hb];rfl)]
  cases o with
  | ret v H => obtain rfl : v = .v w := h4;simp only [h3];rfl
  | _ => exact h4.elim
 ·unfold Fn' at h2
  rw [bindO_iff] at h2
  obtain ⟨o,h3,h4⟩ := h2
  rw [if_neg (fun h => hb (Nat.eq_of_beq_eq_true h)),hy]
  simp only [Bool.false_eq_true,if_false]
  cases o with
  | ret v H => obtain rfl : v = .v w := h4;simp only [h3];rfl
  | _ => exact h4.elim
end Go.Ev
namespace Go.Ev
open Go.Proofs
attribute [local irreducible] Wp WpS
theorem drop_eq_cons {α : Type} {xs : List α} {j : Nat} {x : α} (h : xs[j]? = some x) : xs.drop j = x :: xs.drop (j + 1) := by
 obtain ⟨hj,rfl⟩ := List.getElem?_eq_some_iff.1 h
 exact List.drop_eq_getElem_cons hj
theorem isAgg9 : isAggT Tryz.prog 9 = some false := by kernel_rfl
end Go.Ev
namespace Go.Ev
open Go.Proofs
attribute [local irreducible] Wp WpS
end Go.Ev
namespace Go.Ev
open Go.Proofs
attribute [local irreducible] Wp WpS
end Go.Ev
namespace Go.Ev
open Go.Proofs
attribute [local irreducible] Wp WpS
def readB (t : Txt) (r : Rd) : Bool := match lineAt t r.ch r.ln with | none => false | some l => if r.kind = 1 then fits1 l r else if r.kind = 2 then fits2 l r else if r.kind = 3 then fits3 l r else false
end Go.Ev
namespace Go.Ev
open Go.Proofs
attribute [local irreducible] Wp WpS
def refI (k n w : Int) (s : List ByteArray × ByteArray) (r : Rd) : List ByteArray × ByteArray :=
 if r.ch = k ∧ r.ln = n ∧ r.wd = w then if r.kind = 2 then (s.1 ++ [r.word],s.2) else (s.1,r.word) else s
def refW (l : Line) (rs : List Rd) (k n : Int) (ds : List ByteArray) (w : Nat) : List ByteArray :=
 let s := rs.foldl (refI k n w) (ds,(l[w]?).getD emp)
 if s.2 = emp then s.1 else s.1 ++ [s.2]
def refLine (l : Line) (rs : List Rd) (k n : Int) : List ByteArray := (List.range (l.length + 1)).foldl (refW l rs k n) []
structure M79 (id : Int) (x : AV) (H : Heap) (ds : List ByteArray) (out : AV) : Prop where
 lock : H.lock = 0
 size : 2 ≤ H.size
 b1 : H.get 1 = some (.cells 0 0 66 1 false [.v (.int .i64 id),x])
 done : DoneR H ds out
theorem M79.plus {id : Int} {x : AV} {H : Heap} {ds : List ByteArray} {out : AV} (h : M79 id x H ds out) (E : List (Option AObj)) : M79 id x (H.plus E) ds out :=
 ⟨h.lock,by have := h.size;rw [plus_size];omega,(plus_get E (by have := h.size;omega)).trans h.b1,h.done.plus E⟩
theorem M79.trim {id : Int} {x : AV} {H : Heap} {ds : List ByteArray} {out : AV} (h : M79 id x H ds out) {n : Nat} (hn : 2 ≤ n) (hn2 : n ≤ H.size) (vs : List AV) (ms : List Nat) (hv : bound out ≤ boundL vs) : M79 id x (H.trim n vs ms) ds out := by
 refine ⟨trim_lock.trans h.lock,Nat.le_trans hn (trim_size' hn2),(trim_lo (by omega)).trans h.b1, ?_⟩
 rcases h.done with hd | ⟨b,v,h1,h2,rfl,h4⟩
 ·exact Or.inl hd
 ·unfold Heap.trim
  split
  ·rename_i hq
   rw [Bool.and_eq_true,Bool.and_eq_true,Bool.and_eq_true,Nat.ble_eq] at hq
   have h5 := hq.1.1.1
   have hb : b < n := by simp only [bound] at hv;omega
   have hg := (takeH_get (H := H) hb).trans (row_of_get h4)
   exact Or.inr ⟨b,v,h1,get_size hg,rfl,get_row hg⟩
  ·exact Or.inr ⟨b,v,h1,h2,rfl,h4⟩
theorem M79.more {id : Int} {x : AV} {H : Heap} {ds : List ByteArray} {b v : Nat} (h : M79 id x H ds (.sl b v 0 ds.length none)) (hb : b < H.size) (hr : H.row b v = some (0,9,1,true,strs ds)) (s : List ByteArray) (n : Nat) (hn : n = ds.length + s.length) : M79 id x (H.put b (.cells (v + 1) 0 9 1 true (strs (ds ++ s)))) (ds ++ s) (.sl b (v + 1) 0 n none) := by
 have hne : 1 ≠ b := by
  rintro rfl
  have := (row_of_get hr).symm.trans h.b1
  simp at this
 refine ⟨h.lock,by rw [put_sizeI _ hb];exact h.size,(put_get_ne _ (by have := h.size;omega) hne).trans h.b1,Or.inr ⟨b,v + 1, ?_,by rw [put_sizeI _ hb];exact hb,by rw [hn,List.length_append],row_put_same hb⟩⟩
 have := h.lock
 show H.lock ≤ b
 omega
theorem M79.new {id : Int} {x : AV} {H : Heap} {ds : List ByteArray} {out : AV} (h : M79 id x H ds out) {N : Nat} (hN : H.size = N) (E : List (Option AObj)) (k : Nat) (ds' : List ByteArray) (hE : E[k]? = some (some (.cells 0 0 9 1 true (strs ds')))) : M79 id x (H.plus E) ds' (.sl (N + k) 0 0 ds'.length none) := by
 have hk := (List.getElem?_eq_some_iff.1 hE).1
 refine ⟨h.lock,by have := h.size;rw [plus_size];omega,(plus_get E (by have := h.size;omega)).trans h.b1,Or.inr ⟨N + k,0, ?_,by rw [plus_size];omega,rfl, ?_⟩⟩
 ·have := h.lock
  show H.lock ≤ _
  omega
 ·rw [rowP hN,hE];rfl
end Go.Ev
namespace Go.Ev
open Go.Proofs
attribute [local irreducible] Wp WpS
end Go.Ev
namespace Go.Ev
open Go.Proofs
attribute [local irreducible] Wp WpS
end Go.Ev
namespace Go.Ev
open Go.Proofs
attribute [local irreducible] Wp WpS
def pairR (p r : Rd) : Bool := !(beforeB (r.ch,r.ln,r.wd) (p.ch,p.ln,p.wd) || (eqP r.ch r.ln r.wd p.ch p.ln p.wd && !decide (p.kind = 2)))
def rdsB (t : Txt) : Option Rd → List Rd → Bool
 | _,[] => true
 | p,r :: l => readB t r && (match p with | none => true | some p => pairR p r) && rdsB t (some r) l
def linesN (rs : List Rd) (k : Nat) : Nat → List Line → Bool
 | _,[] => true
 | n,l :: r => withinB 1 10 [((refLine l rs k n).length : Int)] && linesN rs k (n + 1) r
def chapsN (rs : List Rd) : Nat → Txt → Bool
 | _,[] => true
 | k,c :: r => linesN rs k 0 c.2 && chapsN rs (k + 1) r
def copyB (t : Txt) (id : Int) (rs : List Rd) : Bool := withinB 0 9999 [id] && !decide (20 < (rs.length : Int)) && (rdsB t none rs && chapsN rs 0 t)
end Go.Ev
namespace Go.Ev
open Go.Proofs
attribute [local irreducible] Wp WpS
end Go.Ev
namespace Go.Ev
open Go.Proofs
attribute [local irreducible] Wp WpS
def takesB (a b c : Int) (r : Rd) : Bool := eqP r.ch r.ln r.wd a b c && !decide (r.kind = 2)
def standL (rs : List Rd) (a b c : Int) (own : ByteArray) : ByteArray := match rs.find? (takesB a b c) with | some r => r.word | none => own
end Go.Ev
namespace Go.Ev
open Go.Proofs
attribute [local irreducible] Wp WpS
end Go.Ev
namespace Go.Ev
open Go.Proofs
attribute [local irreducible] Wp WpS
theorem isAgg3 : isAggT Tryz.prog 3 = some false := by kernel_rfl
end Go.Ev
namespace Go.Ev
open Go.Proofs
attribute [local irreducible] Wp WpS
end Go.Ev
namespace Go.Ev
open Go.Proofs
attribute [local irreducible] Wp WpS
end Go.Ev
namespace Go.Ev
open Go.Proofs
def Bhd (a b : Rd) : Prop := a.wd ≤ b.wd ∧ (a.kind ≠ 2 → a.wd < b.wd)
structure Way (ls : Line) (on : Rd → Prop) (W : List Rd → List ByteArray → Nat → List ByteArray) : Prop where
 none : ∀ ds w s,ls[w]? = some s → W [] ds w = ds ++ [s]
 last : ∀ ds,W [] ds ls.length = ds
 skip : ∀ (r : Rd) (l : List Rd) (ds : List ByteArray) (w : Nat),r.wd ≠ (w : Nat) → W (r :: l) ds w = W l ds w
 put : ∀ (r : Rd) (l : List Rd) (ds : List ByteArray) (w : Nat),on r → r.wd = (w : Nat) → r.kind = 2 → W (r :: l) ds w = W l (ds ++ [r.word]) w
 other : ∀ (r : Rd) (l : List Rd) (ds : List ByteArray) (w : Nat),on r → r.wd = (w : Nat) → r.kind ≠ 2 → w < ls.length → (∀ q ∈ l,q.wd ≠ (w : Nat)) → W (r :: l) ds w = ds ++ if r.word = emp then [] else [r.word]
theorem Way.far {ls : Line} {on : Rd → Prop} {W : List Rd → List ByteArray → Nat → List ByteArray} (hW : Way ls on W) (ds : List ByteArray) (w : Nat) : ∀ l : List Rd,(∀ r ∈ l,r.wd ≠ (w : Nat)) → W l ds w = W [] ds w
 | [],_ => rfl
 | r :: l,h => by rw [hW.skip r l ds w (h r (List.mem_cons_self ..)),hW.far ds w l fun q hq => h q (List.mem_cons_of_mem _ hq)]
theorem drop_take_succ (ls : Line) (p n : Nat) (s : ByteArray) (h : ls[p]? = some s) : (ls.drop p).take (n + 1) = s :: (ls.drop (p + 1)).take n := by
 obtain ⟨hp,rfl⟩ := List.getElem?_eq_some_iff.1 h
 rw [List.drop_eq_getElem_cons hp,List.take_succ_cons]
theorem Way.free {ls : Line} {on : Rd → Prop} {W : List Rd → List ByteArray → Nat → List ByteArray} (hW : Way ls on W) (l : List Rd) : ∀ (n p : Nat) (ds : List ByteArray),p + n ≤ ls.length → (∀ r ∈ l,((p + n : Nat) : Int) ≤ r.wd) → (List.range' p n).foldl (W l) ds = ds ++ (ls.drop p).take n
 | 0,p,ds,_,_ => by simp
 | n + 1,p,ds,h1,h2 => by
  obtain ⟨s,hs⟩ := at_lt ls p (by omega)
  rw [List.range'_succ,List.foldl_cons,hW.far ds p l (fun r hr => by have := h2 r hr;omega),hW.none ds p s hs,hW.free l n (p + 1) (ds ++ [s]) (by omega) (fun r hr => by have := h2 r hr;omega),drop_take_succ ls p n s hs,List.append_assoc]
  rfl
theorem foldl_eq {α β : Type} {f g : α → β → α} : ∀ (l : List β) (a : α),(∀ b ∈ l,∀ a,f a b = g a b) → l.foldl f a = l.foldl g a
 | [],_,_ => rfl
 | b :: l,a,h => by rw [List.foldl_cons,List.foldl_cons,h b (List.mem_cons_self ..) a,foldl_eq l _ fun c hc => h c (List.mem_cons_of_mem _ hc)]
theorem range'_split (p q n : Nat) (h1 : p ≤ q) (h2 : q ≤ n) : List.range' p (n - p) = List.range' p (q - p) ++ List.range' q (n - q) := by
 have h := List.range'_append (s := p) (m := q - p) (n := n - q) (step := 1)
 rw [Nat.one_mul,show p + (q - p) = q by omega,show q - p + (n - q) = n - p by omega] at h
 exact h.symm
structure RdW (ls : Line) (r : Rd) : Prop where
 kind : r.kind = 1 ∨ r.kind = 2 ∨ r.kind = 3
 word : r.kind = 1 ↔ r.word = emp
 hi : r.wd + (if r.kind = 2 then 0 else 1) ≤ ls.length
theorem way_read {ls : Line} {on : Rd → Prop} {W : List Rd → List ByteArray → Nat → List ByteArray} (hW : Way ls on W) : ∀ (l : List Rd) (p : Nat) (ds : List ByteArray),p ≤ ls.length → (∀ r ∈ l,on r ∧ RdW ls r ∧ (p : Int) ≤ r.wd) → l.Pairwise Bhd →
  (List.range' p (ls.length + 1 - p)).foldl (W l) ds = (l.foldl (rdOne ls) (p,ds)).2 ++ ls.drop (l.foldl (rdOne ls) (p,ds)).1
 | [],p,ds,hp,_,_ => by
  rw [range'_split p ls.length (ls.length + 1) hp (Nat.le_succ _),List.foldl_append,hW.free [] (ls.length - p) p ds (by omega) (fun r hr => nomatch hr),Nat.add_sub_cancel_left]
  show W [] _ ls.length = _
  rw [hW.last]
  show _ = ds ++ ls.drop p
  rw [List.take_of_length_le (by rw [List.length_drop];exact Nat.le_refl _)]
 | r :: l,p,ds,hp,hr,hs => by
  obtain ⟨hon,hrw,hpw⟩ := hr r (List.mem_cons_self ..)
  obtain ⟨hb,hs'⟩ := List.pairwise_cons.1 hs
  obtain ⟨q,hq⟩ : ∃ q : Nat,r.wd = q := ⟨r.wd.toNat,by omega⟩
  have hhi := hrw.hi
  have hql : q ≤ ls.length := by split at hhi <;> omega
  have hqt : r.wd.toNat = q := by omega
  have hall : ∀ x ∈ r :: l,(q : Int) ≤ x.wd := fun x hx => by
   rcases List.mem_cons.1 hx with rfl | hx
   ·omega
   ·have := (hb x hx).1;omega
  have hf := hW.free (r :: l) (q - p) p ds (by omega) (fun x hx => by have := hall x hx;omega)
  rw [range'_split p q (ls.length + 1) (by omega) (by omega),List.foldl_append,hf]
  have hrest : ∀ (a : List ByteArray) (n : Nat),(List.range' (q + 1) n).foldl (W (r :: l)) a = (List.range' (q + 1) n).foldl (W l) a := fun a n =>
   foldl_eq _ a fun w hw a => hW.skip r l a w (by have := (List.mem_range'_1.1 hw).1;omega)
  by_cases hk : r.kind = 2
  ·have hd : (r :: l).foldl (rdOne ls) (p,ds) = l.foldl (rdOne ls) (q,ds ++ (ls.drop p).take (q - p) ++ [r.word]) := by
    rw [List.foldl_cons];unfold rdOne
    simp only [hk,hqt,if_true]
    rw [if_neg (by omega)]
   rw [hd,← way_read hW l q _ hql (fun x hx => ⟨(hr x (List.mem_cons_of_mem _ hx)).1,(hr x (List.mem_cons_of_mem _ hx)).2.1,hall x (List.mem_cons_of_mem _ hx)⟩) hs']
   rw [show ls.length + 1 - q = (ls.length - q) + 1 by omega,List.range'_succ,List.foldl_cons,List.foldl_cons,hW.put r l _ q hon hq hk,hrest]
  ·have hlt : q < ls.length := by rw [if_neg hk] at hhi;omega
   have hne : ∀ x ∈ l,x.wd ≠ (q : Nat) := fun x hx => by have := (hb x hx).2 hk;omega
   have hw : (if r.kind = 1 then ([] : List ByteArray) else [r.word]) = if r.word = emp then [] else [r.word] := by
    by_cases h1 : r.kind = 1
    ·rw [if_pos h1,if_pos (hrw.word.1 h1)]
    ·rw [if_neg h1,if_neg (fun h => h1 (hrw.word.2 h))]
   have hd : (r :: l).foldl (rdOne ls) (p,ds) = l.foldl (rdOne ls) (q + 1,ds ++ (ls.drop p).take (q - p) ++ if r.word = emp then [] else [r.word]) := by
    rw [List.foldl_cons];unfold rdOne
    simp only [hk,hqt,if_false,hw]
   rw [hd,← way_read hW l (q + 1) _ hlt (fun x hx => ⟨(hr x (List.mem_cons_of_mem _ hx)).1,(hr x (List.mem_cons_of_mem _ hx)).2.1,by have := (hb x hx).2 hk;omega⟩) hs']
   rw [show ls.length + 1 - q = (ls.length + 1 - (q + 1)) + 1 by omega,List.range'_succ,List.foldl_cons,hW.other r l _ q hon hq hk hlt hne,hrest]
theorem way_line {ls : Line} {on : Rd → Prop} {W : List Rd → List ByteArray → Nat → List ByteArray} (hW : Way ls on W) (l : List Rd) (hr : ∀ r ∈ l,on r ∧ RdW ls r ∧ 0 ≤ r.wd) (hs : l.Pairwise Bhd) : (List.range (ls.length + 1)).foldl (W l) [] = readLineL ls l := by
 rw [List.range_eq_range']
 exact way_read hW l 0 [] (Nat.zero_le _) hr hs
theorem refI_far (k n : Int) (w : Nat) (l : List Rd) (h : ∀ q ∈ l,q.wd ≠ (w : Nat)) (s : List ByteArray × ByteArray) : l.foldl (refI k n w) s = s := by
 induction l generalizing s with
 | nil => rfl
 | cons r l ih =>
  have : refI k n w s r = s := by unfold refI;rw [if_neg (fun hh => h r (List.mem_cons_self ..) hh.2.2)]
  rw [List.foldl_cons,this,ih fun q hq => h q (List.mem_cons_of_mem _ hq)]
theorem way_ref (ls : Line) (hne : ∀ s ∈ ls,s ≠ emp) (k n : Int) : Way ls (fun r => r.ch = k ∧ r.ln = n) (fun l => refW ls l k n) := by
 refine ⟨fun ds w s hs => ?_,fun ds => ?_,fun r l ds w h => ?_,fun r l ds w ho h hk => ?_,fun r l ds w ho h hk hw hf => ?_⟩
 ·unfold refW
  simp only [List.foldl_nil,hs,Option.getD_some]
  rw [if_neg (hne s (List.mem_of_getElem? hs))]
 ·unfold refW
  simp only [List.foldl_nil,List.getElem?_eq_none_iff.2 (Nat.le_refl _),Option.getD_none,if_true]
 ·unfold refW
  rw [List.foldl_cons,show refI k n w (ds,(ls[w]?).getD emp) r = (ds,(ls[w]?).getD emp) by unfold refI;rw [if_neg (fun hh => h hh.2.2)]]
 ·unfold refW
  rw [List.foldl_cons,show refI k n w (ds,(ls[w]?).getD emp) r = (ds ++ [r.word],(ls[w]?).getD emp) by unfold refI;rw [if_pos ⟨ho.1,ho.2,h⟩,if_pos hk]]
 ·unfold refW
  rw [List.foldl_cons,show refI k n w (ds,(ls[w]?).getD emp) r = (ds,r.word) by unfold refI;rw [if_pos ⟨ho.1,ho.2,h⟩,if_neg hk],refI_far k n w l hf]
  simp only
  split
  ·rw [List.append_nil]
  ·rfl
theorem atLine_iff {k n : Int} {r : Rd} : atLine k n 0 r = true ↔ r.ch = k ∧ r.ln = n := by
 unfold atLine eqP;simp
theorem refW_filter (ls : Line) (rs : List Rd) (k n : Int) (ds : List ByteArray) (w : Nat) : refW ls rs k n ds w = refW ls (rs.filter (atLine k n 0)) k n ds w := by
 have h : ∀ (l : List Rd) (s : List ByteArray × ByteArray),l.foldl (refI k n w) s = (l.filter (atLine k n 0)).foldl (refI k n w) s := by
  intro l
  induction l with
  | nil => intro s;rfl
  | cons r l ih =>
   intro s
   cases ha : atLine k n 0 r
   ·have : refI k n w s r = s := by unfold refI;rw [if_neg (fun hh => by rw [atLine_iff.2 ⟨hh.1,hh.2.1⟩] at ha;cases ha)]
    rw [List.foldl_cons,this,ih,List.filter_cons_of_neg (by rw [ha];simp)]
   ·rw [List.filter_cons_of_pos ha,List.foldl_cons,List.foldl_cons,ih]
 unfold refW;rw [h rs]
def putAt (k n w : Int) (r : Rd) : Bool := decide (r.kind = 2) && eqP r.ch r.ln r.wd k n w
def lawW (ls : Line) (rs : List Rd) (k n : Int) (ds : List ByteArray) (w : Nat) : List ByteArray :=
 let d := ds ++ (rs.filter (putAt k n w)).map Rd.word
 match ls[w]? with
 | none => d
 | some s => if standL rs k n w s = emp then d else d ++ [standL rs k n w s]
theorem eqP_wd {r : Rd} {k n : Int} {w : Nat} (h : r.wd ≠ (w : Nat)) : eqP r.ch r.ln r.wd k n w = false := by
 unfold eqP;simp;intro _ _ h2;exact h h2
theorem eqP_on {r : Rd} {k n : Int} {w : Nat} (h : r.ch = k ∧ r.ln = n) (hw : r.wd = (w : Nat)) : eqP r.ch r.ln r.wd k n w = true := by
 unfold eqP;simp [h.1,h.2,hw]
theorem stand_cons_no {r : Rd} {l : List Rd} {k n w : Int} {s : ByteArray} (h : takesB k n w r = false) : standL (r :: l) k n w s = standL l k n w s := by unfold standL;rw [List.find?_cons,h]
theorem stand_cons_yes {r : Rd} {l : List Rd} {k n w : Int} {s : ByteArray} (h : takesB k n w r = true) : standL (r :: l) k n w s = r.word := by unfold standL;rw [List.find?_cons,h]
theorem way_law (ls : Line) (hne : ∀ s ∈ ls,s ≠ emp) (k n : Int) : Way ls (fun r => r.ch = k ∧ r.ln = n) (fun l => lawW ls l k n) := by
 refine ⟨fun ds w s hs => ?_,fun ds => ?_,fun r l ds w h => ?_,fun r l ds w ho h hk => ?_,fun r l ds w ho h hk hw hf => ?_⟩
 ·unfold lawW
  have h0 : standL [] k n w s = s := rfl
  simp only [hs,List.filter_nil,List.map_nil,List.append_nil,h0]
  rw [if_neg (hne s (List.mem_of_getElem? hs))]
 ·unfold lawW
  simp only [List.getElem?_eq_none_iff.2 (Nat.le_refl _),List.filter_nil,List.map_nil,List.append_nil]
 ·have h1 : putAt k n w r = false := by unfold putAt;rw [eqP_wd h,Bool.and_false]
  have h2 : takesB k n w r = false := by unfold takesB;rw [eqP_wd h];rfl
  unfold lawW
  rw [List.filter_cons_of_neg (by rw [h1];simp)]
  simp only [stand_cons_no h2]
 ·have h1 : putAt k n w r = true := by unfold putAt;rw [eqP_on ho h,Bool.and_true];exact decide_eq_true hk
  have h2 : takesB k n w r = false := by unfold takesB;rw [decide_eq_true hk,Bool.not_true,Bool.and_false]
  unfold lawW
  rw [List.filter_cons_of_pos h1]
  simp only [stand_cons_no h2,List.map_cons,List.append_assoc,List.singleton_append]
 ·have h1 : putAt k n w r = false := by unfold putAt;rw [decide_eq_false hk];rfl
  have h2 : takesB k n w r = true := by unfold takesB;rw [eqP_on ho h,decide_eq_false hk];rfl
  have h3 : l.filter (putAt k n w) = [] := List.filter_eq_nil_iff.2 fun q hq => by unfold putAt;rw [eqP_wd (hf q hq),Bool.and_false];simp
  obtain ⟨s,hs⟩ := at_lt ls w hw
  unfold lawW
  rw [List.filter_cons_of_neg (by rw [h1];simp),h3]
  simp only [hs,stand_cons_yes h2,List.map_nil,List.append_nil]
  split
  ·rw [List.append_nil]
  ·rfl
theorem lawW_filter (ls : Line) (rs : List Rd) (k n : Int) (ds : List ByteArray) (w : Nat) : lawW ls rs k n ds w = lawW ls (rs.filter (atLine k n 0)) k n ds w := by
 have ha : ∀ r : Rd,eqP r.ch r.ln r.wd k n w = true → atLine k n 0 r = true := fun r h => by
  unfold eqP at h;simp at h;exact atLine_iff.2 ⟨h.1,h.2.1⟩
 have h1 : rs.filter (putAt k n w) = (rs.filter (atLine k n 0)).filter (putAt k n w) := by
  rw [List.filter_filter]
  refine List.filter_congr fun r _ => ?_
  cases hp : putAt k n w r
  ·rfl
  ·have : eqP r.ch r.ln r.wd k n w = true := by unfold putAt at hp;simp only [Bool.and_eq_true] at hp;exact hp.2
   rw [ha r this];rfl
 have h2 : ∀ s,standL rs k n w s = standL (rs.filter (atLine k n 0)) k n w s := fun s => by
  induction rs with
  | nil => rfl
  | cons r l ih =>
   cases hl : atLine k n 0 r
   ·have ht : takesB k n w r = false := by
     cases ht : takesB k n w r
     ·rfl
     ·unfold takesB at ht;simp only [Bool.and_eq_true] at ht;rw [ha r ht.1] at hl;cases hl
    rw [stand_cons_no ht,List.filter_cons_of_neg (by rw [hl];simp)]
    exact ih (by rw [List.filter_filter];refine List.filter_congr fun r _ => ?_;cases hp : putAt k n w r
                 ·rfl
                 ·have : eqP r.ch r.ln r.wd k n w = true := by unfold putAt at hp;simp only [Bool.and_eq_true] at hp;exact hp.2
                  rw [ha r this];rfl)
   ·rw [List.filter_cons_of_pos hl]
    unfold standL
    rw [List.find?_cons,List.find?_cons]
    cases ht : takesB k n w r
    ·exact ih (by rw [List.filter_filter];refine List.filter_congr fun r _ => ?_;cases hp : putAt k n w r
                  ·rfl
                  ·have : eqP r.ch r.ln r.wd k n w = true := by unfold putAt at hp;simp only [Bool.and_eq_true] at hp;exact hp.2
                   rw [ha r this];rfl)
    ·rfl
 unfold lawW;rw [← h1];simp only [← h2]
end Go.Ev
namespace Go.Ev
open Go.Proofs
def Ahd (a b : Rd) : Prop := a.ch < b.ch ∨ (a.ch = b.ch ∧ (a.ln < b.ln ∨ (a.ln = b.ln ∧ a.wd ≤ b.wd ∧ (a.kind ≠ 2 → a.wd < b.wd))))
theorem Ahd.trans {a b c : Rd} (h1 : Ahd a b) (h2 : Ahd b c) : Ahd a c := by
 unfold Ahd at *;omega
theorem pairR_ahd {a b : Rd} (h : pairR a b = true) : Ahd a b := by
 unfold pairR beforeB eqP at h
 unfold Ahd
 simp only [Bool.not_eq_true',Bool.or_eq_false_iff,Bool.and_eq_false_iff,Bool.not_eq_false',decide_eq_false_iff_not,decide_eq_true_eq,ne_eq] at h
 obtain ⟨h1,h2⟩ := h
 split at h1
 ·simp only [decide_eq_false_iff_not] at h1;omega
 ·split at h1
  ·simp only [decide_eq_false_iff_not] at h1;omega
  ·simp only [decide_eq_false_iff_not] at h1;omega
theorem rdsB_all (t : Txt) : ∀ (l : List Rd) (p : Option Rd),rdsB t p l = true → (∀ r ∈ l,readB t r = true) ∧ l.Pairwise Ahd ∧ (∀ q,p = some q → ∀ r ∈ l,Ahd q r)
 | [],_,_ => ⟨(fun r h => nomatch h),List.Pairwise.nil,(fun _ _ r h => nomatch h)⟩
 | r :: l,p,h => by
  unfold rdsB at h
  simp only [Bool.and_eq_true] at h
  obtain ⟨⟨h1,h2⟩,h3⟩ := h
  obtain ⟨i1,i2,i3⟩ := rdsB_all t l (some r) h3
  have i3 := i3 r rfl
  refine ⟨fun x hx => ?_,List.pairwise_cons.2 ⟨i3,i2⟩,fun q hq x hx => ?_⟩
  ·rcases List.mem_cons.1 hx with rfl | hx
   ·exact h1
   ·exact i1 x hx
  ·subst hq
   have hr := pairR_ahd h2
   rcases List.mem_cons.1 hx with rfl | hx
   ·exact hr
   ·exact hr.trans (i3 x hx)
theorem wordB_ne {s : ByteArray} (h : wordB s = true) : s ≠ emp := by
 rintro rfl
 unfold wordB at h
 simp only [Bool.and_eq_true] at h
 have := h.1
 revert this;decide
structure Cpy (t : Txt) (rs : List Rd) : Prop where
 fit : ∀ r ∈ rs,readB t r = true
 ord : rs.Pairwise Ahd
theorem Cpy.of {t : Txt} {rs : List Rd} (h : rdsB t none rs = true) : Cpy t rs := ⟨(rdsB_all t rs none h).1,(rdsB_all t rs none h).2.1⟩
def ofLn (rs : List Rd) (k n : Int) : List Rd := rs.filter (atLine k n 0)
theorem ofLn_mem {rs : List Rd} {k n : Int} {r : Rd} : r ∈ ofLn rs k n ↔ r ∈ rs ∧ r.ch = k ∧ r.ln = n := by
 unfold ofLn;rw [List.mem_filter,atLine_iff]
theorem Cpy.bhd {t : Txt} {rs : List Rd} (h : Cpy t rs) (k n : Int) : (ofLn rs k n).Pairwise Bhd := by
 have h1 : (ofLn rs k n).Pairwise Ahd := h.ord.sublist List.filter_sublist
 refine h1.imp_of_mem fun ha hb hr => ?_
 have h2 := (ofLn_mem.1 ha).2
 have h3 := (ofLn_mem.1 hb).2
 unfold Ahd at hr
 unfold Bhd
 omega
theorem Cpy.rdw {t : Txt} {rs : List Rd} (h : Cpy t rs) {k n : Int} {ls : Line} (hl : lineAt t k n = some ls) {r : Rd} (hr : r ∈ ofLn rs k n) : RdW ls r ∧ 0 ≤ r.wd := by
 obtain ⟨hm,h1,h2⟩ := ofLn_mem.1 hr
 have hf := h.fit r hm
 unfold readB at hf
 rw [h1,h2,hl] at hf
 simp only at hf
 split at hf
 ·rename_i hk
  unfold fits1 at hf
  simp only [Bool.and_eq_true,decide_eq_true_eq] at hf
  exact ⟨⟨Or.inl hk,⟨fun _ => hf.2,fun _ => hk⟩,by rw [if_neg (by omega)];omega⟩,hf.1.1⟩
 ·split at hf
  ·rename_i hk1 hk
   unfold fits2 withinB at hf
   simp only [List.all_cons,List.all_nil,Bool.and_true,Bool.and_eq_true,decide_eq_true_eq] at hf
   exact ⟨⟨Or.inr (Or.inl hk),⟨fun h => absurd h hk1,fun h => absurd h (wordB_ne hf.2)⟩,by rw [if_pos hk];omega⟩,hf.1.1⟩
  ·split at hf
   ·rename_i hk1 hk2 hk
    unfold fits3 at hf
    simp only [Bool.and_eq_true,decide_eq_true_eq] at hf
    exact ⟨⟨Or.inr (Or.inr hk),⟨fun h => absurd h hk1,fun h => absurd h (wordB_ne hf.1.2)⟩,by rw [if_neg hk2];omega⟩,hf.1.1.1⟩
   ·cases hf
theorem foldl_same {α β : Type} {f g : α → β → α} (h : ∀ a b,f a b = g a b) (l : List β) (a : α) : l.foldl f a = l.foldl g a := foldl_eq l a fun b _ a => h a b
theorem Cpy.line {t : Txt} {rs : List Rd} (h : Cpy t rs) {k n : Int} {ls : Line} (hl : lineAt t k n = some ls) (hne : ∀ s ∈ ls,s ≠ emp) : refLine ls rs k n = readLineL ls (ofLn rs k n) := by
 unfold refLine
 rw [foldl_same (g := refW ls (ofLn rs k n) k n) (fun a b => refW_filter ls rs k n a b)]
 exact way_line (way_ref ls hne k n) (ofLn rs k n) (fun r hr => ⟨(ofLn_mem.1 hr).2,h.rdw hl hr⟩) (h.bhd k n)
theorem Cpy.law {t : Txt} {rs : List Rd} (h : Cpy t rs) {k n : Int} {ls : Line} (hl : lineAt t k n = some ls) (hne : ∀ s ∈ ls,s ≠ emp) : (List.range (ls.length + 1)).foldl (lawW ls rs k n) [] = refLine ls rs k n := by
 rw [h.line hl hne,foldl_same (g := lawW ls (ofLn rs k n) k n) (fun a b => lawW_filter ls rs k n a b)]
 exact way_line (way_law ls hne k n) (ofLn rs k n) (fun r hr => ⟨(ofLn_mem.1 hr).2,h.rdw hl hr⟩) (h.bhd k n)
def readT (t : Txt) (rs : List Rd) : Txt := t.mapIdx fun k c => (c.1,c.2.mapIdx fun n l => refLine l rs k n)
theorem readT_get {t : Txt} {rs : List Rd} {k : Nat} {c : Chap} (h : t[k]? = some c) : (readT t rs)[k]? = some (c.1,c.2.mapIdx fun n l => refLine l rs k n) := by
 unfold readT;rw [List.getElem?_mapIdx,h];rfl
theorem lineAt_nat {t : Txt} {k n : Nat} {c : Chap} {l : Line} (h : t[k]? = some c) (hl : c.2[n]? = some l) : lineAt t k n = some l := by
 unfold lineAt
 rw [if_pos (by omega)]
 simp only [Int.toNat_natCast,h,Option.bind_some,hl]
end Go.Ev
namespace Go.Ev
open Go.Proofs
attribute [local irreducible] Wp WpS
theorem Small.ne {t : Txt} (hs : Small t) {k n : Int} {ls : Line} (h : lineAt t k n = some ls) : ∀ s ∈ ls,s ≠ emp := fun s hm => by
 obtain ⟨c,hc,hl⟩ := lineAt_mem h
 exact wordB_ne (hs.word c hc ls hl s hm)
theorem linesN_get (rs : List Rd) (k : Nat) : ∀ (ls : List Line) (n j : Nat) (l : Line),linesN rs k n ls = true → ls[j]? = some l → withinB 1 10 [((refLine l rs k ((n + j : Nat) : Int)).length : Int)] = true
 | [],_,_,_,_,h => by simp at h
 | x :: r,n,j,l,h1,h2 => by
  unfold linesN at h1
  simp only [Bool.and_eq_true] at h1
  cases j with
  | zero => simp at h2;subst h2;exact h1.1
  | succ j =>
   have := linesN_get rs k r (n + 1) j l h1.2 (by simpa using h2)
   rwa [show n + 1 + j = n + (j + 1) by omega] at this
theorem chapsN_get (rs : List Rd) : ∀ (t : Txt) (k i : Nat) (c : Chap),chapsN rs k t = true → t[i]? = some c → linesN rs (k + i) 0 c.2 = true
 | [],_,_,_,_,h => by simp at h
 | x :: r,k,i,c,h1,h2 => by
  unfold chapsN at h1
  simp only [Bool.and_eq_true] at h1
  cases i with
  | zero => simp at h2;subst h2;exact h1.1
  | succ i =>
   have := chapsN_get rs r (k + 1) i c h1.2 (by simpa using h2)
   rwa [show k + 1 + i = k + (i + 1) by omega] at this
theorem refI_mem (k n w : Int) (s : ByteArray) : ∀ (rs : List Rd) (st : List ByteArray × ByteArray),(s ∈ (rs.foldl (refI k n w) st).1 → s ∈ st.1 ∨ ∃ r ∈ rs,s = r.word) ∧ ((rs.foldl (refI k n w) st).2 = st.2 ∨ ∃ r ∈ rs,(rs.foldl (refI k n w) st).2 = r.word)
 | [],st => ⟨fun h => Or.inl h,Or.inl rfl⟩
 | r :: rs,st => by
  obtain ⟨h1,h2⟩ := refI_mem k n w s rs (refI k n w st r)
  rw [List.foldl_cons]
  have hq : refI k n w st r = st ∨ refI k n w st r = (st.1 ++ [r.word],st.2) ∨ refI k n w st r = (st.1,r.word) := by
   unfold refI;split
   ·split
    ·exact Or.inr (Or.inl rfl)
    ·exact Or.inr (Or.inr rfl)
   ·exact Or.inl rfl
  refine ⟨fun h => ?_, ?_⟩
  ·rcases h1 h with h3 | ⟨q,hq1,hq2⟩
   ·rcases hq with hq | hq | hq
    ·rw [hq] at h3;exact Or.inl h3
    ·rw [hq] at h3
     rcases List.mem_append.1 h3 with h3 | h3
     ·exact Or.inl h3
     ·exact Or.inr ⟨r,List.mem_cons_self ..,List.mem_singleton.1 h3⟩
    ·rw [hq] at h3;exact Or.inl h3
   ·exact Or.inr ⟨q,List.mem_cons_of_mem _ hq1,hq2⟩
  ·rcases h2 with h3 | ⟨q,hq1,hq2⟩
   ·rcases hq with hq | hq | hq
    ·rw [hq] at h3 ⊢;exact Or.inl h3
    ·rw [hq] at h3 ⊢;exact Or.inl h3
    ·rw [hq] at h3 ⊢;exact Or.inr ⟨r,List.mem_cons_self ..,h3⟩
   ·exact Or.inr ⟨q,List.mem_cons_of_mem _ hq1,hq2⟩
theorem refW_mem (l : Line) (rs : List Rd) (k n : Int) (s : ByteArray) (ds : List ByteArray) (w : Nat) (h : s ∈ refW l rs k n ds w) : s ∈ ds ∨ s ∈ l ∨ ∃ r ∈ rs,s = r.word := by
 obtain ⟨h1,h2⟩ := refI_mem k n w s rs (ds,(l[w]?).getD emp)
 unfold refW at h
 simp only at h
 split at h
 ·rcases h1 h with h | h
  ·exact Or.inl h
  ·exact Or.inr (Or.inr h)
 ·rename_i hne
  rcases List.mem_append.1 h with h | h
  ·rcases h1 h with h | h
   ·exact Or.inl h
   ·exact Or.inr (Or.inr h)
  ·have hs := List.mem_singleton.1 h
   rcases h2 with h3 | ⟨r,hr,h3⟩
   ·rw [h3] at hs hne
    simp only at hs hne
    cases hw : l[w]? with
    | none => rw [hw] at hne;exact absurd rfl hne
    | some y => rw [hw] at hs;exact Or.inr (Or.inl (hs ▸ List.mem_of_getElem? hw))
   ·exact Or.inr (Or.inr ⟨r,hr,hs.trans h3⟩)
theorem refLine_mem (l : Line) (rs : List Rd) (k n : Int) (s : ByteArray) : ∀ w : Nat,s ∈ (List.range w).foldl (refW l rs k n) [] → s ∈ l ∨ ∃ r ∈ rs,s = r.word
 | 0,h => by simp at h
 | w + 1,h => by
  rw [List.range_succ,List.foldl_append] at h
  rcases refW_mem l rs k n s _ w h with h | h
  ·exact refLine_mem l rs k n s w h
  ·exact h
theorem readT_mem {t : Txt} {rs : List Rd} {c : Chap} {l : Line} (hc : c ∈ readT t rs) (hl : l ∈ c.2) : ∃ (k n : Nat) (d : Chap) (ln : Line),t[k]? = some d ∧ d.2[n]? = some ln ∧ l = refLine ln rs k n ∧ c.2.length = d.2.length := by
 obtain ⟨k,hk⟩ := List.getElem?_of_mem hc
 have hil : k < t.length := by
  have := (List.getElem?_eq_some_iff.1 hk).1
  unfold readT at this;rwa [List.length_mapIdx] at this
 obtain ⟨d,hd⟩ := at_lt t k hil
 rw [readT_get hd] at hk
 cases hk
 obtain ⟨n,hn⟩ := List.getElem?_of_mem hl
 simp only at hn
 rw [List.getElem?_mapIdx] at hn
 cases hk : d.2[n]? with
 | none => rw [hk] at hn;cases hn
 | some ln => rw [hk] at hn;cases hn;exact ⟨k,n,d,ln,hd,hk,rfl,by simp⟩
theorem readT_chap {t : Txt} {rs : List Rd} {c : Chap} (hc : c ∈ readT t rs) : ∃ d ∈ t,c.1 = d.1 ∧ c.2.length = d.2.length := by
 obtain ⟨k,hk⟩ := List.getElem?_of_mem hc
 have hil : k < t.length := by
  have := (List.getElem?_eq_some_iff.1 hk).1
  unfold readT at this;rwa [List.length_mapIdx] at this
 obtain ⟨d,hd⟩ := at_lt t k hil
 rw [readT_get hd] at hk
 cases hk
 exact ⟨d,List.mem_of_getElem? hd,rfl,by simp⟩
theorem rdOnes_mem {ls : Line} {s : ByteArray} : ∀ (l : List Rd) (st : Nat × List ByteArray),s ∈ (l.foldl (rdOne ls) st).2 → s ∈ st.2 ∨ s ∈ ls ∨ ∃ r ∈ l,r.kind ≠ 1 ∧ s = r.word
 | [],st,h => Or.inl h
 | r :: l,st,h => by
  rw [List.foldl_cons] at h
  rcases rdOnes_mem l _ h with h | h | ⟨q,hq,h⟩
  ·unfold rdOne at h
   simp only at h
   rcases List.mem_append.1 h with h | h
   ·rcases List.mem_append.1 h with h | h
    ·exact Or.inl h
    ·exact Or.inr (Or.inl (List.mem_of_mem_drop (List.mem_of_mem_take h)))
   ·split at h
    ·exact nomatch h
    ·rename_i hk
     exact Or.inr (Or.inr ⟨r,List.mem_cons_self ..,hk,List.mem_singleton.1 h⟩)
  ·exact Or.inr (Or.inl h)
  ·exact Or.inr (Or.inr ⟨q,List.mem_cons_of_mem _ hq,h⟩)
theorem readLineL_mem {ls : Line} {l : List Rd} {s : ByteArray} (h : s ∈ readLineL ls l) : s ∈ ls ∨ ∃ r ∈ l,r.kind ≠ 1 ∧ s = r.word := by
 unfold readLineL at h
 rcases List.mem_append.1 h with h | h
 ·rcases rdOnes_mem l _ h with h | h | h
  ·exact nomatch h
  ·exact Or.inl h
  ·exact Or.inr h
 ·exact Or.inl (List.mem_of_mem_drop h)
theorem Cpy.wordB {t : Txt} {rs : List Rd} (h : Cpy t rs) {r : Rd} (hr : r ∈ rs) (hk : r.kind ≠ 1) : wordB r.word = true := by
 have hf := h.fit r hr
 unfold readB at hf
 split at hf
 ·cases hf
 ·rw [if_neg hk] at hf
  split at hf
  ·unfold fits2 at hf;simp only [Bool.and_eq_true] at hf;exact hf.2
  ·split at hf
   ·unfold fits3 at hf;simp only [Bool.and_eq_true] at hf;exact hf.1.2
   ·cases hf
structure Right (t : Txt) (id : Int) (rs : List Rd) : Prop where
 id : withinB 0 9999 [id] = true
 len : ¬ 20 < (rs.length : Int)
 cpy : Cpy t rs
 lines : ∀ (k n : Nat) (c : Chap) (l : Line),t[k]? = some c → c.2[n]? = some l → 1 ≤ (refLine l rs k n).length ∧ (refLine l rs k n).length ≤ 10
theorem Right.of {t : Txt} {id : Int} {rs : List Rd} (h : copyB t id rs = true) : Right t id rs := by
 unfold copyB at h
 simp only [Bool.and_eq_true,Bool.not_eq_true',decide_eq_false_iff_not] at h
 obtain ⟨⟨h1,h2⟩,h3,h4⟩ := h
 refine ⟨h1,h2,Cpy.of h3,fun k n c l hc hl => ?_⟩
 have := linesN_get rs (0 + k) c.2 0 n l (chapsN_get rs t 0 k c h4 hc) hl
 rw [Nat.zero_add,Nat.zero_add] at this
 unfold withinB at this
 simp only [List.all_cons,List.all_nil,Bool.and_true,Bool.and_eq_true,decide_eq_true_eq] at this
 omega
theorem Right.small {t : Txt} {id : Int} {rs : List Rd} (h : Right t id rs) (hs : Small t) : Small (readT t rs) := by
 refine ⟨?_,fun c hc => ?_,fun c hc l hl => ?_,fun c hc l hl s hm => ?_⟩
 ·unfold readT;rw [List.length_mapIdx];exact hs.chs
 ·obtain ⟨d,hd, -,h2⟩ := readT_chap hc
  rw [h2];exact hs.lines d hd
 ·obtain ⟨k,n,d,ln,h1,h2,rfl, -⟩ := readT_mem hc hl
  exact h.lines k n d ln h1 h2
 ·obtain ⟨k,n,d,ln,h1,h2,rfl, -⟩ := readT_mem hc hl
  have hLA := lineAt_nat h1 h2
  rw [h.cpy.line hLA (hs.ne hLA)] at hm
  rcases readLineL_mem hm with hm | ⟨r,hr,hk,rfl⟩
  ·exact hs.word d (List.mem_of_getElem? h1) ln (List.mem_of_getElem? h2) s hm
  ·exact h.cpy.wordB ((ofLn_mem.1 hr).1) hk
theorem Right.fits {t : Txt} {id : Int} {rs : List Rd} (h : Right t id rs) (ht : Fits t) (hr : ∀ r ∈ rs,RdF r) : Fits (readT t rs) := by
 refine ⟨?_,fun c hc => ?_,fun c hc l hl => ?_,fun c hc l hl s hm => ?_⟩
 ·unfold readT;rw [List.length_mapIdx];exact ht.chs
 ·obtain ⟨d,hd, -,h2⟩ := readT_chap hc
  rw [h2];exact ht.lines d hd
 ·obtain ⟨k,n,d,ln,h1,h2,rfl, -⟩ := readT_mem hc hl
  have := (h.lines k n d ln h1 h2).2
  omega
 ·obtain ⟨k,n,d,ln,h1,h2,rfl, -⟩ := readT_mem hc hl
  rcases refLine_mem ln rs k n s _ hm with h | ⟨r,h3,rfl⟩
  ·exact ht.size d (List.mem_of_getElem? h1) ln (List.mem_of_getElem? h2) s h
  ·exact (hr r h3).word
end Go.Ev
namespace Go.Ev
open Go.Proofs
attribute [local irreducible] Wp WpS
structure MB (B : Nat) (base : Fm) (H : Heap) (ds : List ByteArray) (out : AV) : Prop where
 lock : H.lock = 0
 size : B ≤ H.size
 base : Has base H
 done : DoneR H ds out
def Stay (B : Nat) (base : Fm) : Prop := ∀ p ∈ base,p.1 < B ∧ ∀ v m e sz cs,p.2 ≠ .cells v m e sz true cs
theorem MB.row {B : Nat} {base : Fm} {H : Heap} {ds : List ByteArray} {out : AV} (h : MB B base H ds out) {b v m e sz : Nat} {g : Bool} {cs : List AV} (hb : (b,AObj.cells v m e sz g cs) ∈ base) (E : List (Option AObj)) : (H.plus E).row b v = some (m,e,sz,g,cs) := by
 have hg := h.base _ hb
 rw [rowLo (get_ltS hg)];exact get_row hg
theorem MB.plus {B : Nat} {base : Fm} {H : Heap} {ds : List ByteArray} {out : AV} (h : MB B base H ds out) (E : List (Option AObj)) : MB B base (H.plus E) ds out :=
 ⟨h.lock,by have := h.size;rw [plus_size];omega,h.base.plus E,h.done.plus E⟩
theorem MB.trim {B : Nat} {base : Fm} {H : Heap} {ds : List ByteArray} {out : AV} (h : MB B base H ds out) (hS : Stay B base) {n : Nat} (hn : B ≤ n) (vs : List AV) (ms : List Nat) (hv : bound out ≤ boundL vs) : MB B base (H.trim n vs ms) ds out := by
 by_cases hn2 : n ≤ H.size
 ·refine ⟨trim_lock.trans h.lock,Nat.le_trans hn (trim_size' hn2),fun p hp => (trim_lo (by have := (hS p hp).1;omega)).trans (h.base p hp), ?_⟩
  rcases h.done with hd | ⟨b,v,h1,h2,rfl,h4⟩
  ·exact Or.inl hd
  ·unfold Heap.trim
   split
   ·rename_i hq
    rw [Bool.and_eq_true,Bool.and_eq_true,Bool.and_eq_true,Nat.ble_eq] at hq
    have h5 := hq.1.1.1
    have hb : b < n := by simp only [bound] at hv;omega
    have hg := (takeH_get (H := H) hb).trans (row_of_get h4)
    exact Or.inr ⟨b,v,h1,get_size hg,rfl,get_row hg⟩
   ·exact Or.inr ⟨b,v,h1,h2,rfl,h4⟩
 ·rw [trim_whole (by omega)];exact h
theorem MB.more {B : Nat} {base : Fm} {H : Heap} {ds : List ByteArray} {b v : Nat} (h : MB B base H ds (.sl b v 0 ds.length none)) (hS : Stay B base) (hb : b < H.size) (hr : H.row b v = some (0,9,1,true,strs ds)) (s : List ByteArray) (n : Nat) (hn : n = ds.length + s.length) : MB B base (H.put b (.cells (v + 1) 0 9 1 true (strs (ds ++ s)))) (ds ++ s) (.sl b (v + 1) 0 n none) := by
 refine ⟨h.lock,by rw [put_sizeI _ hb];exact h.size,fun p hp => ?_,Or.inr ⟨b,v + 1, ?_,by rw [put_sizeI _ hb];exact hb,by rw [hn,List.length_append],row_put_same hb⟩⟩
 ·have hne : p.1 ≠ b := by
   rintro rfl
   have h1 := (row_of_get hr).symm.trans (h.base p hp)
   exact (hS p hp).2 v 0 9 1 (strs ds) (Option.some.inj h1).symm
  exact (put_get_ne _ (by omega) hne).trans (h.base p hp)
 ·have := h.lock
  show H.lock ≤ b
  omega
theorem MB.new {B : Nat} {base : Fm} {H : Heap} {ds : List ByteArray} {out : AV} (h : MB B base H ds out) {N : Nat} (hN : H.size = N) (E : List (Option AObj)) (k : Nat) (ds' : List ByteArray) (hE : E[k]? = some (some (.cells 0 0 9 1 true (strs ds')))) : MB B base (H.plus E) ds' (.sl (N + k) 0 0 ds'.length none) := by
 have hk := (List.getElem?_eq_some_iff.1 hE).1
 refine ⟨h.lock,by have := h.size;rw [plus_size];omega,h.base.plus E,Or.inr ⟨N + k,0, ?_,by rw [plus_size];omega,rfl, ?_⟩⟩
 ·have := h.lock
  show H.lock ≤ _
  omega
 ·rw [rowP hN,hE];rfl
end Go.Ev
namespace Go.Ev
open Go.Proofs
def dlt (r : Rd) : Int := if r.kind = 2 then 1 else if r.kind = 1 then -1 else 0
def mv : List Rd → (Rd → Bool) → Int
 | [],_ => 0
 | r :: l,p => (if p r = true then dlt r else 0) + mv l p
section
variable {ls : Line} {l : List Rd} {k n : Int} (hne : ∀ s ∈ ls,s ≠ emp) (ho : ∀ r ∈ l,r.ch = k ∧ r.ln = n) (hr : ∀ r ∈ l,RdW ls r ∧ 0 ≤ r.wd) (hb : l.Pairwise Bhd)
include hne ho hr hb
end
section
variable {t : Txt} {rs : List Rd} (h : Cpy t rs) {k n : Int} {ls : Line} (hl : lineAt t k n = some ls) (hne : ∀ s ∈ ls,s ≠ emp)
include h hl hne
end
end Go.Ev
namespace Go.Ev
open Go.Proofs
attribute [local irreducible] Wp WpS
theorem ansS46 {e : Exts} (he : Quiet e) (t : Txt) (ht : Fits t) (ch : AV) (xs : List AV) (hch : SlOf 2 xs ch) (hall : All2 ChapA t xs) (hT : textB t = true) (a b c : Nat) (ln : Line) (hL : lineAt t a b = some ln) (w : ByteArray) (hw : ln[c]? = some w) : Ans (Cx e) 46 [.agg [ch],.agg [intA a,intA b,intA c]] (.tup [.v (.string w),intA 0]) := by
 have h40 := call40 he t ht ch ⟨xs,hch,hall⟩
 rw [hT] at h40
 have h44 := call44 he t ht ch xs hch hall a b c
 have hcl := (List.getElem?_eq_some_iff.1 hw).1
 have hp : placeB' t a b c = true := by unfold placeB';rw [hL];simp;omega
 rw [hp] at h44
 obtain ⟨lx,hlx,h45⟩ := ans45 he t ht ch xs hch hall a b c
 rw [hL] at hlx
 have hlx : SlOf 1 (strs ln) lx := hlx
 have b2 : boundL [AV.agg [ch],.agg [intA a,intA b,intA c]] = 0 := by simp only [boundL_cons,bound_agg,hch.bound,boundL_nil];rfl
 have c45 := fun me d => h45.callI (me := me) (d := d) (ext_88 he) (pure_88 _ _ _) b2
 have hix := hlx.idx (strs_get hw)
 unfold intA at c45
 unfold Ans
 rw [fn_step (fn_46 e) (show Tryz.f46.body = some _ from rfl)]
 simp -implicitDefEqProofs only [Tryz.f46,go_sem,↓reduceIte,Int.reduceEq,Int.reduceLT,Int.reduceLE,List.reduceReplicate,intA,setT_nil,setT_cons,hch.cells,hch.flat,hch.bound,h40,h44,if_true,↓boolP_bool,↓iteB_true,↓iteB_false]
 refine wp_drawX [([],[],false),([0],[],false),([],[],false),([],[],false),([0,1,2],[],false),([],[],false),([],[],false),([],[],false),([],[],false)] (by kernel_rfl) (by kernel_rfl) ?_
 simp -implicitDefEqProofs only [go_sem,↓reduceIte,Int.reduceEq,Int.reduceLT,Int.reduceLE,List.reduceReplicate,intA,setT_nil,setT_cons,hch.cells,hch.flat,hch.bound,c45,hix,hlx.cells,↓boolP_bool,↓iteB_true,↓iteB_false]
 rfl
end Go.Ev
namespace Go.Ev
def Fz (X : Heap) (S : Nat → Prop) (d : Nat) (x y : AV) : Prop :=
 (x.flat = true ∧ bound y = 0 ∧ (bound x = 0 → y = x)) ∧ ∀ G : Heap,G.lock = 0 → (∀ b,S b → G.get b = X.get b) → ∀ k,d ≤ k → freezeV G k x = some y
theorem Fz.mono {X Y : Heap} {S T : Nat → Prop} {d d' : Nat} {x y : AV} (h : Fz X S d x y) (hs : ∀ b,S b → T b ∧ Y.get b = X.get b) (hd : d ≤ d') : Fz Y T d' x y :=
 ⟨h.1,fun G hk hg k hk2 => h.2 G hk (fun b hb => (hg b (hs b hb).1).trans (hs b hb).2) k (Nat.le_trans hd hk2)⟩
theorem Fz.v (X : Heap) (S : Nat → Prop) (v : Value) : Fz X S 1 (.v v) (.v v) :=
 ⟨⟨rfl,rfl,fun _ => rfl⟩,fun _ _ _ k hk => by obtain ⟨k',rfl⟩ : ∃ k',k = k' + 1 := ⟨k - 1,by omega⟩;rfl⟩
theorem Fz.vs (X : Heap) (S : Nat → Prop) (z : Nat) (l : List AV) (c : Option Nat) : Fz X S 1 (.vs z l c) (.vs z l c) :=
 ⟨⟨rfl,rfl,fun _ => rfl⟩,fun _ _ _ k hk => by obtain ⟨k',rfl⟩ : ∃ k',k = k' + 1 := ⟨k - 1,by omega⟩;rfl⟩
def FzL (X : Heap) (S : Nat → Prop) (d : Nat) : List AV → List AV → Prop
 | [],[] => True
 | x :: r,y :: s => Fz X S d x y ∧ FzL X S d r s
 | _,_ => False
theorem FzL.len {X : Heap} {S : Nat → Prop} {d : Nat} : ∀ {l m : List AV},FzL X S d l m → l.length = m.length
 | [],[],_ => rfl
 | _ :: _,_ :: _,h => congrArg (· + 1) (FzL.len h.2)
 | [],_ :: _,h => h.elim
 | _ :: _,[],h => h.elim
theorem FzL.mono {X Y : Heap} {S T : Nat → Prop} {d d' : Nat} (hs : ∀ b,S b → T b ∧ Y.get b = X.get b) (hd : d ≤ d') : ∀ {l m : List AV},FzL X S d l m → FzL Y T d' l m
 | [],[],_ => trivial
 | _ :: _,_ :: _,h => ⟨h.1.mono hs hd,FzL.mono hs hd h.2⟩
 | [],_ :: _,h => h.elim
 | _ :: _,[],h => h.elim
theorem FzL.flat {X : Heap} {S : Nat → Prop} {d : Nat} : ∀ {l m : List AV},FzL X S d l m → l.all AV.flat = true
 | [],[],_ => rfl
 | _ :: _,_ :: _,h => by rw [List.all_cons,h.1.1.1,FzL.flat h.2];rfl
 | [],_ :: _,h => h.elim
 | _ :: _,[],h => h.elim
theorem FzL.bound {X : Heap} {S : Nat → Prop} {d : Nat} : ∀ {l m : List AV},FzL X S d l m → boundL m = 0
 | [],[],_ => rfl
 | _ :: _,_ :: _,h => by rw [boundL_cons,h.1.1.2.1,FzL.bound h.2];rfl
 | [],_ :: _,h => h.elim
 | _ :: _,[],h => h.elim
theorem FzL.closed {X : Heap} {S : Nat → Prop} {d : Nat} : ∀ {l m : List AV},FzL X S d l m → boundL l = 0 → m = l
 | [],[],_,_ => rfl
 | x :: r,y :: s,h,hb => by
  rw [boundL_cons] at hb
  have h1 : Go.Ev.bound x = 0 := Nat.le_zero.1 (Nat.le_trans (Nat.le_max_left _ _) (Nat.le_of_eq hb))
  have h2 : boundL r = 0 := Nat.le_zero.1 (Nat.le_trans (Nat.le_max_right _ _) (Nat.le_of_eq hb))
  rw [h.1.1.2.2 h1,FzL.closed h.2 h2]
 | [],_ :: _,h,_ => h.elim
 | _ :: _,[],h,_ => h.elim
theorem FzL.freeze {X : Heap} {S : Nat → Prop} {d : Nat} {G : Heap} (hk : G.lock = 0) (hg : ∀ b,S b → G.get b = X.get b) : ∀ {l m : List AV},FzL X S d l m → ∀ k,d + l.length + 1 ≤ k → freezeL G k l = some m
 | [],[],_,k,h => by obtain ⟨k',rfl⟩ : ∃ k',k = k' + 1 := ⟨k - 1,by omega⟩;rfl
 | x :: r,y :: s,h,k,hd => by
  obtain ⟨k',rfl⟩ : ∃ k',k = k' + 1 := ⟨k - 1,by omega⟩
  simp only [List.length_cons] at hd
  show (match freezeV G k' x,freezeL G k' r with | some y,some ys => some (y :: ys) | _,_ => none) = _
  rw [h.1.2 G hk hg k' (by omega),FzL.freeze hk hg h.2 k' (by omega)]
 | [],_ :: _,h,_,_ => h.elim
 | _ :: _,[],h,_,_ => h.elim
theorem Fz.row {X : Heap} {S : Nat → Prop} {d b v e m sz n : Nat} {g : Bool} {l ys : List AV} (hS : S b) (hr : X.get b = some (.cells v m e sz g l)) (hl : FzL X S d l ys) (hm : boundL l ≤ m) (hz : 0 < sz) (hn : l.length = n * sz) (c : Option Nat) {d' : Nat} (hd : d + l.length + 2 ≤ d') :
  Fz X S d' (.sl b v 0 n c) (.vs sz (chunk sz n ys) none) := by
 refine ⟨⟨rfl,rfl,fun h => by simp [Go.Ev.bound] at h⟩,fun G hk hg k hkd => ?_⟩
 obtain ⟨k',rfl⟩ : ∃ k',k = k' + 1 := ⟨k - 1,by omega⟩
 have hrow : G.row b v = some (m,e,sz,g,l) := by
  unfold Heap.row;rw [hg b hS,hr];simp only [if_true]
 unfold freezeV
 simp only [hrow,hk]
 rw [if_neg (by omega),if_pos ⟨by omega,hz⟩,List.drop_zero,List.take_of_length_le (by omega)]
 by_cases h0 : m = 0
 ·rw [if_pos h0,hl.closed (by omega)]
 ·rw [if_neg h0,FzL.freeze hk hg hl k' (by omega)]
  simp only [hl.bound,if_true]
theorem trim_orT (H : Heap) (n : Nat) (vs : List AV) (ms : List Nat) : H.trim n vs ms = H ∨ H.trim n vs ms = { H with objs := H.objs.take n } := by
 unfold Heap.trim
 split
 ·exact Or.inr rfl
 ·exact Or.inl rfl
theorem trim_getT {H : Heap} {n : Nat} {vs : List AV} {ms : List Nat} {b : Nat} (hb : b < n) : (H.trim n vs ms).get b = H.get b := by
 rcases trim_orT H n vs ms with h | h
 ·rw [h]
 ·rw [h];unfold Heap.get;simp only;rw [List.getElem?_take,if_pos hb]
theorem trim_keep {H : Heap} {n : Nat} {vs : List AV} {ms : List Nat} {b : Nat} {o : AObj} (hb : b < n) (hg : H.get b = some o) (ho : n < o.bound) : H.trim n vs ms = H := by
 rcases trim_cases H n vs ms with h | ⟨_,h2⟩
 ·exact h
 ·have := boundsOk_getI h2 (b := b) (o := o) (by rw [List.getElem?_take,if_pos hb];unfold Heap.get at hg;cases hh : H.objs[b]? with
   | none => rw [hh] at hg;cases hg
   | some q => rw [hh] at hg;simp only [Option.join] at hg;rw [show q = some o from hg])
  omega
end Go.Ev
namespace Go.Ev
open Go.Proofs
attribute [local irreducible] Wp WpS
def wds (Z : List (Plc × ByteArray)) : List AV := strs (Z.map (·.2))
def pcs (Z : List (Plc × ByteArray)) : List AV := Z.flatMap fun x => (plN x.1).cells
theorem wds_len (Z : List (Plc × ByteArray)) : (wds Z).length = Z.length := by unfold wds;rw [strs_len,List.length_map]
theorem pcs_len : ∀ Z : List (Plc × ByteArray),(pcs Z).length = Z.length * 3
 | [] => rfl
 | z :: Z => by
  have := pcs_len Z
  show ((plN z.1).cells ++ pcs Z).length = _
  rw [List.length_append,this,List.length_cons]
  show 3 + _ = _
  omega
theorem wds_snoc (Z : List (Plc × ByteArray)) (x : Plc × ByteArray) : wds (Z ++ [x]) = wds Z ++ [.v (.string x.2)] := by unfold wds strs;simp
theorem pcs_snoc (Z : List (Plc × ByteArray)) (x : Plc × ByteArray) : pcs (Z ++ [x]) = pcs Z ++ [intA x.1.1,intA x.1.2.1,intA x.1.2.2] := by unfold pcs plN;simp [AV.cells]
def pls (Z : List (Plc × ByteArray)) : List AV := Z.map fun x => plN x.1
def h100 (ch : AV) (w sd : Int) : List (Plc × ByteArray) → Heap
 | [] => ⟨[some (.cells 0 0 24 1 false [ch]),some (.cells 0 0 26 1 false [intA w,.v (.int .u8 sd)]),some (.cells 0 0 121 1 false [intA 0,.v (.int .u8 0),.v (.slice none 0 0),.v (.slice none 0 0)]),some (.cells 0 0 121 1 false [intA w,.v (.int .u8 sd),.v (.slice none 0 0),.v (.slice none 0 0)])],0⟩
 | z :: Z => ⟨[some (.cells 0 0 24 1 false [ch]),some (.cells 0 0 26 1 false [intA w,.v (.int .u8 sd)]),some (.cells 0 0 121 1 false [intA 0,.v (.int .u8 0),.v (.slice none 0 0),.v (.slice none 0 0)]),some (.cells 0 6 121 1 false [intA w,.v (.int .u8 sd),.sl 4 Z.length 0 (Z.length + 1) none,.sl 5 Z.length 0 (Z.length + 1) none]),some (.cells Z.length 0 9 1 true (wds (z :: Z))),some (.cells Z.length 0 28 3 true (pcs (z :: Z)))],0⟩
theorem h100c (ch : AV) (w sd : Int) (z : Plc × ByteArray) (Z : List (Plc × ByteArray)) : h100 ch w sd (z :: Z) = ⟨[some (.cells 0 0 24 1 false [ch]),some (.cells 0 0 26 1 false [intA w,.v (.int .u8 sd)]),some (.cells 0 0 121 1 false [intA 0,.v (.int .u8 0),.v (.slice none 0 0),.v (.slice none 0 0)]),some (.cells 0 6 121 1 false [intA w,.v (.int .u8 sd),.sl 4 Z.length 0 (Z.length + 1) none,.sl 5 Z.length 0 (Z.length + 1) none]),some (.cells Z.length 0 9 1 true (wds (z :: Z))),some (.cells Z.length 0 28 3 true (pcs (z :: Z)))],0⟩ := rfl
theorem h100n (ch : AV) (w sd : Int) : h100 ch w sd [] = ⟨[some (.cells 0 0 24 1 false [ch]),some (.cells 0 0 26 1 false [intA w,.v (.int .u8 sd)]),some (.cells 0 0 121 1 false [intA 0,.v (.int .u8 0),.v (.slice none 0 0),.v (.slice none 0 0)]),some (.cells 0 0 121 1 false [intA w,.v (.int .u8 sd),.v (.slice none 0 0),.v (.slice none 0 0)])],0⟩ := rfl
theorem h100s (ch : AV) (w sd : Int) (z : Plc × ByteArray) (Z : List (Plc × ByteArray)) (x : Plc × ByteArray) : h100 ch w sd (z :: Z ++ [x]) = ⟨[some (.cells 0 0 24 1 false [ch]),some (.cells 0 0 26 1 false [intA w,.v (.int .u8 sd)]),some (.cells 0 0 121 1 false [intA 0,.v (.int .u8 0),.v (.slice none 0 0),.v (.slice none 0 0)]),some (.cells 0 6 121 1 false [intA w,.v (.int .u8 sd),.sl 4 (Z.length + 1) 0 (Z.length + 1 + 1) none,.sl 5 (Z.length + 1) 0 (Z.length + 1 + 1) none]),some (.cells (Z.length + 1) 0 9 1 true (wds (z :: Z) ++ [.v (.string x.2)])),some (.cells (Z.length + 1) 0 28 3 true (pcs (z :: Z) ++ [intA x.1.1,intA x.1.2.1,intA x.1.2.2]))],0⟩ := by
 rw [← wds_snoc,← pcs_snoc]
 show h100 ch w sd (z :: (Z ++ [x])) = _
 rw [h100c,List.length_append]
 rfl
def t100 (ch : AV) (w sd : Int) (c : Nat) (l : AV) (n j : Nat) : List (Tmp × AV) := [(0,.agg [ch]),(1,.agg [intA w,.v (.int .u8 sd)]),(2,intA c),(3,.ptr 0 0 0),(4,.ptr 1 0 0),(6,.ptr 2 0 0),(7,.ptr 3 0 0),(19,l),(20,intA n),(21,intA j)]
def Out100 (ch : AV) (w sd : Int) (c : Nat) (l : AV) (ls : List Line) : Inv := fun μ a H => ∃ j Z,j + μ = ls.length ∧ Z ++ wordsC c j (ls.drop j) = wordsC c 0 ls ∧ a = ⟨51,t100 ch w sd c l ls.length j,[]⟩ ∧ H = h100 ch w sd Z
def In100 (ch : AV) (w sd : Int) (c : Nat) (l : AV) (n j : Nat) (lx : AV) (ln : Line) (Z0 : List (Plc × ByteArray)) : Inv := fun μ a H => ∃ k Z,k + μ = ln.length ∧ Z ++ wordsL c j k (ln.drop k) = Z0 ++ wordsL c j 0 ln ∧ a = ⟨51,t100 ch w sd c l n j ++ [(22,.v (.bool true)),(8,intA j),(9,lx),(26,lx),(27,intA ln.length),(28,intA k)],[]⟩ ∧ H = h100 ch w sd Z
theorem strs_bd (ws : Line) : boundL (strs ws) = 0 := by
 refine Nat.le_zero.1 (boundL_le.2 fun x hx => ?_)
 obtain ⟨s, -,rfl⟩ := List.mem_map.1 hx;exact Nat.le_refl _
theorem app1 (B0 B1 B2 B3 B5 : Option AObj) (n : Nat) (cs : List AV) (hl : cs.length = n + 1) (hf : fitsA 16 (n + 1 + 1) = true) (x : Value) (slot : Nat) : appTo 9 1 16 ⟨[B0,B1,B2,B3,some (.cells n 0 9 1 true cs),B5],0⟩ slot 1 [.v x] (.sl 4 n 0 (n + 1) none) = some (.sl 4 (n + 1) 0 (n + 1 + 1) none,⟨[B0,B1,B2,B3,some (.cells (n + 1) 0 9 1 true (cs ++ [.v x])),B5],0⟩) :=
 appTo_own (m := 0) (e' := 9) (cs := cs) (by unfold Heap.row Heap.get;simp) (by omega) (Nat.zero_le _) hf (by omega) (by omega)
theorem app2 (B0 B1 B2 B3 B4 : Option AObj) (n : Nat) (cs : List AV) (hl : cs.length = (n + 1) * 3) (hf : fitsA 24 (n + 1 + 1) = true) (x y z : Value) (slot : Nat) : appTo 28 3 24 ⟨[B0,B1,B2,B3,B4,some (.cells n 0 28 3 true cs)],0⟩ slot 1 [.v x,.v y,.v z] (.sl 5 n 0 (n + 1) none) = some (.sl 5 (n + 1) 0 (n + 1 + 1) none,⟨[B0,B1,B2,B3,B4,some (.cells (n + 1) 0 28 3 true (cs ++ [.v x,.v y,.v z]))],0⟩) :=
 appTo_own (m := 0) (e' := 28) (cs := cs) (by unfold Heap.row Heap.get;simp) (by omega) (Nat.zero_le _) hf (by omega) (by omega)
theorem wordsL_drop (i j : Nat) : ∀ (ln : Line) (k : Nat) (s : ByteArray) (q : Nat),ln[k]? = some s → wordsL i j (q + k) (ln.drop k) = ((i,j,q + k),s) :: wordsL i j (q + (k + 1)) (ln.drop (k + 1))
 | [],k,s,q,h => by simp at h
 | a :: r,0,s,q,h => by simp at h;subst h;rfl
 | a :: r,k + 1,s,q,h => by
  have := wordsL_drop i j r k s (q + 1) (by simpa using h)
  rw [show q + 1 + k = q + (k + 1) by omega,show q + 1 + (k + 1) = q + (k + 1 + 1) by omega] at this
  exact this
theorem wordsC_drop (i : Nat) : ∀ (ls : List Line) (j : Nat) (ln : Line) (q : Nat),ls[j]? = some ln → wordsC i (q + j) (ls.drop j) = wordsL i (q + j) 0 ln ++ wordsC i (q + (j + 1)) (ls.drop (j + 1))
 | [],j,s,q,h => by simp at h
 | a :: r,0,s,q,h => by simp at h;subst h;rfl
 | a :: r,j + 1,s,q,h => by
  have := wordsC_drop i r j s (q + 1) (by simpa using h)
  rw [show q + 1 + j = q + (j + 1) by omega,show q + 1 + (j + 1) = q + (j + 1 + 1) by omega] at this
  exact this
theorem trim_self {Y : Heap} {M : Nat} (hY : Y.size = M) (vs : List AV) (ms : List Nat) : Y.trim M vs ms = Y := by
 rcases trim_orT Y M vs ms with h | h
 ·exact h
 ·rw [h]
  cases Y with
  | mk o k => simp only [Heap.size] at hY;simp only [Heap.mk.injEq,and_true];rw [← hY];exact List.take_length
theorem trim_6 (l : List (Option AObj)) (c : List AV) (v n : Nat) (e : TypeId) (sz : Nat) (g : Bool) (hn : n < 6) (h : l[3]? = some (some (.cells v 6 e sz g c))) (hn2 : 3 < n) (vs : List AV) : (Heap.mk l 0).trim n vs [] = ⟨l,0⟩ := trim_keep (b := 3) hn2 (get_list h) hn
theorem h100t (ch : AV) (w sd : Int) (Z Z2 W : List (Plc × ByteArray)) (h : Z2 = Z ++ W) (vs : List AV) : (h100 ch w sd Z2).trim (h100 ch w sd Z).size vs [] = h100 ch w sd Z2 := by
 subst h
 cases Z with
 | nil =>
  cases W with
  | nil => exact trim_self rfl _ _
  | cons z W => exact trim_6 _ _ _ _ _ _ _ (by show 4 < 6;omega) rfl (by show 3 < 4;omega) _
 | cons z Z => exact trim_self rfl _ _
theorem freezeL4 {H : Heap} {a b c d a' b' c' d' : AV} (ha : ∀ k,freezeV H (k + 1) a = some a') (hb : ∀ k,freezeV H (k + 1) b = some b') (hc : ∀ k,freezeV H (k + 1) c = some c') (hd : ∀ k,freezeV H (k + 1) d = some d') (k : Nat) : freezeL H (k + 6) [a,b,c,d] = some [a',b',c',d'] := by
 simp only [freezeL,ha,hb,hc,hd]
theorem chunk_pcs : ∀ Z : List (Plc × ByteArray),chunk 3 Z.length (pcs Z) = pls Z
 | [] => rfl
 | z :: Z => by
  have := chunk_pcs Z
  show AV.agg [intA z.1.1,intA z.1.2.1,intA z.1.2.2] :: chunk 3 Z.length (pcs Z) = _
  rw [this];rfl
theorem frz100 (B0 B1 B2 B3 : Option AObj) (a b : Value) (n : Nat) (z : Plc × ByteArray) (Z : List (Plc × ByteArray)) (hn : Z.length = n := by rfl) : freezeV ⟨[B0,B1,B2,B3,some (.cells n 0 9 1 true (wds (z :: Z))),some (.cells n 0 28 3 true (pcs (z :: Z)))],0⟩ 1000000 (.agg [.v a,.v b,.sl 4 n 0 (n + 1) none,.sl 5 n 0 (n + 1) none]) = some (.agg [.v a,.v b,.vs 1 (wds (z :: Z)) none,.vs 3 (pls (z :: Z)) none]) := by
 subst hn
 have h1 := wds_len (z :: Z)
 have h2 := pcs_len (z :: Z)
 have h3 := chunk_pcs (z :: Z)
 have h4 := chunk_one (wds (z :: Z))
 rw [h1] at h4
 have := freezeL4 (H := ⟨[B0,B1,B2,B3,some (.cells Z.length 0 9 1 true (wds (z :: Z))),some (.cells Z.length 0 28 3 true (pcs (z :: Z)))],0⟩) (a := .v a) (a' := .v a) (b := .v b) (b' := .v b) (c := .sl 4 Z.length 0 (Z.length + 1) none) (c' := .vs 1 (wds (z :: Z)) none) (d := .sl 5 Z.length 0 (Z.length + 1) none) (d' := .vs 3 (pls (z :: Z)) none) (fun k => rfl) (fun k => rfl) (fun k => by
   unfold freezeV
   have hr : Heap.row ⟨[B0,B1,B2,B3,some (.cells Z.length 0 9 1 true (wds (z :: Z))),some (.cells Z.length 0 28 3 true (pcs (z :: Z)))],0⟩ 4 Z.length = some (0,9,1,true,wds (z :: Z)) := by unfold Heap.row Heap.get;simp
   simp only [hr]
   rw [if_neg (by omega),if_pos ⟨by rw [h1,List.length_cons];omega,by omega⟩,if_pos trivial,List.drop_zero,List.take_of_length_le (by rw [h1,List.length_cons];omega)]
   show some (AV.vs 1 (chunk 1 (z :: Z).length (wds (z :: Z))) none) = _
   rw [List.length_cons,← List.length_cons (a := z),h4]) (fun k => by
   unfold freezeV
   have hr : Heap.row ⟨[B0,B1,B2,B3,some (.cells Z.length 0 9 1 true (wds (z :: Z))),some (.cells Z.length 0 28 3 true (pcs (z :: Z)))],0⟩ 5 Z.length = some (0,28,3,true,pcs (z :: Z)) := by unfold Heap.row Heap.get;simp
   simp only [hr]
   rw [if_neg (by omega),if_pos ⟨by rw [h2,List.length_cons];omega,by omega⟩,if_pos trivial,List.drop_zero,List.take_of_length_le (by rw [h2,List.length_cons];omega),← h3]
   rfl) 999993
 show (freezeL _ (999993 + 6) _).map AV.agg = _
 rw [this];rfl
theorem ansS100 {e : Exts} (_he : Quiet e) (t : Txt) (_ht : Fits t) (ch : AV) (xs : List AV) (hch : SlOf 2 xs ch) (hall : All2 ChapA t xs) (w : Int) (sd : Int) (c : Nat) (cp : Chap) (hc : t[c]? = some cp) (hls1000 : cp.2.length < 1000) (hln : ∀ ln ∈ cp.2,ln.length < 1000) (hne : wordsC c 0 cp.2 ≠ []) (hN : (wordsC c 0 cp.2).length < 100000) : Ans (Cx e) 100 [.agg [ch],.agg [intA w,.v (.int .u8 sd)],intA c] (.agg [intA w,.v (.int .u8 sd),.vs 1 (wds (wordsC c 0 cp.2)) none,.vs 3 (pls (wordsC c 0 cp.2)) none]) := by
 obtain ⟨y,hy,l,rfl,lxs,hl,hls⟩ := hall.get hc
 have hix := hch.idx hy
 unfold Ans
 rw [fn_step (fn_100 e) (show Tryz.f100.body = some _ from rfl)]
 simp -implicitDefEqProofs only [Tryz.f100,go_sem,↓reduceIte,Int.reduceEq,Int.reduceLT,Int.reduceLE,List.reduceReplicate,intA,setT_nil,setT_cons,hch.cells,hch.flat,hch.bound,hix,hl.cells,hl.len,hl.flat,hl.bound,↓boolP_bool,↓iteB_true,↓iteB_false]
 refine Lp_ruleQ (P := Out100 ch w sd c l cp.2) ?_ cp.2.length _ _ ?_
 ·rintro Q KK hQ hKK μ _ _ ⟨j,Z,hj,hZ,rfl,rfl⟩
  have hlsl := hls.1
  cases μ with
  | zero =>
   obtain rfl : j = cp.2.length := by omega
   rw [List.drop_length] at hZ
   have hZe : wordsC c 0 cp.2 = Z := by rw [← hZ];simp [wordsC]
   have hnj : ¬ (lxs.length : Int) < (lxs.length : Int) := by omega
   rcases Z with _ | ⟨z,Z⟩
   ·exact absurd hZe hne
   ·simp -implicitDefEqProofs only [h100c,t100,go_sem,↓reduceIte,Int.reduceEq,Int.reduceLT,Int.reduceLE,List.reduceReplicate,intA,setT_nil,setT_cons,hlsl,hnj,↓boolP_bool,↓iteB_true,↓iteB_false]
    refine hKK _ _ _ ?_
    simp -implicitDefEqProofs only [go_sem,↓reduceIte,Int.reduceEq,Int.reduceLT,Int.reduceLE,List.reduceReplicate,intA,setT_nil,setT_cons,hlsl,hnj,bound_sl,↓boolP_bool,↓iteB_true,↓iteB_false]
    rw [hZe]
    exact frz100 _ _ _ _ _ _ _ z Z
  | succ μ =>
   obtain ⟨ln,hw⟩ := at_lt cp.2 j (by omega)
   obtain ⟨lx,hlx,hsl⟩ := hls.get hw
   have hltj : (j : Int) < ((lxs.length : Nat) : Int) := by omega
   have hjx := hl.idx hlx
   have hsl : SlOf 1 (strs ln) lx := hsl
   have hlen := strs_len ln
   obtain ⟨objs,hH⟩ : ∃ o,h100 ch w sd Z = ⟨o,0⟩ := by cases Z <;> exact ⟨_,rfl⟩
   have hsz : ∃ n,objs.length = n := ⟨_,rfl⟩
   rw [hH]
   simp -implicitDefEqProofs only [t100,go_sem,↓reduceIte,Int.reduceEq,Int.reduceLT,Int.reduceLE,List.reduceReplicate,intA,setT_nil,setT_cons,hlsl,hltj,hjx,hsl.cells,hsl.len,hsl.flat,hlen,↓boolP_bool,↓iteB_true,↓iteB_false]
   rw [← hH]
   refine Lp_ruleQ (P := In100 ch w sd c l lxs.length j lx ln Z) ?_ ln.length _ _ ⟨0,Z,by omega,rfl,rfl,rfl⟩
   rintro Q2 K2 hQ2 hK2 μ2 _ _ ⟨k,Z2,hk,hZ2,rfl,rfl⟩
   cases μ2 with
   | zero =>
    obtain rfl : k = ln.length := by omega
    have hnk : ¬ (ln.length : Int) < (ln.length : Int) := by omega
    have hwj := wrap_succ j (by have := hls.1;omega)
    have hst := wordsC_drop c cp.2 j ln 0 hw
    rw [Nat.zero_add,Nat.zero_add] at hst
    rw [List.drop_length] at hZ2
    have hZ3 : Z2 = Z ++ wordsL c j 0 ln := by rw [← hZ2];simp [wordsL]
    simp -implicitDefEqProofs only [t100,go_sem,↓reduceIte,Int.reduceEq,Int.reduceLT,Int.reduceLE,List.reduceReplicate,intA,setT_nil,setT_cons,hnk,↓boolP_bool,↓iteB_true,↓iteB_false]
    refine hK2 _ _ _ ?_
    simp -implicitDefEqProofs only [go_sem,↓reduceIte,Int.reduceEq,Int.reduceLT,Int.reduceLE,List.reduceReplicate,intA,setT_nil,setT_cons,hwj,↓boolP_bool,↓iteB_true,↓iteB_false]
    rw [show objs.length = (h100 ch w sd Z).size by rw [hH];rfl,h100t ch w sd Z Z2 _ hZ3]
    exact Again.mk' μ (by omega) (hQ _ _ _ ⟨j + 1,Z2,by omega,by rw [hZ3,List.append_assoc,← hst];exact hZ,by rw [hls.1];rfl,rfl⟩)
   | succ μ2 =>
    have hltk : (k : Int) < ((ln.length : Nat) : Int) := by omega
    obtain ⟨s,hs⟩ := at_lt ln k (by omega)
    have hkx := hsl.idx (strs_get hs)
    have hstep := wordsL_drop c j ln k s 0 hs
    rw [Nat.zero_add,Nat.zero_add] at hstep
    have hlZ : Z2.length < 100000 := by
     have h1 := congrArg List.length hZ2
     have h2 := congrArg List.length hZ
     have h3 := wordsC_drop c cp.2 j ln 0 hw
     rw [Nat.zero_add] at h3
     rw [h3] at h2
     simp only [List.length_append] at h1 h2
     omega
    have hf1 : fitsA 16 1 = true := by decide
    have hf2 : fitsA 24 1 = true := by decide
    have hwk := wrap_succ k (by have := hln ln (List.mem_of_getElem? hw);omega)
    rcases Z2 with _ | ⟨z,Z2⟩
    ·simp -implicitDefEqProofs only [h100n,t100,go_sem,↓reduceIte,Int.reduceEq,Int.reduceLT,Int.reduceLE,List.reduceReplicate,intA,setT_nil,setT_cons,hltk,hkx,hsl.cells,hsl.len,hsl.flat,hlen,hf1,hf2,hwk,bound_sl,List.flatMap_cons,List.flatMap_nil,List.append_nil,AV.cells,AV.flat,List.all_cons,List.all_nil,↓boolP_bool,↓iteB_true,↓iteB_false]
     rw [trim_6 _ _ _ _ _ _ _ (by omega) rfl (by omega)]
     exact Again.mk' μ2 (by omega) (hQ2 _ _ _ ⟨k + 1,[((c,j,k),s)],by omega,by rw [← hZ2,hstep];rfl,rfl,rfl⟩)
    ·have hlZ : Z2.length + 1 < 100000 := hlZ
     have hf3 : fitsA 16 (Z2.length + 1 + 1) = true := by unfold fitsA;exact decide_eq_true (by omega)
     have hf4 : fitsA 24 (Z2.length + 1 + 1) = true := by unfold fitsA;exact decide_eq_true (by omega)
     have ha1 := fun B0 B1 B2 B3 B5 x slot => app1 B0 B1 B2 B3 B5 Z2.length (wds (z :: Z2)) (by rw [wds_len];rfl) hf3 x slot
     have ha2 := fun B0 B1 B2 B3 B4 x y z' slot => app2 B0 B1 B2 B3 B4 Z2.length (pcs (z :: Z2)) (by rw [pcs_len];rfl) hf4 x y z' slot
     simp -implicitDefEqProofs only [h100c,t100,go_sem,↓reduceIte,Int.reduceEq,Int.reduceLT,Int.reduceLE,List.reduceReplicate,intA,setT_nil,setT_cons,hltk,hkx,hsl.cells,hsl.len,hsl.flat,hlen,ha1,ha2,hwk,bound_sl,List.flatMap_cons,List.flatMap_nil,List.append_nil,AV.cells,AV.flat,List.all_cons,List.all_nil,↓boolP_bool,↓iteB_true,↓iteB_false]
     have hsn := h100s ch w sd z Z2 ((c,j,k),s)
     refine Again.mk' μ2 (by omega) (hQ2 _ _ _ ⟨k + 1,z :: Z2 ++ [((c,j,k),s)],by omega,by rw [← hZ2,hstep];simp,rfl, ?_⟩)
     rw [hsn]
     rfl
 ·exact ⟨0,[],by omega,rfl,by rw [hls.1];rfl,rfl⟩
end Go.Ev
namespace Go.Ev
open Go.Proofs
attribute [local irreducible] Wp WpS
def longN (n : Nat) (s : ByteArray) : Nat := (if 0 < n then n + 1 else n) + s.size
theorem ansS179 {e : Exts} (n : Nat) (s : ByteArray) (hn : n < 2 ^ 40) (hs : s.size < 2 ^ 40) : Ans (Cx e) 179 [intA n,.v (.string s)] (intA (longN n s)) := by
 unfold Ans longN
 rw [fn_step (fn_179 e) (show Tryz.f179.body = some _ from rfl)]
 have hw := wrap_succ n (by omega)
 by_cases h : 0 < n
 ·have hi : (n : Int) > 0 := by omega
  have hw2 : IntKind.i64.wrap (((n + 1 : Nat) : Int) + (s.size : Int)) = ((n + 1 + s.size : Nat) : Int) := by rw [← Int.natCast_add];exact wrap_nat _ (by omega)
  simp -implicitDefEqProofs only [Tryz.f179,go_sem,↓reduceIte,Int.reduceEq,Int.reduceLT,Int.reduceLE,List.reduceReplicate,intA,setT_nil,setT_cons,hi,hw,hw2,if_pos h,decide_true,↓boolP_bool,↓iteB_true,↓iteB_false]
 ·have hi : ¬ (n : Int) > 0 := by omega
  have hw2 : IntKind.i64.wrap ((n : Int) + (s.size : Int)) = ((n + s.size : Nat) : Int) := by rw [← Int.natCast_add];exact wrap_nat _ (by omega)
  simp -implicitDefEqProofs only [Tryz.f179,go_sem,↓reduceIte,Int.reduceEq,Int.reduceLT,Int.reduceLE,List.reduceReplicate,intA,setT_nil,setT_cons,hi,hw2,if_neg h,decide_false,↓boolP_bool,↓iteB_true,↓iteB_false]
theorem call179 {e : Exts} (he : Quiet e) (n : Nat) (s : ByteArray) (hn : n < 2 ^ 40) (hs : s.size < 2 ^ 40) (me : FuncId) (d : Option Tmp) (H : Heap) : callA (Cx e) (lim (Cx e)) me 179 d [.v (.int .i64 n),.v (.string s)] H = some (.v (.int .i64 (longN n s)),H) :=
 (ansS179 n s hn hs).call (ext_179 he) (pure_179 _ _ _) rfl H
abbrev Ctx := Nat × Nat × Nat
def itC (x : Ctx) : List AV := [.agg [intA x.1,intA x.2.1,intA x.2.2]]
def innC (ws : Line) (w at_ b : Nat) : Nat → Nat → Nat → List Ctx
 | 0,_,_ => []
 | n + 1,a,L => let L' := if a = 0 then L else longN L (ws.getD (at_ + a) emp);if w < L' then [] else (b,a,L') :: innC ws w at_ b n (a + 1) L'
def outC (ws : Line) (w at_ : Nat) : Nat → Nat → Nat → List Ctx
 | 0,_,_ => []
 | n + 1,b,g => innC ws w at_ b (ws.length - at_) 0 (longN g (ws.getD (at_ - b) emp)) ++ outC ws w at_ n (b + 1) (longN g (ws.getD (at_ - b) emp))
def ctxs (ws : Line) (w at_ : Nat) : List Ctx := outC ws w at_ (at_ + 1) 0 0
theorem longN_le (n : Nat) (s : ByteArray) (k : Nat) (h : s.size < 1000) (hn : n ≤ k * 1001) : longN n s ≤ (k + 1) * 1001 := by unfold longN;split <;> omega
theorem yields2_178 {e : Exts} (he : Quiet e) (ws : Line) (hws : ∀ s ∈ ws,s.size < 1000) (hn : ws.length < 1000) (w : Nat) (_hw : w < 1000) (sd : Int) (P : AV) (at_ : Nat) (hat : at_ < ws.length) : Yields2 (Cx e) 178 [.ro (.agg [intA at_]) 0,.ro (.agg [intA w,.v (.int .u8 sd),.vs 1 (strs ws) none,P]) 0] ((ctxs ws w at_).map itC) := by
 intro l S R stp ok live n0 k hsrc s m H hok hlv hR hH hlk hsz
 have key : Fn' (Cx e) 178 [.yld l,.ro (.agg [intA at_]) 0,.ro (.agg [intA w,.v (.int .u8 sd),.vs 1 (strs ws) none,P]) 0] H fun v H' => v = .tup [] ∧ ∃ m',R (runIt stp ((ctxs ws w at_).map itC) s).2 m' ∧ Has m' H' ∧ Moves m H m' H' := by
  rw [fn_step (fn_178 e) (show Tryz.f178.body = some _ from rfl)]
  generalize hN : H.size = N at *
  have hwa := wrap_succ at_ (by omega)
  simp -implicitDefEqProofs only [Tryz.f178,go_sem,↓reduceIte,Int.reduceEq,Int.reduceLT,Int.reduceLE,List.reduceReplicate,intA,setT_nil,setT_cons,hN,settle_eqN hN,hwa,↓boolP_bool,↓iteB_true,↓iteB_false]
  refine Lp_rule (P := fun μ a H1 => ∃ b g s1 m1,b + μ = at_ + 1 ∧ g ≤ b * 1001 ∧ a = ⟨56,[(0,.yld l),(1,.ro (.agg [intA at_]) 0),(2,.ro (.agg [intA w,.v (.int .u8 sd),.vs 1 (strs ws) none,P]) 0),(4,intA g),(9,intA (at_ + 1 : Nat)),(10,intA b)],[]⟩ ∧ live s1 ∧ R s1 m1 ∧ Has m1 H1 ∧ Moves m H m1 H1 ∧ runIt stp ((ctxs ws w at_).map itC) s = runIt stp ((outC ws w at_ μ b g).map itC) s1 ∧ okRun stp ok ((outC ws w at_ μ b g).map itC) s1) ?_ (at_ + 1) _ _ ⟨0,0,s,m,by omega,by omega,rfl,hlv,hR,hH,Moves.refl _ _,rfl,hok⟩
  rintro μ _ H1 ⟨b,g,s1,m1,hb,hg,rfl,hlv1,hR1,hH1,hmv1,hrun1,hok1⟩
  have hlk1 : H1.lock = k := hmv1.lock.trans hlk
  have hsz1 : n0 ≤ H1.size := by have := hmv1.size;omega
  generalize hN1 : H1.size = N1 at *
  cases μ with
  | zero =>
   obtain rfl : b = at_ + 1 := by omega
   simp -implicitDefEqProofs only [go_sem,↓reduceIte,Int.reduceEq,Int.reduceLT,Int.reduceLE,List.reduceReplicate,intA,setT_nil,setT_cons,Int.lt_irrefl,hN1,settle_eqN hN1,trim_eqN hN1,↓boolP_bool,↓iteB_true,↓iteB_false]
   rw [hrun1]
   exact ⟨rfl,m1,hR1,hH1,hmv1⟩
  | succ μ =>
   have hbn : b ≤ at_ := by omega
   obtain ⟨x,hx⟩ := at_lt ws (at_ - b) (by omega)
   have hxs := hws x (List.mem_of_getElem? hx)
   have hxd : ws.getD (at_ - b) emp = x := by rw [List.getD_eq_getElem?_getD,hx];rfl
   have hlt : (b : Int) < ((at_ + 1 : Nat) : Int) := by omega
   have hw1 := wrap_succ b (by omega)
   have hw2 : IntKind.i64.wrap ((at_ : Int) - (b : Int)) = ((at_ - b : Nat) : Int) := by rw [← Int.ofNat_sub hbn];exact wrap_nat _ (by omega)
   have hw3 : IntKind.i64.wrap ((ws.length : Int) - (at_ : Int)) = ((ws.length - at_ : Nat) : Int) := by rw [← Int.ofNat_sub (by omega)];exact wrap_nat _ (by omega)
   have hlen := strs_len ws
   have hix := (show SlOf 1 (strs ws) (.vs 1 (strs ws) none) from Or.inr ⟨none,rfl⟩).idx (strs_get hx)
   have hsll := (show SlOf 1 (strs ws) (.vs 1 (strs ws) none) from Or.inr ⟨none,rfl⟩).len
   have h179 := call179 he g x (by omega) (by omega)
   have hkN : H1.lock ≤ N1 := by have := hsrc.klock;omega
   have hg1 := longN_le g x b hxs hg
   have hc : outC ws w at_ (μ + 1) b g = innC ws w at_ b (ws.length - at_) 0 (longN g x) ++ outC ws w at_ μ (b + 1) (longN g x) := by rw [outC,hxd]
   generalize longN g x = g1 at *
   simp -implicitDefEqProofs only [go_sem,↓reduceIte,Int.reduceEq,Int.reduceLT,Int.reduceLE,List.reduceReplicate,intA,setT_nil,setT_cons,hlt,hw1,hw2,hw3,hix,h179,hlen,hsll,hN1,settle_eqN hN1,trim_eqN hN1,↓boolP_bool,↓iteB_true,↓iteB_false]
   refine Lp_rule (P := fun μ2 a H2 => ∃ ia L s2 m2,ia + μ2 = ws.length - at_ ∧ L ≤ (b + 1 + ia) * 1001 ∧ a = ⟨56,[(0,.yld l),(1,.ro (.agg [intA at_]) 0),(2,.ro (.agg [intA w,.v (.int .u8 sd),.vs 1 (strs ws) none,P]) 0),(4,intA g1),(9,intA (at_ + 1 : Nat)),(10,intA b),(11,.v (.bool true)),(5,intA b),(6,intA L),(27,intA (ws.length - at_ : Nat)),(28,intA ia)],[]⟩ ∧ live s2 ∧ R s2 m2 ∧ Has m2 H2 ∧ Moves m1 H1 m2 H2 ∧ runIt stp ((ctxs ws w at_).map itC) s = runIt stp ((innC ws w at_ b μ2 ia L ++ outC ws w at_ μ (b + 1) g1).map itC) s2 ∧ okRun stp ok ((innC ws w at_ b μ2 ia L ++ outC ws w at_ μ (b + 1) g1).map itC) s2) ?_ (ws.length - at_) _ _ ⟨0,g1,s1,m1,by omega,by omega,rfl,hlv1,hR1,hH1,Moves.refl _ _,by rw [hrun1,hc],by rw [hc] at hok1;exact hok1⟩
   rintro μ2 _ H2 ⟨ia,L,s2,m2,hia,hL,rfl,hlv2,hR2,hH2,hmv2,hrun2,hok2⟩
   have hlk2 : H2.lock = k := hmv2.lock.trans hlk1
   have hsz2 : n0 ≤ H2.size := by have := hmv2.size;omega
   have hsz3 : N1 ≤ H2.size := by have := hmv2.size;omega
   have hmv12 : Moves m H m2 H2 := hmv1.trans hmv2
   have hout : ∀ (s' : S) (m' : Fm) (H' : Heap),live s' → R s' m' → Has m' H' → Moves m1 H1 m' H' → runIt stp ((ctxs ws w at_).map itC) s = runIt stp ((outC ws w at_ μ (b + 1) g1).map itC) s' → okRun stp ok ((outC ws w at_ μ (b + 1) g1).map itC) s' → ∀ vs,Has m' (H'.trim N1 vs []) ∧ Moves m H m' (H'.trim N1 vs []) := fun s' m' H' h1 h2 h3 h4 h5 h6 vs => ⟨h3.trim (hsrc.anch _ _ h2) hsz1 _ _,hmv1.trans (h4.trim _ _ hN1.symm)⟩
   generalize hN2 : H2.size = N2 at *
   cases μ2 with
   | zero =>
    obtain rfl : ia = ws.length - at_ := by omega
    simp -implicitDefEqProofs only [go_sem,↓reduceIte,Int.reduceEq,Int.reduceLT,Int.reduceLE,List.reduceReplicate,intA,setT_nil,setT_cons,Int.lt_irrefl,hw1,hN2,settle_eqN hN2,trim_eqN hN2,↓boolP_bool,↓iteB_true,↓iteB_false]
    obtain ⟨q1,q2⟩ := hout s2 m2 H2 hlv2 hR2 hH2 hmv2 hrun2 hok2 _
    exact ⟨μ,by omega,b + 1,g1,s2,m2,by omega,hg1,rfl,hlv2,hR2,q1,q2,hrun2,hok2⟩
   | succ μ2 =>
    have hlta : (ia : Int) < ((ws.length - at_ : Nat) : Int) := by omega
    have hwi := wrap_succ ia (by omega)
    obtain ⟨L2,hL2⟩ : ∃ L2,(if ia = 0 then L else longN L (ws.getD (at_ + ia) emp)) = L2 := ⟨_,rfl⟩
    have hL3 : L2 ≤ (b + 1 + ia + 1) * 1001 := by
     rw [← hL2]
     split
     ·omega
     ·obtain ⟨y,hy⟩ := at_lt ws (at_ + ia) (by omega)
      have hyd : ws.getD (at_ + ia) emp = y := by rw [List.getD_eq_getElem?_getD,hy];rfl
      rw [hyd]
      exact longN_le L y _ (hws y (List.mem_of_getElem? hy)) hL
    have hci : innC ws w at_ b (μ2 + 1) ia L = if w < L2 then [] else (b,ia,L2) :: innC ws w at_ b μ2 (ia + 1) L2 := by rw [innC];simp only [hL2]
    by_cases h0 : ia = 0
    ·have hgt : ¬ (ia : Int) > 0 := by omega
     obtain rfl : L = L2 := by rw [← hL2,if_pos h0]
     by_cases hwL : w < L
     ·have hwi2 : (L : Int) > (w : Int) := by omega
      rw [hci,if_pos hwL,List.nil_append] at hrun2 hok2
      simp -implicitDefEqProofs only [go_sem,↓reduceIte,Int.reduceEq,Int.reduceLT,Int.reduceLE,List.reduceReplicate,intA,setT_nil,setT_cons,hlta,hgt,hwi2,hw1,hN2,settle_eqN hN2,trim_eqN hN2,decide_true,decide_false,↓boolP_bool,↓iteB_true,↓iteB_false]
      obtain ⟨q1,q2⟩ := hout s2 m2 H2 hlv2 hR2 hH2 hmv2 hrun2 hok2 _
      exact ⟨μ,by omega,b + 1,g1,s2,m2,by omega,hg1,rfl,hlv2,hR2,q1,q2,hrun2,hok2⟩
     ·have hwi2 : ¬ (L : Int) > (w : Int) := by omega
      rw [hci,if_neg hwL,List.cons_append,List.map_cons] at hok2
      rw [hci,if_neg hwL,List.cons_append,List.map_cons,runIt_cons] at hrun2
      obtain ⟨H3,H4,m4,hr3,hr4,hR4,hH4,hmv4⟩ := hsrc.round' s2 m2 (itC (b,ia,L)) H2 hlv2 hok2.1 hR2 hH2 hlk2 (by omega)
      have hst := hsrc.step s2 (itC (b,ia,L)) hlv2 hok2.1
      rw [hN2] at hr4
      cases hb2 : (stp s2 (itC (b,ia,L))).1
      ·rw [hb2] at hr3 hrun2
       simp only [itC,intA] at hr3
       simp -implicitDefEqProofs only [go_sem,↓reduceIte,Int.reduceEq,Int.reduceLT,Int.reduceLE,List.reduceReplicate,intA,setT_nil,setT_cons,hlta,hgt,hwi2,hw1,hN2,settle_eqN hN2,trim_eqN hN2,hr3,hr4,decide_true,decide_false,Bool.not_false,↓boolP_bool,↓iteB_true,↓iteB_false]
       simp only [Bool.false_eq_true,if_false] at hrun2
       rw [hrun2]
       exact ⟨rfl,m4,hR4,hH4,hmv12.trans hmv4⟩
      ·rw [hb2] at hr3 hrun2
       simp only [itC,intA] at hr3
       simp -implicitDefEqProofs only [go_sem,↓reduceIte,Int.reduceEq,Int.reduceLT,Int.reduceLE,List.reduceReplicate,intA,setT_nil,setT_cons,hlta,hgt,hwi2,hw1,hwi,hN2,settle_eqN hN2,trim_eqN hN2,hr3,hr4,decide_true,decide_false,Bool.not_true,↓boolP_bool,↓iteB_true,↓iteB_false]
       simp only [if_true] at hrun2
       refine ⟨μ2,by omega,ia + 1,L,_,m4,by omega,by omega,rfl,hst hb2,hR4, ?_, ?_,hrun2,hok2.2 hb2⟩
       ·exact hH4.trim (hsrc.anch _ _ hR4) (by omega) _ _
       ·exact hmv2.trans (hmv4.trim _ _ hN2.symm)
    ·have hgt : (ia : Int) > 0 := by omega
     obtain ⟨y,hy⟩ := at_lt ws (at_ + ia) (by omega)
     have hys := hws y (List.mem_of_getElem? hy)
     have hyd : ws.getD (at_ + ia) emp = y := by rw [List.getD_eq_getElem?_getD,hy];rfl
     rw [if_neg h0,hyd] at hL2
     have hiy := (show SlOf 1 (strs ws) (.vs 1 (strs ws) none) from Or.inr ⟨none,rfl⟩).idx (strs_get hy)
     have hwy : IntKind.i64.wrap ((at_ : Int) + (ia : Int)) = ((at_ + ia : Nat) : Int) := by rw [← Int.natCast_add];exact wrap_nat _ (by omega)
     have hly := call179 he L y (by omega) (by omega)
     rw [hL2] at hly
     by_cases hwL : w < L2
     ·have hwi2 : (L2 : Int) > (w : Int) := by omega
      rw [hci,if_pos hwL,List.nil_append] at hrun2 hok2
      simp -implicitDefEqProofs only [go_sem,↓reduceIte,Int.reduceEq,Int.reduceLT,Int.reduceLE,List.reduceReplicate,intA,setT_nil,setT_cons,hlta,hgt,hwi2,hw1,hiy,hwy,hly,hN2,settle_eqN hN2,trim_eqN hN2,decide_true,decide_false,↓boolP_bool,↓iteB_true,↓iteB_false]
      obtain ⟨q1,q2⟩ := hout s2 m2 H2 hlv2 hR2 hH2 hmv2 hrun2 hok2 _
      exact ⟨μ,by omega,b + 1,g1,s2,m2,by omega,hg1,rfl,hlv2,hR2,q1,q2,hrun2,hok2⟩
     ·have hwi2 : ¬ (L2 : Int) > (w : Int) := by omega
      rw [hci,if_neg hwL,List.cons_append,List.map_cons] at hok2
      rw [hci,if_neg hwL,List.cons_append,List.map_cons,runIt_cons] at hrun2
      obtain ⟨H3,H4,m4,hr3,hr4,hR4,hH4,hmv4⟩ := hsrc.round' s2 m2 (itC (b,ia,L2)) H2 hlv2 hok2.1 hR2 hH2 hlk2 (by omega)
      have hst := hsrc.step s2 (itC (b,ia,L2)) hlv2 hok2.1
      rw [hN2] at hr4
      cases hb2 : (stp s2 (itC (b,ia,L2))).1
      ·rw [hb2] at hr3 hrun2
       simp only [itC,intA] at hr3
       simp -implicitDefEqProofs only [go_sem,↓reduceIte,Int.reduceEq,Int.reduceLT,Int.reduceLE,List.reduceReplicate,intA,setT_nil,setT_cons,hlta,hgt,hwi2,hw1,hiy,hwy,hly,hN2,settle_eqN hN2,trim_eqN hN2,hr3,hr4,decide_true,decide_false,Bool.not_false,↓boolP_bool,↓iteB_true,↓iteB_false]
       simp only [Bool.false_eq_true,if_false] at hrun2
       rw [hrun2]
       exact ⟨rfl,m4,hR4,hH4,hmv12.trans hmv4⟩
      ·rw [hb2] at hr3 hrun2
       simp only [itC,intA] at hr3
       simp -implicitDefEqProofs only [go_sem,↓reduceIte,Int.reduceEq,Int.reduceLT,Int.reduceLE,List.reduceReplicate,intA,setT_nil,setT_cons,hlta,hgt,hwi2,hw1,hwi,hiy,hwy,hly,hN2,settle_eqN hN2,trim_eqN hN2,hr3,hr4,decide_true,decide_false,Bool.not_true,↓boolP_bool,↓iteB_true,↓iteB_false]
       simp only [if_true] at hrun2
       refine ⟨μ2,by omega,ia + 1,L2,_,m4,by omega,by omega,rfl,hst hb2,hR4, ?_, ?_,hrun2,hok2.2 hb2⟩
       ·exact hH4.trim (hsrc.anch _ _ hR4) (by omega) _ _
       ·exact hmv2.trans (hmv4.trim _ _ hN2.symm)
 obtain ⟨v,H',h1,rfl,m',h2,h3,h4⟩ := fn_ex key
 exact ⟨H',m',h1,h2,h3,h4⟩
end Go.Ev
namespace Go.Ev
open Go.Proofs
attribute [local irreducible] Wp WpS
def ctxV (x : Ctx) : AV := .agg [intA x.1,intA x.2.1,intA x.2.2]
def unev (x : Ctx) : Nat := max (x.1 - x.2.1) (x.2.1 - x.1)
theorem ansS153 {e : Exts} (w : Int) (sd : Int) (ws : List AV) (ps : List AV) (at_ : Nat) : Ans (Cx e) 153 [.agg [intA w,.v (.int .u8 sd),.vs 1 ws none,.vs 3 ps none],intA at_] (.fn (.func 178) [] [.ro (.agg [intA at_]) 0,.ro (.agg [intA w,.v (.int .u8 sd),.vs 1 ws none,.vs 3 ps none]) 0]) := by
 unfold Ans
 rw [fn_step (fn_153 e) (show Tryz.f153.body = some _ from rfl)]
 simp -implicitDefEqProofs only [Tryz.f153,go_sem,↓reduceIte,Int.reduceEq,Int.reduceLT,Int.reduceLE,List.reduceReplicate,intA,setT_nil,setT_cons,↓boolP_bool,↓iteB_true,↓iteB_false]
 rfl
theorem ansS174 {e : Exts} (x y : Ctx) : Ans (Cx e) 174 [ctxV x,ctxV y] (.v (.bool (decide (y.1 < x.1)))) := by
 unfold Ans ctxV
 rw [fn_step (fn_174 e) (show Tryz.f174.body = some _ from rfl)]
 simp -implicitDefEqProofs only [Tryz.f174,go_sem,↓reduceIte,Int.reduceEq,Int.reduceLT,Int.reduceLE,List.reduceReplicate,intA,setT_nil,setT_cons,↓boolP_bool,↓iteB_true,↓iteB_false]
 rw [show decide ((x.1 : Int) > (y.1 : Int)) = decide (y.1 < x.1) by rw [decide_eq_decide];omega]
theorem ansS175 {e : Exts} (x y : Ctx) : Ans (Cx e) 175 [ctxV x,ctxV y] (.v (.bool (decide (x.1 < y.1)))) := by
 unfold Ans ctxV
 rw [fn_step (fn_175 e) (show Tryz.f175.body = some _ from rfl)]
 simp -implicitDefEqProofs only [Tryz.f175,go_sem,↓reduceIte,Int.reduceEq,Int.reduceLT,Int.reduceLE,List.reduceReplicate,intA,setT_nil,setT_cons,↓boolP_bool,↓iteB_true,↓iteB_false]
 rw [show decide ((x.1 : Int) < (y.1 : Int)) = decide (x.1 < y.1) by rw [decide_eq_decide];omega]
theorem max_two (x y : Int) : minmaxA true (.v (.int .i64 x)) [.v (.int .i64 y)] = some (.v (.int .i64 (max x y))) := by
 unfold minmaxA minmax2
 simp only [if_true]
 unfold minmaxA
 by_cases h : x < y
 ·simp only [gt_iff_lt,h,if_true]
  rw [Int.max_def,if_pos (by omega)]
 ·simp only [gt_iff_lt,h,if_false]
  rw [Int.max_def];split
  ·rw [show x = y by omega]
  ·rfl
theorem ansS177 {e : Exts} (x : Ctx) (h1 : x.1 < 2 ^ 40) (h2 : x.2.1 < 2 ^ 40) : Ans (Cx e) 177 [ctxV x] (intA (unev x)) := by
 unfold Ans ctxV
 rw [fn_step (fn_177 e) (show Tryz.f177.body = some _ from rfl)]
 have hw1 : IntKind.i64.wrap ((x.1 : Int) - (x.2.1 : Int)) = (x.1 : Int) - (x.2.1 : Int) := wrap_in _ (by omega) (by omega)
 have hw2 : IntKind.i64.wrap ((x.2.1 : Int) - (x.1 : Int)) = (x.2.1 : Int) - (x.1 : Int) := wrap_in _ (by omega) (by omega)
 simp -implicitDefEqProofs only [Tryz.f177,go_sem,↓reduceIte,Int.reduceEq,Int.reduceLT,Int.reduceLE,List.reduceReplicate,intA,setT_nil,setT_cons,hw1,hw2,max_two,↓boolP_bool,↓iteB_true,↓iteB_false]
 rw [show max ((x.1 : Int) - (x.2.1 : Int)) ((x.2.1 : Int) - (x.1 : Int)) = ((unev x : Nat) : Int) by unfold unev;omega]
theorem ansS151 {e : Exts} : Ans (Cx e) 151 [] (.agg [.v .nilFunc,.fn (.func 174) [] [],.fn (.func 175) [] [],.fn (.func 176) [] []]) := by
 unfold Ans
 rw [fn_step (fn_151 e) (show Tryz.f151.body = some _ from rfl)]
 simp -implicitDefEqProofs only [Tryz.f151,go_sem,↓reduceIte,Int.reduceEq,Int.reduceLT,Int.reduceLE,List.reduceReplicate,intA,setT_nil,setT_cons,↓boolP_bool,↓iteB_true,↓iteB_false]
 rfl
def aheadE (x y : Ctx) : Bool := if unev x = unev y then decide (x.1 < y.1) else decide (unev x < unev y)
theorem ansS176 {e : Exts} (he : Quiet e) (x y : Ctx) (h1 : x.1 < 2 ^ 40) (h2 : x.2.1 < 2 ^ 40) (h3 : y.1 < 2 ^ 40) (h4 : y.2.1 < 2 ^ 40) : Ans (Cx e) 176 [ctxV x,ctxV y] (.v (.bool (aheadE x y))) := by
 have cx := fun me d => (ansS177 (e := e) x h1 h2).callI (me := me) (d := d) (ext_177 he) (pure_177 _ _ _) rfl
 have cy := fun me d => (ansS177 (e := e) y h3 h4).callI (me := me) (d := d) (ext_177 he) (pure_177 _ _ _) rfl
 unfold Ans
 unfold ctxV intA at cx cy ⊢
 rw [fn_step (fn_176 e) (show Tryz.f176.body = some _ from rfl)]
 simp -implicitDefEqProofs only [Tryz.f176,go_sem,↓reduceIte,Int.reduceEq,Int.reduceLT,Int.reduceLE,List.reduceReplicate,intA,setT_nil,setT_cons,↓boolP_bool,↓iteB_true,↓iteB_false]
 refine wp_drawX [([],[],false),([],[],false),([0,1],[],false),([],[],false),([],[],false)] (by kernel_rfl) (by kernel_rfl) ?_
 by_cases h : unev x = unev y
 ·have hi : (unev x : Int) = (unev y : Int) := by omega
  have ha : aheadE x y = decide (x.1 < y.1) := by unfold aheadE;rw [if_pos h]
  simp -implicitDefEqProofs only [go_sem,↓reduceIte,Int.reduceEq,Int.reduceLT,Int.reduceLE,List.reduceReplicate,intA,setT_nil,setT_cons,cx,cy,hi,↓boolP_bool,↓iteB_true,↓iteB_false]
  rw [ha,show decide ((x.1 : Int) < (y.1 : Int)) = decide (x.1 < y.1) by rw [decide_eq_decide];omega]
 ·have hi : ¬ (unev x : Int) = (unev y : Int) := by omega
  have ha : aheadE x y = decide (unev x < unev y) := by unfold aheadE;rw [if_neg h]
  simp -implicitDefEqProofs only [go_sem,↓reduceIte,Int.reduceEq,Int.reduceLT,Int.reduceLE,List.reduceReplicate,intA,setT_nil,setT_cons,cx,cy,hi,decide_false,Bool.not_false,↓boolP_bool,↓iteB_true,↓iteB_false]
  refine wp_drawX [([],[],false),([],[],false),([0,1],[],false),([],[],false),([],[],false),([],[],false)] (by kernel_rfl) (by kernel_rfl) ?_
  simp -implicitDefEqProofs only [go_sem,↓reduceIte,Int.reduceEq,Int.reduceLT,Int.reduceLE,List.reduceReplicate,intA,setT_nil,setT_cons,cx,cy,hi,↓boolP_bool,↓iteB_true,↓iteB_false]
  rw [ha,show decide ((unev x : Int) < (unev y : Int)) = decide (unev x < unev y) by rw [decide_eq_decide];omega]
def aheadF (sd : Nat) (x y : Ctx) : Bool := if sd = 1 then decide (y.1 < x.1) else if sd = 2 then decide (x.1 < y.1) else aheadE x y
def aheadC (sd : Nat) (x y : Ctx) : Bool := if x.2.2 = y.2.2 then aheadF sd x y else decide (y.2.2 < x.2.2)
theorem callSd {e : Exts} (he : Quiet e) (sd : Nat) (h1 : 1 ≤ sd) (h2 : sd ≤ 3) (x y : Ctx) (hx1 : x.1 < 2 ^ 40) (hx2 : x.2.1 < 2 ^ 40) (hy1 : y.1 < 2 ^ 40) (hy2 : y.2.1 < 2 ^ 40) (me : FuncId) (d : Option Tmp) (H : Heap) : callA (Cx e) (lim (Cx e)) me (173 + sd) d [ctxV x,ctxV y] H = some (.v (.bool (aheadF sd x y)),H) := by
 obtain rfl | rfl | rfl : sd = 1 ∨ sd = 2 ∨ sd = 3 := by omega
 ·exact (ansS174 x y).call (ext_174 he) (pure_174 _ _ _) rfl H
 ·exact (ansS175 x y).call (ext_175 he) (pure_175 _ _ _) rfl H
 ·exact (ansS176 he x y hx1 hx2 hy1 hy2).call (ext_176 he) (pure_176 _ _ _) rfl H
theorem fn154 {e : Exts} {X : Heap} {N : Nat} (hN : X.size = N) (_hlk : X.lock ≤ N) (f : FuncId) (x y : Ctx) (b : Bool) (q m : Nat) (hq : X.row q 0 = some (m,217,1,false,[.fn (.func f) [] []])) (hqN : q < N) (hcall : ∀ (me : FuncId) (d : Option Tmp) (H : Heap),callA (Cx e) (lim (Cx e)) me f d [ctxV x,ctxV y] H = some (.v (.bool b),H)) :
  Fn' (Cx e) 154 [ctxV x,ctxV y,.ptr q 0 0] X (fun v _ => v = .v (.bool (if x.2.2 = y.2.2 then b else decide (y.2.2 < x.2.2)))) := by
 unfold ctxV intA at hcall ⊢
 have hrq : ∀ E,(X.plus E).row q 0 = some (m,217,1,false,[.fn (.func f) [] []]) := fun E => by rw [rowLo (by omega)];exact hq
 rw [fn_step (fn_154 e) (show Tryz.f154.body = some _ from rfl),← plus_nil X]
 by_cases h : x.2.2 = y.2.2
 ·have hi : decide ((x.2.2 : Int) = (y.2.2 : Int)) = true := decide_eq_true (by omega)
  simp -implicitDefEqProofs only [Tryz.f154,go_sem,↓reduceIte,Int.reduceEq,Int.reduceLT,Int.reduceLE,List.reduceReplicate,intA,setT_nil,setT_cons,hi,hcall,hrq,if_pos h,Bool.not_true,sizeP hN,putP0 hN,putP hN,settleP0 hN,settleP hN,rowP0 hN,rowP hN,storeP0 hN _hlk,storeP hN _hlk,↓boolP_bool,↓iteB_true,↓iteB_false,List.length_nil,List.length_cons,Nat.add_zero]
  rfl
 ·have hi : ¬ (x.2.2 : Int) = (y.2.2 : Int) := by omega
  simp -implicitDefEqProofs only [Tryz.f154,go_sem,↓reduceIte,Int.reduceEq,Int.reduceLT,Int.reduceLE,List.reduceReplicate,intA,setT_nil,setT_cons,hi,hcall,hrq,if_neg h,decide_false,Bool.not_false,sizeP hN,putP0 hN,putP hN,settleP0 hN,settleP hN,rowP0 hN,rowP hN,storeP0 hN _hlk,storeP hN _hlk,↓boolP_bool,↓iteB_true,↓iteB_false,List.length_nil,List.length_cons,Nat.add_zero]
  rw [show decide ((y.2.2 : Int) < (x.2.2 : Int)) = decide (y.2.2 < x.2.2) by rw [decide_eq_decide];omega]
  rfl
theorem call154 {e : Exts} (he : Quiet e) {X : Heap} (sd : Nat) (h1 : 1 ≤ sd) (h2 : sd ≤ 3) (x y : Ctx) (hx1 : x.1 < 2 ^ 40) (hx2 : x.2.1 < 2 ^ 40) (hy1 : y.1 < 2 ^ 40) (hy2 : y.2.1 < 2 ^ 40) (q m : Nat) (hq : X.row q 0 = some (m,217,1,false,[.fn (.func (173 + sd)) [] []])) (hqN : q < X.size) (me : FuncId) (d : Option Tmp) : callA (Cx e) (lim (Cx e)) me 154 d [ctxV x,ctxV y,.ptr q 0 0] X = some (.v (.bool (aheadC sd x y)),X) := by
 refine callA_still (ext_154 he) (pure_154 _ _ _) rfl (fun h => ?_) ?_
 ·have h9 := boundL_le.1 (Nat.le_of_eq h) (.ptr q 0 0) (by simp)
  exact absurd h9 (by show ¬ q + 1 ≤ 0;omega)
 ·exact fn154 (X := { X with lock := X.size }) (N := X.size) rfl (Nat.le_refl _) (173 + sd) x y (aheadF sd x y) q m hq hqN fun me d H => callSd he sd h1 h2 x y hx1 hx2 hy1 hy2 me d H
end Go.Ev
namespace Go.Ev
open Go.Proofs
attribute [local irreducible] Wp WpS
def bsC : Option Ctx → List AV
 | none => [intA 0,intA 0,intA 0]
 | some y => [intA y.1,intA y.2.1,intA y.2.2]
theorem bsC_len (s : Option Ctx) : (bsC s).length = 3 := by cases s <;> rfl
theorem bsC_flat (s : Option Ctx) : (bsC s).all AV.flat = true := by cases s <;> rfl
theorem bsC_bd (s : Option Ctx) : boundL (bsC s) = 0 := by cases s <;> rfl
def nxC (sd : Nat) (s : Option Ctx) (c : Ctx) : Option Ctx := match s with | none => some c | some y => if aheadC sd c y then some c else some y
def deC (x : List AV) : Ctx := match x with | [.agg [.v (.int _ b),.v (.int _ a),.v (.int _ l)]] => (b.toNat,a.toNat,l.toNat) | _ => (0,0,0)
def smC (c : Ctx) : Prop := c.1 < 2 ^ 40 ∧ c.2.1 < 2 ^ 40
def okC (_ : Option Ctx) (x : List AV) : Prop := ∃ c : Ctx,x = itC c ∧ smC c
def lvC (s : Option Ctx) : Prop := ∀ y,s = some y → smC y
def stpC (sd : Nat) (s : Option Ctx) (x : List AV) : AExit × Option Ctx := (.normal,nxC sd s (deC x))
def R152 (sd q mq N : Nat) (s : Option Ctx) (m : Fm) : Prop := m = [(q,.cells 0 mq 217 1 false [.fn (.func (173 + sd)) [] []]),(N,.cells 0 (q + 1) 215 1 false [.fn (.func 154) [] [.ptr q 0 0]]),(N + 1,.cells 0 0 184 1 false [intA 0,intA 0,intA 0]),(N + 2,.cells 0 0 184 1 false (bsC s)),(N + 3,.cells 0 0 4 1 false [.v (.bool s.isSome)])]
theorem foldC (sd : Nat) : ∀ (l : List Ctx) (s : Option Ctx),foldE (stpC sd) (l.map itC) s = (.normal,l.foldl (nxC sd) s)
 | [],_ => rfl
 | c :: r,s => by
  rw [List.map_cons,foldE_go rfl]
  exact foldC sd r (nxC sd s c)
theorem okRunC (sd : Nat) : ∀ (l : List Ctx) (s : Option Ctx),(∀ c ∈ l,smC c) → okRun (fun s x => (isGo (stpC sd s x).1,(stpC sd s x).2)) okC (l.map itC) s
 | [],_,_ => trivial
 | c :: r,_,h => ⟨⟨c,rfl,h c (List.mem_cons_self ..)⟩,fun _ => okRunC sd r _ fun y hy => h y (List.mem_cons_of_mem _ hy)⟩
theorem nxC_sm {sd : Nat} {s : Option Ctx} {c : Ctx} (h1 : lvC s) (h2 : smC c) : lvC (nxC sd s c) := by
 intro y hy
 unfold nxC at hy
 cases s with
 | none => simp at hy;subst hy;exact h2
 | some z =>
  simp only at hy
  split at hy
  ·simp at hy;subst hy;exact h2
  ·exact h1 y hy
theorem bd2K_at {S : Type} (R : S → Fm → Prop) (d : Nat) (L' : ALoop) (m : Fm) (H : Heap) (p : AExit × S) (e : AExit) (a : AAct) (H' : Heap) : AtK (bd2K R d L' m H p) e a H' = (e = p.1 ∧ ∃ m',R p.2 m' ∧ Has m' H' ∧ loopObj H' (d + 1) = some L' ∧ Moves ((d + 1,.loop L') :: m) H ((d + 1,.loop L') :: m') H') := rfl
theorem fn152 {e : Exts} (he : Quiet e) (sd : Nat) (h1 : 1 ≤ sd) (h2 : sd ≤ 3) {X : Heap} {N : Nat} (hN : X.size = N) (hlk : X.lock = N) (q mq : Nat) (hq : X.get q = some (.cells 0 mq 217 1 false [.fn (.func (173 + sd)) [] []])) (hqN : q < N) (g : FuncId) (cap : List AV) (l : List Ctx) (hsm : ∀ c ∈ l,smC c) (hy : Yields2 (Cx e) g cap (l.map itC)) :
  Fn' (Cx e) 152 [.fn (.func g) [] cap,.fn (.func 154) [] [.ptr q 0 0]] X (fun v _ => v = .agg (bsC (l.foldl (nxC sd) none))) := by
 have hlkN : X.lock ≤ N := by omega
 rw [fn_step (fn_152 e) (show Tryz.f152.body = some _ from rfl),← plus_nil X]
 simp -implicitDefEqProofs only [Tryz.f152,go_sem,↓reduceIte,Int.reduceEq,Int.reduceLT,Int.reduceLE,List.reduceReplicate,intA,setT_nil,setT_cons,sizeP hN,putP0 hN,putP hN,settleP0 hN,settleP hN,rowP0 hN,rowP hN,storeP0 hN hlkN,storeP hN hlkN,↓boolP_bool,↓iteB_true,↓iteB_false,List.length_nil,List.length_cons,Nat.add_zero]
 have hN4 : ∀ a b c d : Option AObj,(X.plus [a,b,c,d]).size = N + 4 := fun a b c d => by rw [plus_size,hN];rfl
 refine wp_range2 hy rfl (R152 sd q mq N) (stpC sd) lvC okC (n0 := N + 4) (k := N) (by rw [hN4];exact Nat.le_refl _) (by rw [hN4];omega) (fun x hx => ?_) ?_ ?_ (fun s x hl hx _ => ?_) ?_ none _ (okRunC sd l none hsm) (fun y hy => nomatch hy) rfl ?_ hlk ?_
 ·obtain ⟨c, -,rfl⟩ := List.mem_map.1 hx
  rfl
 ·rintro s m rfl n hn ⟨p,hp,hpn⟩
  simp only [List.mem_cons,List.not_mem_nil,or_false] at hp
  rcases hp with rfl | rfl | rfl | rfl | rfl <;> simp only at hpn <;> omega
 ·rintro s m rfl
  rw [hN4]
  constructor
  ·rintro ⟨p,hp,he⟩
   simp only [List.mem_cons,List.not_mem_nil,or_false] at hp
   rcases hp with rfl | rfl | rfl | rfl | rfl <;> simp only at he <;> omega
  ·rintro ⟨p,hp,he⟩
   simp only [List.mem_cons,List.not_mem_nil,or_false] at hp
   rcases hp with rfl | rfl | rfl | rfl | rfl <;> simp only at he <;> omega
 ·obtain ⟨c,rfl,hc⟩ := hx
  exact nxC_sm hl hc
 ·rw [hN4]
  rintro L L' s m x H' - hlvs ⟨c,rfl,hc⟩ - rfl hHm hd0 hlo hlk' hsz'
  have g0 : H'.get q = some (.cells 0 mq 217 1 false [.fn (.func (173 + sd)) [] []]) := hHm (q,_) (by simp)
  have g1 : H'.get N = some (.cells 0 (q + 1) 215 1 false [.fn (.func 154) [] [.ptr q 0 0]]) := hHm (N,_) (by simp)
  have g2 : H'.get (N + 1) = some (.cells 0 0 184 1 false [intA 0,intA 0,intA 0]) := hHm (N + 1,_) (by simp)
  have g3 : H'.get (N + 2) = some (.cells 0 0 184 1 false (bsC s)) := hHm (N + 2,_) (by simp)
  have g4 : H'.get (N + 3) = some (.cells 0 0 4 1 false [.v (.bool s.isSome)]) := hHm (N + 3,_) (by simp)
  obtain ⟨N2,hN2⟩ : ∃ N2,H'.size = N2 := ⟨_,rfl⟩
  have hlk2 : H'.lock ≤ N2 := by omega
  rw [← plus_nil H']
  simp -implicitDefEqProofs only [go_sem,↓reduceIte,Int.reduceEq,Int.reduceLT,Int.reduceLE,List.reduceReplicate,intA,setT_nil,setT_cons,itC,List.zip_cons_cons,List.zip_nil_right,List.zip_nil_left,sizeP hN2,putP0 hN2,putP hN2,settleP0 hN2,settleP hN2,rowP0 hN2,rowP hN2,storeP0 hN2 hlk2,storeP hN2 hlk2,↓boolP_bool,↓iteB_true,↓iteB_false,List.length_nil,List.length_cons,Nat.add_zero]
  obtain ⟨E0,hE0⟩ : ∃ E0 : List (Option AObj),[some (.cells 0 0 184 1 false [.v (.int .i64 c.1),.v (.int .i64 c.2.1),.v (.int .i64 c.2.2)])] = E0 := ⟨_,rfl⟩
  have hlo1 : loopObj (H'.plus E0) (N + 4 + 1) = some L := get_loopObj ((plus_get _ (by omega)).trans (loopObj_getI hlo))
  rw [hE0,plus_nil]
  refine ⟨rfl,hlo1, ?_⟩
  obtain ⟨Y,hY⟩ : ∃ Y,(H'.plus E0).put (N + 4 + 1) (.loop L') = Y := ⟨_,rfl⟩
  have hszE : (H'.plus E0).size = N2 + 1 := by rw [plus_size,hN2,← hE0];rfl
  have hN3 : Y.size = N2 + 1 := by rw [← hY,put_sizeI _ (by omega)];exact hszE
  have hYg : ∀ b,b ≠ N + 4 + 1 → b < N2 → Y.get b = H'.get b := fun b hb hb2 => by rw [← hY,put_get_ne _ (by omega) hb];exact plus_get _ (by omega)
  have hYlk : Y.lock = N := by rw [← hY];exact hlk'
  have hlk3 : Y.lock ≤ N2 + 1 := by omega
  have hYL : Y.get (N + 4 + 1) = some (.loop L') := by rw [← hY];exact put_get_eq _ (by omega)
  have hYc : Y.get N2 = some (.cells 0 0 184 1 false [.v (.int .i64 c.1),.v (.int .i64 c.2.1),.v (.int .i64 c.2.2)]) := by rw [← hY,put_get_ne _ (by omega) (by omega),← hE0];exact plus_mid_get hN2 [] [] _
  have y0 := (hYg q (by omega) (by omega)).trans g0
  have y1 := (hYg N (by omega) (by omega)).trans g1
  have y2 := (hYg (N + 1) (by omega) (by omega)).trans g2
  have y3 := (hYg (N + 2) (by omega) (by omega)).trans g3
  have y4 := (hYg (N + 3) (by omega) (by omega)).trans g4
  have rw1 : ∀ F,(Y.plus F).row N 0 = some (q + 1,215,1,false,[.fn (.func 154) [] [.ptr q 0 0]]) := fun F => by rw [rowLo (by omega)];exact get_row y1
  have rw3 : ∀ F,(Y.plus F).row (N + 2) 0 = some (0,184,1,false,bsC s) := fun F => by rw [rowLo (by omega)];exact get_row y3
  have rw4 : ∀ F,(Y.plus F).row (N + 3) 0 = some (0,4,1,false,[.v (.bool s.isSome)]) := fun F => by rw [rowLo (by omega)];exact get_row y4
  have rwc : ∀ F,(Y.plus F).row N2 0 = some (0,184,1,false,[.v (.int .i64 c.1),.v (.int .i64 c.2.1),.v (.int .i64 c.2.2)]) := fun F => by rw [rowLo (by omega)];exact get_row hYc
  have h3r := rw3 []
  rw [plus_nil] at h3r
  have st3 := fun E => storeLo (X := Y) (b := N + 2) (xs := [.v (.int .i64 c.1),.v (.int .i64 c.2.1),.v (.int .i64 c.2.2)]) (by omega) (by omega) h3r (by rw [bsC_len];rfl) rfl E
  obtain ⟨W,hW⟩ : ∃ W,Y.put (N + 2) (.cells 0 (Nat.max 0 (boundL [.v (.int .i64 c.1),.v (.int .i64 c.2.1),.v (.int .i64 c.2.2)])) 184 1 false [.v (.int .i64 c.1),.v (.int .i64 c.2.1),.v (.int .i64 c.2.2)]) = W := ⟨_,rfl⟩
  rw [hW] at st3
  have hWs : W.size = N2 + 1 := by rw [← hW,put_sizeI _ (by omega)];exact hN3
  have hWl : W.lock = N := by rw [← hW];exact hYlk
  have hW3 : W.get (N + 2) = some (.cells 0 0 184 1 false [.v (.int .i64 c.1),.v (.int .i64 c.2.1),.v (.int .i64 c.2.2)]) := by rw [← hW];exact put_get_eq _ (by omega)
  have hWg : ∀ b,b ≠ N + 2 → W.get b = Y.get b := fun b hb => by rw [← hW];exact put_get_ne _ (by omega) hb
  have w4 := (hWg (N + 3) (by omega)).trans y4
  have st4 := fun E => storeLo (X := W) (b := N + 3) (xs := [.v (.bool true)]) (by omega) (by omega) (get_row w4) rfl rfl E
  obtain ⟨V,hV⟩ : ∃ V,W.put (N + 3) (.cells 0 (Nat.max 0 (boundL [.v (.bool true)])) 4 1 false [.v (.bool true)]) = V := ⟨_,rfl⟩
  rw [hV] at st4
  have hVs : V.size = N2 + 1 := by rw [← hV,put_sizeI _ (by omega)];exact hWs
  have hVl : V.lock = N := by rw [← hV];exact hWl
  have hV4 : V.get (N + 3) = some (.cells 0 0 4 1 false [.v (.bool true)]) := by rw [← hV];exact put_get_eq _ (by omega)
  have hVg : ∀ b,b ≠ N + 3 → V.get b = W.get b := fun b hb => by rw [← hV];exact put_get_ne _ (by omega) hb
  have hwl : W.lock ≤ N2 + 1 := by omega
  have hvl : V.lock ≤ N2 + 1 := by omega
  have fin : ∀ (Z : Heap) (s' : Option Ctx),Z.size = N2 + 1 → Z.lock = N → Z.get (N + 2) = some (.cells 0 0 184 1 false (bsC s')) → Z.get (N + 3) = some (.cells 0 0 4 1 false [.v (.bool s'.isSome)]) → (∀ b,b ≠ N + 2 → b ≠ N + 3 → Z.get b = Y.get b) →
    ∃ m',R152 sd q mq N s' m' ∧ Has m' Z ∧ loopObj Z (N + 4 + 1) = some L' ∧ Moves ((N + 4 + 1,.loop L') :: [(q,.cells 0 mq 217 1 false [.fn (.func (173 + sd)) [] []]),(N,.cells 0 (q + 1) 215 1 false [.fn (.func 154) [] [.ptr q 0 0]]),(N + 1,.cells 0 0 184 1 false [intA 0,intA 0,intA 0]),(N + 2,.cells 0 0 184 1 false (bsC s)),(N + 3,.cells 0 0 4 1 false [.v (.bool s.isSome)])]) H' ((N + 4 + 1,.loop L') :: m') Z := by
   intro Z s' z1 z2 z3 z4 z5
   refine ⟨_,rfl,fun p hp => ?_,get_loopObj ((z5 _ (by omega) (by omega)).trans hYL),by omega,by omega,fun b hb hnb => ?_,fun p hp => ?_⟩
   ·simp only [List.mem_cons,List.not_mem_nil,or_false] at hp
    rcases hp with rfl | rfl | rfl | rfl | rfl
    ·exact (z5 q (by omega) (by omega)).trans y0
    ·exact (z5 N (by omega) (by omega)).trans y1
    ·exact (z5 (N + 1) (by omega) (by omega)).trans y2
    ·exact z3
    ·exact z4
   ·have b1 : b ≠ N + 4 + 1 := fun he => hnb ⟨_,List.mem_cons_self ..,he.symm⟩
    have b2 : b ≠ N + 2 := fun he => hnb ⟨(N + 2,.cells 0 0 184 1 false (bsC s)),by simp,he.symm⟩
    have b3 : b ≠ N + 3 := fun he => hnb ⟨(N + 3,.cells 0 0 4 1 false [.v (.bool s.isSome)]),by simp,he.symm⟩
    rw [z5 b b2 b3,hYg b b1 (by omega)]
   ·left
    simp only [List.mem_cons,List.not_mem_nil,or_false] at hp
    rcases hp with rfl | rfl | rfl | rfl | rfl | rfl
    ·exact ⟨_,List.mem_cons_self ..,rfl⟩
    ·exact ⟨(q,.cells 0 mq 217 1 false [.fn (.func (173 + sd)) [] []]),by simp,rfl⟩
    ·exact ⟨(N,.cells 0 (q + 1) 215 1 false [.fn (.func 154) [] [.ptr q 0 0]]),by simp,rfl⟩
    ·exact ⟨(N + 1,.cells 0 0 184 1 false [intA 0,intA 0,intA 0]),by simp,rfl⟩
    ·exact ⟨(N + 2,.cells 0 0 184 1 false (bsC s)),by simp,rfl⟩
    ·exact ⟨(N + 3,.cells 0 0 4 1 false [.v (.bool s.isSome)]),by simp,rfl⟩
  have vo : ∀ b,b ≠ N + 2 → b ≠ N + 3 → V.get b = Y.get b := fun b b2 b3 => (hVg b b3).trans (hWg b b2)
  have v3 := (hVg (N + 2) (by omega)).trans hW3
  rw [hY,← plus_nil Y]
  cases s with
  | none =>
   simp only [Option.isSome_none] at rw4
   simp -implicitDefEqProofs only [go_sem,↓reduceIte,Int.reduceEq,Int.reduceLT,Int.reduceLE,List.reduceReplicate,intA,setT_nil,setT_cons,rw1,rw3,rw4,rwc,st3,st4,Bool.not_false,sizeP hN3,putP0 hN3,putP hN3,settleP0 hN3,settleP hN3,rowP0 hN3,rowP hN3,storeP0 hN3 hlk3,storeP hN3 hlk3,settleP0 hVs,settleP hVs,↓boolP_bool,↓iteB_true,↓iteB_false,List.length_nil,List.length_cons,Nat.add_zero,bd2K_at]
   rw [plus_nil]
   exact ⟨rfl,fin V (some c) hVs hVl v3 hV4 vo⟩
  | some y =>
   have h154 := fun me d E => call154 he (X := Y.plus E) sd h1 h2 c y hc.1 hc.2 (hlvs y rfl).1 (hlvs y rfl).2 q mq (by rw [rowLo (by omega)];exact get_row y0) (by rw [plus_size];omega) me d
   simp only [Option.isSome_some] at rw4
   unfold ctxV intA at h154
   cases ha : aheadC sd c y with
   | true =>
    simp only [bsC] at rw3
    simp -implicitDefEqProofs only [go_sem,↓reduceIte,Int.reduceEq,Int.reduceLT,Int.reduceLE,List.reduceReplicate,intA,setT_nil,setT_cons,rw1,rw3,rw4,rwc,st3,st4,h154,ha,Bool.not_true,sizeP hN3,putP0 hN3,putP hN3,settleP0 hN3,settleP hN3,rowP0 hN3,rowP hN3,storeP0 hN3 hlk3,storeP hN3 hlk3,settleP0 hVs,settleP hVs,↓boolP_bool,↓iteB_true,↓iteB_false,List.length_nil,List.length_cons,Nat.add_zero,bd2K_at]
    rw [plus_nil]
    have hnx : nxC sd (some y) c = some c := by unfold nxC;simp only [ha,if_true]
    refine ⟨rfl, ?_⟩
    show ∃ m',R152 sd q mq N (nxC sd (some y) c) m' ∧ _
    rw [hnx]
    exact fin V (some c) hVs hVl v3 hV4 vo
   | false =>
    simp only [bsC] at rw3
    simp -implicitDefEqProofs only [go_sem,↓reduceIte,Int.reduceEq,Int.reduceLT,Int.reduceLE,List.reduceReplicate,intA,setT_nil,setT_cons,rw1,rw3,rw4,rwc,st3,st4,h154,ha,Bool.not_true,sizeP hN3,putP0 hN3,putP hN3,settleP0 hN3,settleP hN3,rowP0 hN3,rowP hN3,storeP0 hN3 hlk3,storeP hN3 hlk3,settleP0 hVs,settleP hVs,↓boolP_bool,↓iteB_true,↓iteB_false,List.length_nil,List.length_cons,Nat.add_zero,bd2K_at]
    rw [plus_nil]
    have hnx : nxC sd (some y) c = some y := by unfold nxC;simp only [ha];rfl
    refine ⟨rfl, ?_⟩
    show ∃ m',R152 sd q mq N (nxC sd (some y) c) m' ∧ _
    rw [hnx]
    exact fin Y (some y) hN3 hYlk y3 y4 (fun _ _ _ => rfl)
 ·intro p hp
  simp only [List.mem_cons,List.not_mem_nil,or_false] at hp
  rcases hp with rfl | rfl | rfl | rfl | rfl
  ·rw [plus_get _ (by omega)];exact hq
  ·exact plus_mid_get hN [] _ _
  ·exact plus_mid_get hN [_] _ _
  ·exact plus_mid_get hN [_,_] _ _
  ·exact plus_mid_get hN [_,_,_] _ _
 ·rw [hN4,foldC]
  rintro m' H' rfl hHm hd hdd hmv hsz'
  generalize l.foldl (nxC sd) none = s at *
  have g2 : H'.get (N + 1) = some (.cells 0 0 184 1 false [intA 0,intA 0,intA 0]) := hHm (N + 1,_) (by simp)
  have g3 : H'.get (N + 2) = some (.cells 0 0 184 1 false (bsC s)) := hHm (N + 2,_) (by simp)
  obtain ⟨N2,hN2⟩ : ∃ N2,H'.size = N2 := ⟨_,rfl⟩
  have hl' : H'.lock = N := by rw [hmv.lock];exact hlk
  have hlk2 : H'.lock ≤ N2 := by omega
  have r3 : ∀ F,(H'.plus F).row (N + 2) 0 = some (0,184,1,false,bsC s) := fun F => by rw [rowLo (by omega)];exact get_row g3
  have st2 := fun E => storeLo (X := H') (b := N + 1) (xs := bsC s) (by omega) (by omega) (get_row g2) (by rw [bsC_len];rfl) (bsC_flat s) E
  obtain ⟨W,hW⟩ : ∃ W,H'.put (N + 1) (.cells 0 (Nat.max 0 (boundL (bsC s))) 184 1 false (bsC s)) = W := ⟨_,rfl⟩
  rw [hW] at st2
  have hWs : W.size = N2 := by rw [← hW,put_sizeI _ (by omega)];exact hN2
  have hWl : W.lock = N := by rw [← hW];exact hl'
  have hW2 : ∀ F,(W.plus F).row (N + 1) 0 = some (0,184,1,false,bsC s) := fun F => by
   rw [rowLo (by omega)]
   have := put_get_eq (H := H') (b := N + 1) (.cells 0 (Nat.max 0 (boundL (bsC s))) 184 1 false (bsC s)) (by omega)
   rw [hW,bsC_bd] at this
   exact get_row this
  have hWd : W.get (N + 4) = some .dfr := by rw [← hW,put_get_ne _ (by omega) (by omega)];exact hd
  have hkill : ∀ F,killAll [N + 4] (W.plus F) = some ((W.plus F).put (N + 4) .dead) := fun F => by
   unfold killAll
   rw [plus_get _ (by omega),hWd]
   simp only
   rw [if_pos (by rw [plus_lock];omega)]
   unfold killAll;rfl
  have hWk : ∀ F,((W.plus F).put (N + 4) .dead).row (N + 1) 0 = some (0,184,1,false,bsC s) := fun F => by
   have h9 := Heap.row_get (hW2 F)
   exact get_row ((put_get_ne _ (by rw [plus_size];omega) (by omega)).trans h9)
  have hl3 := bsC_len s
  have hfl := bsC_flat s
  have hagg : ∀ k : Nat,partOf Tryz.prog 184 (bsC s) 0 = some (.agg (bsC s)) := fun _ => by
   rw [part_184,hl3,if_pos (by omega),List.drop_zero,List.take_of_length_le (by omega)]
  rw [← plus_nil H']
  simp -implicitDefEqProofs only [go_sem,↓reduceIte,Int.reduceEq,Int.reduceLT,Int.reduceLE,List.reduceReplicate,intA,setT_nil,setT_cons,r3,st2,hW2,hl3,hfl,hagg 0,sizeP hN2,putP0 hN2,putP hN2,settleP0 hN2,settleP hN2,rowP0 hN2,rowP hN2,storeP0 hN2 hlk2,storeP hN2 hlk2,settleP0 hWs,settleP hWs,hkill,hWk,↓boolP_bool,↓iteB_true,↓iteB_false,List.length_nil,List.length_cons,Nat.add_zero]
  rfl
theorem callA_stillV {C : Cfg} {me f : FuncId} {d : Option Tmp} {args : List AV} {X : Heap} {w : AV} (hx : C.ext f = none) (hp : C.pure me f d = true) (hy : args.any isYld = false) (hb : boundL args ≠ 0) (hz : ∀ H,freezeV H 1000000 w = some w)
  (h2 : Fn' C f args { X with lock := X.size } (fun v _ => v = w)) (hh : C.exh f = none := by rfl) : callA C (lim C) me f d args X = some (w,X) := by
 rw [callA_none hx hh];unfold callB callKind
 simp only [hp,if_true]
 unfold Fn' at h2
 rw [bindO_iff] at h2
 obtain ⟨o,h3,h4⟩ := h2
 rw [if_neg (fun h => hb (Nat.eq_of_beq_eq_true h)),hy]
 simp only [Bool.false_eq_true,if_false]
 cases o with
 | ret v H => obtain rfl : v = w := h4;simp only [h3,hz];rfl
 | _ => exact h4.elim
theorem bsC_fz (s : Option Ctx) (H : Heap) : freezeV H 1000000 (.agg (bsC s)) = some (.agg (bsC s)) := by cases s <;> rfl
def bestC (sd : Nat) (l : List Ctx) : Option Ctx := l.foldl (nxC sd) none
theorem innC_sm (ws : Line) (w at_ b : Nat) (hb : b < 2 ^ 30) : ∀ (n a L : Nat),a + n < 2 ^ 30 → ∀ c ∈ innC ws w at_ b n a L,smC c
 | 0,_,_,_,_,hc => by simp [innC] at hc
 | n + 1,a,L,h,c,hc => by
  rw [innC] at hc
  generalize (if a = 0 then L else longN L (ws.getD (at_ + a) emp)) = L' at hc
  split at hc
  ·simp at hc
  ·rcases List.mem_cons.1 hc with rfl | hc
   ·exact ⟨by show b < _;omega,by show a < _;omega⟩
   ·exact innC_sm ws w at_ b hb n (a + 1) L' (by omega) c hc
theorem outC_sm (ws : Line) (w at_ : Nat) (hn : ws.length < 1000) : ∀ (n b g : Nat),b + n < 2 ^ 30 → ∀ c ∈ outC ws w at_ n b g,smC c
 | 0,_,_,_,c,hc => by simp [outC] at hc
 | n + 1,b,g,h,c,hc => by
  rw [outC] at hc
  rcases List.mem_append.1 hc with hc | hc
  ·exact innC_sm ws w at_ b (by omega) _ _ _ (by omega) c hc
  ·exact outC_sm ws w at_ hn n (b + 1) _ (by omega) c hc
theorem idx218_1 : indexA Tryz.prog 218 (.agg [.v .nilFunc,.fn (.func 174) [] [],.fn (.func 175) [] [],.fn (.func 176) [] []]) (.v (.int .u8 1)) = some (.agg [.fn (.func 174) [] []]) := by kernel_rfl
theorem idx218_2 : indexA Tryz.prog 218 (.agg [.v .nilFunc,.fn (.func 174) [] [],.fn (.func 175) [] [],.fn (.func 176) [] []]) (.v (.int .u8 2)) = some (.agg [.fn (.func 175) [] []]) := by kernel_rfl
theorem idx218_3 : indexA Tryz.prog 218 (.agg [.v .nilFunc,.fn (.func 174) [] [],.fn (.func 175) [] [],.fn (.func 176) [] []]) (.v (.int .u8 3)) = some (.agg [.fn (.func 176) [] []]) := by kernel_rfl
theorem idx218 (sd : Nat) (h1 : 1 ≤ sd) (h2 : sd ≤ 3) : indexA Tryz.prog 218 (.agg [.v .nilFunc,.fn (.func 174) [] [],.fn (.func 175) [] [],.fn (.func 176) [] []]) (.v (.int .u8 sd)) = some (.agg [.fn (.func (173 + sd)) [] []]) := by
 obtain h | h | h : sd = 1 ∨ sd = 2 ∨ sd = 3 := by omega
 ·rw [h];exact idx218_1
 ·rw [h];exact idx218_2
 ·rw [h];exact idx218_3
theorem ansS126 {e : Exts} (he : Quiet e) (ws : Line) (hws : ∀ s ∈ ws,s.size < 1000) (hn : ws.length < 1000) (w : Nat) (hw : w < 1000) (sd : Nat) (h1 : 1 ≤ sd) (h2 : sd ≤ 3) (ps : List AV) (at_ : Nat) (hat : at_ < ws.length) : Ans (Cx e) 126 [.agg [intA w,.v (.int .u8 sd),.vs 1 (strs ws) none,.vs 3 ps none],intA at_] (.agg (bsC (bestC sd (ctxs ws w at_)))) := by
 have c151 := fun me d => (ansS151 (e := e)).callI (me := me) (d := d) (ext_151 he) (pure_151 _ _ _) rfl
 have c153 := fun me d H => (ansS153 (e := e) w sd (strs ws) ps at_).call (me := me) (d := d) (ext_153 he) (pure_153 _ _ _) rfl H
 have hyl := yields2_178 he ws hws hn w hw sd (.vs 3 ps none) at_ hat
 have hsm := outC_sm ws w at_ hn (at_ + 1) 0 0 (by omega)
 have c152 := fun (X : Heap) (mq : Nat) (hq : X.get 7 = some (.cells 0 mq 217 1 false [.fn (.func (173 + sd)) [] []])) (hX : 7 < X.size) me d => callA_stillV (C := Cx e) (me := me) (d := d) (f := 152) (X := X) (ext_152 he) (pure_152 _ _ _) (by rfl) (by simp [boundL,bound]) (bsC_fz (bestC sd (ctxs ws w at_))) (fn152 he sd h1 h2 (X := { X with lock := X.size }) (N := X.size) rfl rfl 7 mq hq hX 178 _ _ hsm hyl)
 unfold intA at c153 c152
 unfold Ans
 rw [fn_step (fn_126 e) (show Tryz.f126.body = some _ from rfl)]
 have hix := idx218 sd h1 h2
 generalize bestC sd (ctxs ws w at_) = s at *
 have hl3 := bsC_len s
 have hfl := bsC_flat s
 have hbd := bsC_bd s
 have hagg : partOf Tryz.prog 184 (bsC s) 0 = some (.agg (bsC s)) := by
  rw [part_184,hl3,if_pos (by omega),List.drop_zero,List.take_of_length_le (by omega)]
 simp -implicitDefEqProofs only [Tryz.f126,go_sem,↓reduceIte,Int.reduceEq,Int.reduceLT,Int.reduceLE,List.reduceReplicate,intA,setT_nil,setT_cons,↓boolP_bool,↓iteB_true,↓iteB_false]
 refine wp_drawX [([],[],false),([],[],false),([],[],false),([0],[],false),([],[],false),([0,3],[],false),([],[5],false)] (by kernel_rfl) (by kernel_rfl) ?_
 simp -implicitDefEqProofs only [go_sem,↓reduceIte,Int.reduceEq,Int.reduceLT,Int.reduceLE,List.reduceReplicate,intA,setT_nil,setT_cons,c151,c153,hix,hl3,hfl,hagg,↓boolP_bool,↓iteB_true,↓iteB_false]
 rw [c152 _ 0 rfl (by show 7 < 9;omega)]
 simp -implicitDefEqProofs only [go_sem,↓reduceIte,Int.reduceEq,Int.reduceLT,Int.reduceLE,List.reduceReplicate,intA,setT_nil,setT_cons,hl3,hfl,hagg,↓boolP_bool,↓iteB_true,↓iteB_false]
 exact bsC_fz s _
end Go.Ev
namespace Go.Ev
def idxB (c : Nat) : Int → List UInt8 → Int
 | _,[] => -1
 | i,b :: r => if Nat.beq b.toNat c then i else idxB c (i + 1) r
theorem idxB_eq (c : UInt8) : ∀ (l : List UInt8) (i : Int),idxB c.toNat i l = if Lib.indexByte l c = -1 then -1 else Lib.indexByte l c + i
 | [],i => by simp [idxB,Lib.indexByte]
 | b :: l,i => by
  unfold idxB Lib.indexByte
  by_cases h : b = c
  ·subst h
   have h1 : Nat.beq b.toNat b.toNat = true := Nat.beq_refl _
   simp
  ·have h1 : Nat.beq b.toNat c.toNat = false := by
    cases hb : Nat.beq b.toNat c.toNat
    ·rfl
    ·exact absurd (UInt8.toNat_inj.1 (Nat.eq_of_beq_eq_true hb)) h
   have hge := Lib.indexByte_ge l c
   rw [h1,idxB_eq c l (i + 1)]
   simp only [Bool.false_eq_true,if_false,beq_iff_eq,h]
   by_cases h2 : Lib.indexByte l c = -1
   ·simp [h2]
   ·simp only [h2,if_false]
    rw [if_neg (by omega)];omega
def idxStr : List AV → Option AV
 | [.v (.string s),.v (.int .u8 c)] => if 0 ≤ c ∧ c < 256 then some (.v (.int .i64 (idxB c.toNat 0 s.data.toList))) else none
 | _ => none
theorem ext_idx {P : Program} {f : FuncId} {fn : Func} (hf : P.funcs[f]? = some fn) (hb : fn.body = none) (hn : (fn.name == "runtime.NumGoroutine") = false) (h1 : (Extern.findNext fn).isNone = true) (h2 : Extern.find fn = some Extern.BytealgIndexByte.indexByte)
  {args : List AV} {v : AV} (h : idxStr args = some v) (Z : Fzn) (ρ : Pls) (H : Heap) (w : World) (vals : List Value) (hs : Sim Z ρ H w) (hl : RepL Z ρ args vals) : FnMeets P f vals w (After Z ρ H w v H) := by
 unfold idxStr at h
 split at h
 ·rename_i s c
  split at h
  ·rename_i hc
   obtain ⟨v1,ws,rfl,hv1,hl⟩ := hl.uncons
   obtain ⟨v2,ws,rfl,hv2,hl⟩ := hl.uncons
   have : ws = [] := List.length_eq_zero_iff.1 hl.1.symm
   subst this
   obtain ⟨rfl, -⟩ := hv1.v_inv
   obtain ⟨rfl, -⟩ := hv2.v_inv
   simp only [Option.some.injEq] at h
   subst h
   refine Or.inl ⟨.int .i64 (Lib.indexByte s.data.toList c.toNat.toUInt8),w, ?_,Z,ρ, ?_,hs,Ext.refl _ _ _ _⟩
   ·have hfn : Extern.findNext fn = none := Option.isNone_iff_eq_none.1 h1
    have := Lib.run_indexByteString (P := P) s c w
    have hn' : ¬ fn.name = "runtime.NumGoroutine" := by
     intro e;rw [e] at hn;simp at hn
    simp [callFunc,hf,hn',hb,hfn,h2,this]
   ·have hcn : c.toNat.toUInt8.toNat = c.toNat := by
     have : c.toNat < 256 := by omega
     simp [Nat.toUInt8,Nat.mod_eq_of_lt this]
    have := idxB_eq c.toNat.toUInt8 s.data.toList 0
    rw [hcn] at this
    have e : idxB c.toNat 0 s.data.toList = Lib.indexByte s.data.toList c.toNat.toUInt8 := by
     rw [this];split
     ·rename_i h;exact h.symm
     ·omega
    rw [e];exact .v rfl
  ·cases h
 ·cases h
end Go.Ev
namespace Go.Ev
open Go.Proofs Go.Shelf Go.RowKit
theorem Sim.below {Z : Fzn} {ρ : Pls} {H : Heap} {w w' : World} (hs : Sim Z ρ H w) (hb : Below w.heap.size w w') : Sim Z ρ H w' :=
 ⟨fun b o h hl => let ⟨pl,obj,h1,h2,h3,h4⟩ := hs.objs b o h hl; ⟨pl,obj,h1,(hb.block _ (Array.getElem?_eq_some_iff.1 h2).1).trans h2,h3,h4⟩,hs.inj,
  fun k o hk => (hb.block k (Array.getElem?_eq_some_iff.1 (hs.zok k o hk)).1).trans (hs.zok k o hk),hs.fresh,hs.lk,hs.lg⟩
theorem Ext.below {Z : Fzn} {ρ : Pls} {H : Heap} {w w' : World} (hb : Below w.heap.size w w') : Ext Z ρ H w Z ρ H w' :=
 ⟨.refl _,.refl _,fun k hk _ => hb.block k hk,fun _ _ h => h,hb.size,hb.os,hb.output,hb.tape,(fun s => nomatch (show true = false from s)),fun _ ha _ => hb.frozen ha,rfl,fun _ _ => rfl,Nat.le_refl _,fun _ _ _ => rfl,fun _ _ _ => rfl,fun _ _ h _ => ⟨h,fun _ => rfl⟩⟩
def strsOf : List AV → Option (List ByteArray)
 | [] => some []
 | .v (.string s) :: r => match strsOf r with | some l => some (s :: l) | none => none
 | _ => none
def joinStr : List AV → Option AV
 | [.v (.slice none 0 0),.v (.string _)] => some (.v (.string ⟨#[]⟩))
 | [.vs _ xs _,.v (.string sep)] =>
  match strsOf xs with
  | some l => if l.length ≤ 100000 ∧ (Lib.join (l.map (·.data.toList)) sep.data.toList).length ≤ 100000 then some (.v (.string ⟨(Lib.join (l.map (·.data.toList)) sep.data.toList).toArray⟩)) else none
  | none => none
 | _ => none
theorem strsOf_some : ∀ {xs : List AV} {l : List ByteArray},strsOf xs = some l → xs = l.map fun s => .v (.string s)
 | [],l,h => by simp [strsOf] at h;subst h;rfl
 | x :: r,l,h => by
  unfold strsOf at h
  split at h
  ·rename_i h';cases h'
  ·rename_i s r' h'
   simp only [List.cons.injEq] at h'
   obtain ⟨rfl,rfl⟩ := h'
   split at h
   ·rename_i l' hl
    simp only [Option.some.injEq] at h
    subst h
    rw [strsOf_some hl];rfl
   ·cases h
  ·cases h
theorem flat_strs : ∀ l : List ByteArray,(l.map fun s => AV.v (.string s)).flatMap AV.cells = l.map fun s => AV.v (.string s)
 | [] => rfl
 | a :: r => by simp only [List.map_cons,List.flatMap_cons,flat_strs r];rfl
theorem ext_join {P : Program} {ρn : Ren} (L : Lays.n156 P ρn) (X : Builder.Extra P ρn) {f : FuncId} (hf : ρn.f 156 = f) (hbody : HasBody P f)
  {args : List AV} {v : AV} (h : joinStr args = some v) (Z : Fzn) (ρ : Pls) (H : Heap) (w : World) (vals : List Value) (hs : Sim Z ρ H w) (hl : RepL Z ρ args vals) : FnMeets P f vals w (After Z ρ H w v H) := by
 subst hf
 unfold joinStr at h
 split at h
 ·rename_i sep
  obtain ⟨v1,ws,rfl,hv1,hl⟩ := hl.uncons
  obtain ⟨v2,ws,rfl,hv2,hl⟩ := hl.uncons
  have : ws = [] := List.length_eq_zero_iff.1 hl.1.symm
  subst this
  obtain ⟨rfl, -⟩ := hv1.v_inv
  obtain ⟨rfl, -⟩ := hv2.v_inv
  simp only [Option.some.injEq] at h
  subst h
  refine Or.inr ⟨hbody.run _ _,Calls.mono' (Any.strings_Join_none L X none 0 sep w) ?_⟩
  rintro e w' ⟨rfl,rfl⟩
  exact ⟨_,rfl,Z,ρ,.v rfl,hs,Ext.refl _ _ _ _⟩
 ·rename_i sz xs cap sep
  obtain ⟨v1,ws,rfl,hv1,hl⟩ := hl.uncons
  obtain ⟨v2,ws,rfl,hv2,hl⟩ := hl.uncons
  have : ws = [] := List.length_eq_zero_iff.1 hl.1.symm
  subst this
  obtain ⟨rfl, -⟩ := hv2.v_inv
  split at h
  ·rename_i l hstr
   split at h
   ·rename_i hc
    simp only [Option.some.injEq] at h
    subst h
    have hxs := strsOf_some hstr
    refine Or.inr ⟨hbody.run _ _, ?_⟩
    cases hv1 with
    | vs hz ha hsz hl' hh hcap hle =>
     rename_i c blk arr e fz pre vs post
     have hblk := (Array.getElem?_eq_some_iff.1 (hs.zok _ _ hz)).1
     have hlen : xs.length = l.length := by rw [hxs,List.length_map]
     have hcells : (xs.flatMap AV.cells) = l.map fun s => AV.v (.string s) := by
      rw [hxs]
      exact flat_strs l
     have hget : ∀ (j : Nat) (x : ByteArray),l[j]? = some x → w.cell? ⟨blk,pre.length + j,none⟩ = some (.string x) := by
      intro j x hj
      have h1 : (xs.flatMap AV.cells)[j]? = some (.v (.string x)) := by rw [hcells,List.getElem?_map,hj];rfl
      have hlt : j < vs.length := by rw [← hl'];exact (List.getElem?_eq_some_iff.1 h1).1
      have h2 : vs[j]? = some vs[j] := List.getElem?_eq_getElem hlt
      have h3 := (hh j _ _ h1 h2).v_inv.1
      rw [cell_at (hs.zok _ _ hz) ha h2,h3]
     have hcall := Any.strings_Join L X blk pre.length c l sep w hget hblk (by have := hc.1;omega) (by omega) (by have := hc.2;omega)
     rw [← hlen] at hcall
     refine Calls.mono' hcall ?_
     rintro e w' ⟨rfl,hb⟩
     exact ⟨_,rfl,Z,ρ,.v rfl,hs.below hb,Ext.below hb⟩
    | vs0 hcap =>
     have hl0 : l = [] := by
      cases l with
      | nil => rfl
      | cons a r => simp at hxs
     subst hl0
     refine Calls.mono' (Any.strings_Join_none L X _ _ sep w) ?_
     rintro e w' ⟨rfl,rfl⟩
     exact ⟨_,rfl,Z,ρ,.v rfl,hs,Ext.refl _ _ _ _⟩
   ·cases h
  ·cases h
 ·cases h
end Go.Ev
namespace Go.Ev
open Go.Proofs
attribute [local irreducible] Wp WpS
theorem pls_len (Z : List (Plc × ByteArray)) : (pls Z).length = Z.length := by unfold pls;rw [List.length_map]
theorem pls_get {Z : List (Plc × ByteArray)} {i : Nat} {x : Plc × ByteArray} (h : Z[i]? = some x) : (pls Z)[i]? = some (plN x.1) := by unfold pls;rw [List.getElem?_map,h];rfl
theorem pls_sl (Z : List (Plc × ByteArray)) : SlOf 3 (pls Z) (.vs 3 (pls Z) none) := Or.inr ⟨none,rfl⟩
theorem ansS102 {e : Exts} (_he : Quiet e) (Z : List (Plc × ByteArray)) (hn : Z.length < 100000) (i : Nat) (x : Plc × ByteArray) (hx : Z[i]? = some x) (hlo : ∀ j y,j < i → Z[j]? = some y → y.1 ≠ x.1) : Ans (Cx e) 102 [.vs 3 (pls Z) none,plN x.1] (intA i) := by
 unfold Ans plN
 rw [fn_step (fn_102 e) (show Tryz.f102.body = some _ from rfl)]
 have hll := pls_len Z
 have hsl := (pls_sl Z).len
 have hil := (List.getElem?_eq_some_iff.1 hx).1
 simp -implicitDefEqProofs only [Tryz.f102,go_sem,↓reduceIte,Int.reduceEq,Int.reduceLT,Int.reduceLE,List.reduceReplicate,intA,setT_nil,setT_cons,hsl,hll,↓boolP_bool,↓iteB_true,↓iteB_false]
 refine Lp_ruleQ (P := fun μ a H => ∃ j,j + μ = Z.length ∧ j ≤ i ∧ a = ⟨19,[(0,.vs 3 (pls Z) none),(1,.agg [intA x.1.1,intA x.1.2.1,intA x.1.2.2]),(3,.ptr 0 0 0),(4,intA 0),(7,intA Z.length),(8,intA j)],[]⟩ ∧ H = ⟨[some (.cells 0 0 28 1 false [intA x.1.1,intA x.1.2.1,intA x.1.2.2])],0⟩) ?_ Z.length _ _ ⟨0,by omega,by omega,rfl,rfl⟩
 rintro Q KK hQ hKK μ _ _ ⟨j,hj,hji,rfl,rfl⟩
 cases μ with
 | zero => omega
 | succ μ =>
  obtain ⟨y,hy⟩ : ∃ y,Z[j]? = some y := ⟨Z[j]'(by omega),List.getElem?_eq_getElem _⟩
  have hlt : (j : Int) < ((Z.length : Nat) : Int) := by omega
  have hw := wrap_succ j (by omega)
  have hix := (pls_sl Z).idx (pls_get hy)
  unfold plN at hix
  simp -implicitDefEqProofs only [go_sem,↓reduceIte,Int.reduceEq,Int.reduceLT,Int.reduceLE,List.reduceReplicate,intA,setT_nil,setT_cons,hlt,↓boolP_bool,↓iteB_true,↓iteB_false]
  refine wp_drawX [([],[],false),([],[],false),([],[],false),([],[],false),([0],[],false),([],[],false)] (by kernel_rfl) (by kernel_rfl) ?_
  cases he : eqP x.1.1 x.1.2.1 x.1.2.2 y.1.1 y.1.2.1 y.1.2.2 with
  | true =>
   have hji2 : j = i := by
    rcases Nat.lt_or_ge j i with h | h
    ·refine absurd ?_ (hlo j y h hy)
     unfold eqP at he
     simp only [Bool.and_eq_true,decide_eq_true_eq] at he
     refine Prod.ext ?_ (Prod.ext ?_ ?_) <;> omega
    ·omega
   subst hji2
   simp -implicitDefEqProofs only [go_sem,↓reduceIte,Int.reduceEq,Int.reduceLT,Int.reduceLE,List.reduceReplicate,intA,setT_nil,setT_cons,hix,eq32,he,↓boolP_bool,↓iteB_true,↓iteB_false]
   refine hKK _ _ _ ?_
   simp -implicitDefEqProofs only [go_sem,↓reduceIte,Int.reduceEq,Int.reduceLT,Int.reduceLE,List.reduceReplicate,intA,setT_nil,setT_cons,↓boolP_bool,↓iteB_true,↓iteB_false]
  | false =>
   have hne : j ≠ i := by
    rintro rfl
    rw [hx] at hy
    cases hy
    unfold eqP at he;simp at he
   simp -implicitDefEqProofs only [go_sem,↓reduceIte,Int.reduceEq,Int.reduceLT,Int.reduceLE,List.reduceReplicate,intA,setT_nil,setT_cons,hix,eq32,he,hw,↓boolP_bool,↓iteB_true,↓iteB_false]
   exact Again.mk' μ (by omega) (hQ _ _ _ ⟨j + 1,by omega,by omega,rfl,rfl⟩)
def spc : ByteArray := ⟨#[32]⟩
def joinB (l : Line) : ByteArray := ⟨(Lib.join (l.map (·.data.toList)) [32]).toArray⟩
theorem strsOf_strs : ∀ l : Line,strsOf (strs l) = some l
 | [] => rfl
 | s :: r => by
  show (match strsOf (strs r) with | some l => some (s :: l) | none => none) = _
  rw [strsOf_strs r]
end Go.Ev
namespace Go.Ev
open Go.Proofs
attribute [local irreducible] Wp WpS
theorem innC_mem (ws : Line) (w at_ b : Nat) : ∀ (n a L : Nat) (c : Ctx),c ∈ innC ws w at_ b n a L → c.1 = b ∧ a ≤ c.2.1 ∧ c.2.1 < a + n ∧ c.2.2 ≤ w
 | 0,_,_,_,h => by simp [innC] at h
 | n + 1,a,L,c,h => by
  rw [innC] at h
  generalize (if a = 0 then L else longN L (ws.getD (at_ + a) emp)) = L' at h
  split at h
  ·simp at h
  ·rcases List.mem_cons.1 h with rfl | h
   ·exact ⟨rfl,Nat.le_refl _,by show a < _;omega,by show L' ≤ w;omega⟩
   ·have := innC_mem ws w at_ b n (a + 1) L' c h
    omega
theorem outC_mem (ws : Line) (w at_ : Nat) : ∀ (n b g : Nat) (c : Ctx),c ∈ outC ws w at_ n b g → b ≤ c.1 ∧ c.1 < b + n ∧ c.2.1 < ws.length - at_ ∧ c.2.2 ≤ w
 | 0,_,_,_,h => by simp [outC] at h
 | n + 1,b,g,c,h => by
  rw [outC] at h
  rcases List.mem_append.1 h with h | h
  ·have := innC_mem ws w at_ b _ _ _ c h
   omega
  ·have := outC_mem ws w at_ n (b + 1) _ c h
   omega
theorem ctxs_mem {ws : Line} {w at_ : Nat} {c : Ctx} (h : c ∈ ctxs ws w at_) : c.1 ≤ at_ ∧ c.2.1 < ws.length - at_ ∧ c.2.2 ≤ w := by
 have := outC_mem ws w at_ (at_ + 1) 0 0 c h
 omega
theorem fold_mem (sd : Nat) : ∀ (l : List Ctx) (s : Option Ctx) (c : Ctx),l.foldl (nxC sd) s = some c → c ∈ l ∨ s = some c
 | [],s,c,h => Or.inr h
 | d :: r,s,c,h => by
  rcases fold_mem sd r (nxC sd s d) c h with h1 | h1
  ·exact Or.inl (List.mem_cons_of_mem _ h1)
  ·unfold nxC at h1
   cases s with
   | none => simp at h1;subst h1;exact Or.inl (List.mem_cons_self ..)
   | some y =>
    simp only at h1
    split at h1
    ·simp at h1;subst h1;exact Or.inl (List.mem_cons_self ..)
    ·exact Or.inr h1
theorem fold_some (sd : Nat) : ∀ (l : List Ctx) (y : Ctx),∃ c,l.foldl (nxC sd) (some y) = some c
 | [],y => ⟨y,rfl⟩
 | d :: r,y => by
  show ∃ c,r.foldl (nxC sd) (nxC sd (some y) d) = some c
  unfold nxC
  simp only
  split
  ·exact fold_some sd r d
  ·exact fold_some sd r y
theorem best_some (sd : Nat) {l : List Ctx} (h : l ≠ []) : ∃ c,bestC sd l = some c ∧ c ∈ l := by
 cases l with
 | nil => exact absurd rfl h
 | cons d r =>
  obtain ⟨c,hc⟩ := fold_some sd r d
  have hb : bestC sd (d :: r) = some c := hc
  refine ⟨c,hb, ?_⟩
  rcases fold_mem sd _ none c hb with h | h
  ·exact h
  ·cases h
theorem ctxs_ne {ws : Line} {w at_ : Nat} (hat : at_ < ws.length) {s : ByteArray} (hs : ws[at_]? = some s) (hw : s.size ≤ w) : ctxs ws w at_ ≠ [] := by
 unfold ctxs
 rw [outC]
 have hd : ws.getD (at_ - 0) emp = s := by rw [Nat.sub_zero,List.getD_eq_getElem?_getD,hs];rfl
 rw [hd]
 obtain ⟨n,hn⟩ : ∃ n,ws.length - at_ = n + 1 := ⟨ws.length - at_ - 1,by omega⟩
 rw [hn,innC]
 have hl : longN 0 s = s.size := by unfold longN;simp
 rw [if_pos rfl,hl,if_neg (by omega)]
 simp
theorem join_len (sep : List UInt8) : ∀ l : List (List UInt8),(∀ x ∈ l,x.length ≤ 12) → sep.length = 1 → (Lib.join l sep).length ≤ l.length * 13
 | [],_,_ => by simp [Lib.join]
 | [x],h,_ => by
  have := h x (by simp)
  simp [Lib.join];omega
 | x :: y :: r,h,hs => by
  have h1 := h x (by simp)
  have ih := join_len sep (y :: r) (fun z hz => h z (List.mem_cons_of_mem _ hz)) hs
  have : (Lib.join (x :: y :: r) sep).length = x.length + (sep.length + (Lib.join (y :: r) sep).length) := by
   unfold Lib.join
   simp [List.intercalate,List.intersperse]
  rw [this,hs,List.length_cons]
  omega
end Go.Ev
namespace Go.Ev
open Go.Proofs
attribute [local irreducible] Wp WpS
theorem slice_mid {P : Program} {t et sz : Nat} (hu : P.underlying t = some (.slice et)) (hs : sizeT P et = some sz) (xs : List AV) (cap : Option Nat) (i j : Nat) (hij : i ≤ j) (hj : j ≤ xs.length) : ∃ cap',sliceI P t (.vs sz xs cap) (some (.v (.int .i64 i))) (some (.v (.int .i64 j))) none = some (.vs sz ((xs.take j).drop i) cap') := by
 have h1 : (0 : Int) ≤ (j : Int) ∧ (j : Int) ≤ (xs.length : Int) := by omega
 have h2 : (0 : Int) ≤ (i : Int) ∧ (i : Int) ≤ (j : Int) := by omega
 refine ⟨capOf none xs.length i cap, ?_⟩
 unfold sliceI sliceA
 simp [hu,hs,boundA,h1,h2]
theorem strs_mid (l : Line) (i j : Nat) : ((strs l).take j).drop i = strs ((l.take j).drop i) := by unfold strs;rw [List.map_take.symm,List.map_drop.symm]
def befB (ws : Line) (at_ : Nat) (c : Ctx) : ByteArray := joinB ((ws.take at_).drop (at_ - c.1))
def aftB (ws : Line) (at_ : Nat) (c : Ctx) : ByteArray := joinB ((ws.take (at_ + 1 + c.2.1)).drop (at_ + 1))
def slipV (ws : Line) (x : Plc × ByteArray) (at_ : Nat) (c : Ctx) : AV := .agg [intA x.1.1,intA x.1.2.1,intA x.1.2.2,.v (.string x.2),.v (.string (befB ws at_ c)),.v (.string (aftB ws at_ c))]
theorem callI127 {e : Exts} (hj : e.x 127 = some joinStr) (l : Line) (cap : Option Nat) (hl : l.length ≤ 200) (hs : ∀ s ∈ l,s.size ≤ 12) (me : FuncId) (d : Option Tmp) : callI (Cx e) me 127 d [.vs 1 (strs l) cap,.v (.string spc)] = some (.v (.string (joinB l))) := by
 refine ext_callI (show (Cx e).ext 127 = some joinStr from hj) ?_
 show (match strsOf (strs l) with | some l => _ | none => none) = _
 rw [strsOf_strs l]
 have h1 := join_len [32] (l.map (·.data.toList)) (fun x hx => by
  obtain ⟨s,h1,rfl⟩ := List.mem_map.1 hx
  have := hs s h1
  simpa using this) rfl
 rw [List.length_map] at h1
 exact if_pos ⟨by omega,by show (Lib.join (l.map (·.data.toList)) [32]).length ≤ _;omega⟩
theorem ansS101 {e : Exts} (he : Quiet e) (hj : e.x 127 = some joinStr) (Z : List (Plc × ByteArray)) (hn : Z.length ≤ 200) (hws : ∀ x ∈ Z,x.2.size ≤ 12) (w : Nat) (hw : w < 1000) (sd : Nat) (h1 : 1 ≤ sd) (h2 : sd ≤ 3) (at_ : Nat) (x : Plc × ByteArray) (hx : Z[at_]? = some x) (c : Ctx) (hb : bestC sd (ctxs (Z.map (·.2)) w at_) = some c) (hc1 : c.1 ≤ at_) (hc2 : c.2.1 < Z.length - at_) :
  Ans (Cx e) 101 [.agg [intA w,.v (.int .u8 sd),.vs 1 (wds Z) none,.vs 3 (pls Z) none],intA at_] (slipV (Z.map (·.2)) x at_ c) := by
 have hil := (List.getElem?_eq_some_iff.1 hx).1
 have hwl : (Z.map (·.2)).length = Z.length := List.length_map ..
 have hwx : (Z.map (·.2))[at_]? = some x.2 := by rw [List.getElem?_map,hx];rfl
 have hws2 : ∀ s ∈ Z.map (·.2),s.size ≤ 12 := fun s hs => by obtain ⟨y,h3,rfl⟩ := List.mem_map.1 hs;exact hws y h3
 have c126 := fun me d H => (ansS126 he (Z.map (·.2)) (fun s hs => by have := hws2 s hs;omega) (by omega) w hw sd h1 h2 (pls Z) at_ (by omega)).call (me := me) (d := d) (ext_126 he) (pure_126 _ _ _) rfl H
 rw [hb] at c126
 have hix := (show SlOf 1 (strs (Z.map (·.2))) (.vs 1 (strs (Z.map (·.2))) none) from Or.inr ⟨none,rfl⟩).idx (strs_get hwx)
 have hip := (pls_sl Z).idx (pls_get hx)
 have hu87 : Tryz.prog.underlying 87 = some (.slice 9) := by kernel_rfl
 have hs9 : sizeT Tryz.prog 9 = some 1 := by kernel_rfl
 obtain ⟨k1,hm1⟩ := slice_mid hu87 hs9 (strs (Z.map (·.2))) none (at_ - c.1) at_ (by omega) (by rw [strs_len];omega)
 obtain ⟨k2,hm2⟩ := slice_mid hu87 hs9 (strs (Z.map (·.2))) none (at_ + 1) (at_ + 1 + c.2.1) (by omega) (by rw [strs_len];omega)
 rw [strs_mid] at hm1 hm2
 have hsub : ∀ i j,∀ s ∈ ((Z.map (·.2)).take j).drop i,s.size ≤ 12 := fun i j s hs => hws2 s (List.mem_of_mem_take (List.mem_of_mem_drop hs))
 have hj1 := callI127 hj (((Z.map (·.2)).take at_).drop (at_ - c.1)) k1 (by simp;omega) (hsub _ _)
 have hj2 := callI127 hj (((Z.map (·.2)).take (at_ + 1 + c.2.1)).drop (at_ + 1)) k2 (by simp;omega) (hsub _ _)
 have hq1 : IntKind.i64.wrap ((at_ : Int) - (c.1 : Int)) = ((at_ - c.1 : Nat) : Int) := by rw [← Int.ofNat_sub hc1];exact wrap_nat _ (by omega)
 have hq2 := wrap_succ at_ (by omega)
 have hq3 : IntKind.i64.wrap (((at_ + 1 : Nat) : Int) + (c.2.1 : Int)) = ((at_ + 1 + c.2.1 : Nat) : Int) := by rw [← Int.natCast_add];exact wrap_nat _ (by omega)
 unfold slipV befB aftB
 unfold spc at hj1 hj2
 unfold wds
 generalize Z.map (·.2) = ws at *
 unfold plN at hip
 simp only [bsC,intA] at c126
 unfold Ans
 rw [fn_step (fn_101 e) (show Tryz.f101.body = some _ from rfl)]
 simp -implicitDefEqProofs only [Tryz.f101,go_sem,↓reduceIte,Int.reduceEq,Int.reduceLT,Int.reduceLE,List.reduceReplicate,intA,setT_nil,setT_cons,c126,↓boolP_bool,↓iteB_true,↓iteB_false]
 refine wp_drawX [([],[],false),([],[],false),([],[],false),([],[],false),([],[],false),([],[],false),([1,4],[],false),([],[],false),([],[],false),([1,4],[],false),([],[],false),([1,4,6,9],[],false),([],[],false),([],[],false),([1,4,6,9,11],[],false),([],[],false),([],[],false),([1,4,6,9],[],false),([1,4,6,9],[],false),([],[],false),([1,4,6,9,11,14,17,18],[],false),([],[],false),([],[],false),([],[],false),([],[],false),([],[],false),([1,4,6,9,11,14,17,18,20],[],false),([],[],false),([1,4,6,9,11,14,17,18],[],false),([1,4,6,9],[],false),([],[],false),([],[],false)] (by kernel_rfl) (by kernel_rfl) ?_
 simp -implicitDefEqProofs only [go_sem,↓reduceIte,Int.reduceEq,Int.reduceLT,Int.reduceLE,List.reduceReplicate,intA,setT_nil,setT_cons,hix,hip,hm1,hm2,hq1,hq2,hq3,hj1,hj2,↓boolP_bool,↓iteB_true,↓iteB_false]
 rfl
end Go.Ev
namespace Go.Ev
open Go.Proofs
attribute [local irreducible] Wp WpS
theorem ansS114 {e : Exts} (lo hi n : Int) (h1 : lo ≤ n) (h2 : n ≤ hi) (cap : Option Nat) : Ans (Cx e) 114 [.agg [intA lo,intA hi],.vs 1 [intA n] cap] (.v (.bool true)) := by
 unfold Ans
 rw [fn_step (fn_114 e) (show Tryz.f114.body = some _ from rfl)]
 have hsl : SlOf 1 [intA n] (.vs 1 [intA n] cap) := Or.inr ⟨cap,rfl⟩
 have hlen := hsl.len
 simp -implicitDefEqProofs only [Tryz.f114,go_sem,↓reduceIte,Int.reduceEq,Int.reduceLT,Int.reduceLE,List.reduceReplicate,intA,setT_nil,setT_cons,hlen,↓boolP_bool,↓iteB_true,↓iteB_false]
 refine Lp_ruleQ (P := fun μ a H => ∃ j,j + μ = 1 ∧ a = ⟨24,[(0,.agg [intA lo,intA hi]),(1,.vs 1 [intA n] cap),(2,.ptr 0 0 0),(4,.v (.bool false)),(7,.vs 1 [intA n] cap),(8,intA 1),(9,intA (j : Nat))],[]⟩ ∧ H = ⟨[some (.cells 0 0 170 1 false [intA lo,intA hi])],0⟩) ?_ 1 _ _ ⟨0,by omega,rfl,rfl⟩
 rintro Q KK hQ hKK μ _ _ ⟨j,hj,rfl,rfl⟩
 cases μ with
 | zero =>
  obtain rfl : j = 1 := by omega
  have hlt : ¬ ((1 : Nat) : Int) < 1 := by omega
  simp -implicitDefEqProofs only [go_sem,↓reduceIte,Int.reduceEq,Int.reduceLT,Int.reduceLE,List.reduceReplicate,intA,setT_nil,setT_cons,hlt,↓boolP_bool,↓iteB_true,↓iteB_false]
  refine hKK _ _ _ ?_
  simp -implicitDefEqProofs only [go_sem,↓reduceIte,Int.reduceEq,Int.reduceLT,Int.reduceLE,List.reduceReplicate,intA,setT_nil,setT_cons,↓boolP_bool,↓iteB_true,↓iteB_false]
 | succ μ =>
  obtain rfl : j = 0 := by omega
  have hlt : ((0 : Nat) : Int) < 1 := by omega
  have hix := hsl.idx (show ([intA n] : List AV)[0]? = some (intA n) from rfl)
  have hw := wrap_succ 0 (by omega)
  have hn1 : ¬ n < lo := by omega
  have hn2 : ¬ n > hi := by omega
  simp only [intA] at hix
  simp -implicitDefEqProofs only [go_sem,↓reduceIte,Int.reduceEq,Int.reduceLT,Int.reduceLE,List.reduceReplicate,intA,setT_nil,setT_cons,hlt,hix,hw,hn1,hn2,decide_false,↓boolP_bool,↓iteB_true,↓iteB_false]
  exact Again.mk' μ (by omega) (hQ _ _ _ ⟨0 + 1,by omega,rfl,rfl⟩)
theorem ansS68 {e : Exts} (he : Quiet e) (t : Txt) (ht : Fits t) (ch : AV) (xs : List AV) (hch : SlOf 2 xs ch) (hall : All2 ChapA t xs) (hT : textB t = true) : Ans (Cx e) 68 [.agg [ch]] (intA 0) := by
 have h40 := call40 he t ht ch ⟨xs,hch,hall⟩
 rw [hT] at h40
 unfold Ans
 rw [fn_step (fn_68 e) (show Tryz.f68.body = some _ from rfl)]
 simp -implicitDefEqProofs only [Tryz.f68,go_sem,↓reduceIte,Int.reduceEq,Int.reduceLT,Int.reduceLE,List.reduceReplicate,intA,setT_nil,setT_cons,hch.cells,hch.flat,hch.bound,h40,if_true,↓boolP_bool,↓iteB_true,↓iteB_false]
theorem ansS83 {e : Exts} (he : Quiet e) (w : Int) (sd : Int) (h1 : 12 ≤ w) (h2 : w ≤ 80) (h3 : 1 ≤ sd) (h4 : sd ≤ 3) : Ans (Cx e) 83 [.agg [intA w,.v (.int .u8 sd)]] (.v (.bool true)) := by
 have cw := fun cap me d H => (ansS114 (e := e) 12 80 w h1 h2 cap).call (me := me) (d := d) (ext_114 he) (pure_114 _ _ _) rfl H
 have cs := fun cap me d H => (ansS114 (e := e) 1 3 sd h3 h4 cap).call (me := me) (d := d) (ext_114 he) (pure_114 _ _ _) rfl H
 unfold intA at cw cs
 unfold Ans
 rw [fn_step (fn_83 e) (show Tryz.f83.body = some _ from rfl)]
 have hcv := conv_u8 sd (by omega) (by omega)
 simp -implicitDefEqProofs only [Tryz.f83,go_sem,↓reduceIte,Int.reduceEq,Int.reduceLT,Int.reduceLE,List.reduceReplicate,intA,setT_nil,setT_cons,cw,cs,hcv,↓boolP_bool,↓iteB_true,↓iteB_false]
theorem ansS41 {e : Exts} (he : Quiet e) (w : Int) (sd : Int) (h1 : 12 ≤ w) (h2 : w ≤ 80) (h3 : 1 ≤ sd) (h4 : sd ≤ 3) : Ans (Cx e) 41 [.agg [intA w,.v (.int .u8 sd)]] (intA 0) := by
 have c83 := fun me d H => (ansS83 he w sd h1 h2 h3 h4).call (me := me) (d := d) (ext_83 he) (pure_83 _ _ _) rfl H
 unfold intA at c83
 unfold Ans
 rw [fn_step (fn_41 e) (show Tryz.f41.body = some _ from rfl)]
 simp -implicitDefEqProofs only [Tryz.f41,go_sem,↓reduceIte,Int.reduceEq,Int.reduceLT,Int.reduceLE,List.reduceReplicate,intA,setT_nil,setT_cons,c83,Bool.not_true,↓boolP_bool,↓iteB_true,↓iteB_false]
theorem ansS63 {e : Exts} (he : Quiet e) (t : Txt) (ht : Fits t) (ch : AV) (xs : List AV) (hch : SlOf 2 xs ch) (hall : All2 ChapA t xs) (hT : textB t = true) (w : Int) (sd : Int) (h1 : 12 ≤ w) (h2 : w ≤ 80) (h3 : 1 ≤ sd) (h4 : sd ≤ 3) : Ans (Cx e) 63 [.agg [ch],.agg [intA w,.v (.int .u8 sd)]] (intA 0) := by
 have c68 := fun me d H => (ansS68 he t ht ch xs hch hall hT).call (me := me) (d := d) (ext_68 he) (pure_68 _ _ _) (by simp only [boundL_cons,bound_agg,hch.bound,boundL_nil];rfl) H
 have c41 := fun me d H => (ansS41 he w sd h1 h2 h3 h4).call (me := me) (d := d) (ext_41 he) (pure_41 _ _ _) rfl H
 unfold intA at c68 c41
 unfold Ans
 rw [fn_step (fn_63 e) (show Tryz.f63.body = some _ from rfl)]
 simp -implicitDefEqProofs only [Tryz.f63,go_sem,↓reduceIte,Int.reduceEq,Int.reduceLT,Int.reduceLE,List.reduceReplicate,intA,setT_nil,setT_cons,hch.cells,hch.flat,hch.bound,c68,c41,↓boolP_bool,↓iteB_true,↓iteB_false]
end Go.Ev
namespace Go.Ev
open Go.Proofs
attribute [local irreducible] Wp WpS
end Go.Ev
namespace Go.Ev
open Go.Proofs
attribute [local irreducible] Wp WpS
end Go.Ev
namespace Go.Ev
open Go.Proofs
theorem okFrom_iff (t : Txt) : ∀ (l : Txt) (j : Nat),okFrom t j l = true ↔ ∀ (i : Nat) (c : Chap),l[i]? = some c → condC t (j + i) c = true
 | [],j => by simp [okFrom]
 | x :: l,j => by
  unfold okFrom
  rw [Bool.and_eq_true,okFrom_iff t l (j + 1)]
  constructor
  ·rintro ⟨h1,h2⟩ i c hc
   cases i with
   | zero => simp at hc;subst hc;exact h1
   | succ i => rw [show j + (i + 1) = j + 1 + i by omega];exact h2 i c (by simpa using hc)
  ·intro h
   exact ⟨h 0 x rfl,fun i c hc => by rw [show j + 1 + i = j + (i + 1) by omega];exact h (i + 1) c (by simpa using hc)⟩
theorem idB_map (t : Txt) (id : Int) (n : Nat) : idB t id 0 n = ((t.map (·.1)).take n).any fun x => decide (x = id) := by
 unfold idB
 rw [List.drop_zero,← List.map_take,List.any_map];rfl
theorem readT_ids (t : Txt) (rs : List Rd) : (readT t rs).map (·.1) = t.map (·.1) := by
 apply List.ext_getElem?
 intro i
 unfold readT
 rw [List.getElem?_map,List.getElem?_map,List.getElem?_mapIdx]
 cases t[i]? <;> simp
theorem Right.text {t : Txt} {id : Int} {rs : List Rd} (h : Right t id rs) (ht : textB t = true) : textB (readT t rs) = true := by
 have hs := small_of ht
 have hs2 := h.small hs
 unfold textB at ht ⊢
 rw [Bool.and_eq_true] at ht ⊢
 have hl : (readT t rs).length = t.length := by unfold readT;rw [List.length_mapIdx]
 refine ⟨by rw [hl];exact ht.1,(okFrom_iff _ _ _).2 fun i c hc => ?_⟩
 have hil : i < t.length := by rw [← hl];exact (List.getElem?_eq_some_iff.1 hc).1
 obtain ⟨c0,hc0⟩ := at_lt t i hil
 have h0 := (okFrom_iff t t 0).1 ht.2 i c0 hc0
 have hcm := List.mem_of_getElem? hc
 rw [readT_get hc0] at hc
 have hid : c.1 = c0.1 := by cases hc;rfl
 have hlen : c.2.length = c0.2.length := by cases hc;simp
 unfold condC at h0 ⊢
 simp only [Bool.and_eq_true] at h0 ⊢
 obtain ⟨⟨⟨e1,e2⟩,e3⟩,e4⟩ := h0
 rw [Nat.zero_add] at e3 ⊢
 refine ⟨⟨⟨by rw [hid];exact e1,by rw [hlen];exact e2⟩,by rw [hid,idB_map,readT_ids,← idB_map];exact e3⟩,List.all_eq_true.2 fun l hl => ?_⟩
 unfold lineB
 have hw := hs2.words c hcm l hl
 rw [Bool.and_eq_true]
 refine ⟨?_,List.all_eq_true.2 fun s hm => hs2.word c hcm l hl s hm⟩
 unfold withinB
 simp only [List.all_cons,List.all_nil,Bool.and_true,Bool.and_eq_true,decide_eq_true_eq];omega
end Go.Ev
namespace Go.Ev
theorem wordsL_in (i j : Nat) : ∀ (l : Line) (k c : Nat) (s : ByteArray),l[c]? = some s → ((i,j,k + c),s) ∈ wordsL i j k l
 | [],_,c,s,h => by simp at h
 | a :: r,k,0,s,h => by simp at h;subst h;simp [wordsL]
 | a :: r,k,c + 1,s,h => by
  have := wordsL_in i j r (k + 1) c s (by simpa using h)
  rw [show k + 1 + c = k + (c + 1) by omega] at this
  exact List.mem_cons_of_mem _ this
theorem wordsC_in (i : Nat) : ∀ (ls : List Line) (j b c : Nat) (l : Line) (s : ByteArray),ls[b]? = some l → l[c]? = some s → ((i,j + b,c),s) ∈ wordsC i j ls
 | [],_,b,c,l,s,h,_ => by simp at h
 | a :: r,j,0,c,l,s,h,h2 => by
  simp at h;subst h
  have := wordsL_in i j a 0 c s h2
  rw [Nat.zero_add] at this
  exact List.mem_append_left _ this
 | a :: r,j,b + 1,c,l,s,h,h2 => by
  have := wordsC_in i r (j + 1) b c l s (by simpa using h) h2
  rw [show j + 1 + b = j + (b + 1) by omega] at this
  exact List.mem_append_right _ this
theorem wordsL_sub (i j : Nat) : ∀ (l : Line) (k : Nat) (x : Plc × ByteArray),x ∈ wordsL i j k l → x.1.1 = i ∧ x.1.2.1 = j ∧ k ≤ x.1.2.2 ∧ l[x.1.2.2 - k]? = some x.2
 | [],_,x,h => by simp [wordsL] at h
 | a :: r,k,x,h => by
  rcases List.mem_cons.1 h with rfl | h
  ·exact ⟨rfl,rfl,Nat.le_refl _,by simp⟩
  ·obtain ⟨h1,h2,h3,h4⟩ := wordsL_sub i j r (k + 1) x h
   refine ⟨h1,h2,by omega, ?_⟩
   rw [show x.1.2.2 - k = (x.1.2.2 - (k + 1)) + 1 by omega]
   simpa using h4
theorem wordsC_sub (i : Nat) : ∀ (ls : List Line) (j : Nat) (x : Plc × ByteArray),x ∈ wordsC i j ls → x.1.1 = i ∧ j ≤ x.1.2.1 ∧ ∃ l,ls[x.1.2.1 - j]? = some l ∧ l[x.1.2.2]? = some x.2
 | [],_,x,h => by simp [wordsC] at h
 | a :: r,j,x,h => by
  rcases List.mem_append.1 h with h | h
  ·obtain ⟨h1,h2,h3,h4⟩ := wordsL_sub i j a 0 x h
   exact ⟨h1,by omega,a,by rw [h2,Nat.sub_self];rfl,by simpa using h4⟩
  ·obtain ⟨h1,h2,l,h3,h4⟩ := wordsC_sub i r (j + 1) x h
   refine ⟨h1,by omega,l, ?_,h4⟩
   rw [show x.1.2.1 - j = (x.1.2.1 - (j + 1)) + 1 by omega]
   simpa using h3
def atIx (Z : List (Plc × ByteArray)) (p : Plc) : Nat := Z.findIdx fun y => decide (y.1 = p)
theorem atIx_spec {a : Nat} {ls : List Line} {b c : Nat} {l : Line} {s : ByteArray} (h1 : ls[b]? = some l) (h2 : l[c]? = some s) :
  (wordsC a 0 ls)[atIx (wordsC a 0 ls) (a,b,c)]? = some ((a,b,c),s) ∧ ∀ j y,j < atIx (wordsC a 0 ls) (a,b,c) → (wordsC a 0 ls)[j]? = some y → y.1 ≠ (a,b,c) := by
 have hm := wordsC_in a ls 0 b c l s h1 h2
 rw [Nat.zero_add] at hm
 have hlt : atIx (wordsC a 0 ls) (a,b,c) < (wordsC a 0 ls).length := List.findIdx_lt_length_of_exists ⟨_,hm,by simp⟩
 refine ⟨?_,fun j y hj hy => ?_⟩
 ·rw [List.getElem?_eq_getElem hlt]
  have h3 : ((wordsC a 0 ls)[atIx (wordsC a 0 ls) (a,b,c)]).1 = (a,b,c) := by
   have := List.findIdx_getElem (xs := wordsC a 0 ls) (p := fun y : Plc × ByteArray => decide (y.1 = (a,b,c))) (w := hlt)
   exact of_decide_eq_true this
  obtain ⟨-, -,l',h4,h5⟩ := wordsC_sub a ls 0 _ (List.getElem_mem hlt)
  rw [h3] at h4 h5
  simp only [Nat.sub_zero] at h4 h5
  rw [h1] at h4;cases h4
  rw [h2] at h5
  congr 1
  exact Prod.ext h3 (by cases h5;rfl)
 ·have hj2 := (List.getElem?_eq_some_iff.1 hy).1
  have := List.not_of_lt_findIdx hj
  rw [List.getElem?_eq_getElem hj2] at hy
  cases hy
  simpa using this
end Go.Ev
namespace Go.Ev
open Go.Proofs
attribute [local irreducible] Wp WpS
def ctxOf (Z : List (Plc × ByteArray)) (p : Plc) (w sd : Nat) : Ctx := (bestC sd (ctxs (Z.map (·.2)) w (atIx Z p))).getD (0,0,0)
def mkV (a : Nat) (ls : List Line) (b c : Nat) (s : ByteArray) (w sd : Nat) : AV := slipV ((wordsC a 0 ls).map (·.2)) ((a,b,c),s) (atIx (wordsC a 0 ls) (a,b,c)) (ctxOf (wordsC a 0 ls) (a,b,c) w sd)
theorem wordsC_small (a : Nat) : ∀ (ls : List Line) (j : Nat),(∀ l ∈ ls,l.length ≤ 10) → (wordsC a j ls).length ≤ ls.length * 10
 | [],_,_ => Nat.le_refl _
 | l :: r,j,h => by
  have h1 := h l (List.mem_cons_self ..)
  have ih := wordsC_small a r (j + 1) fun x hx => h x (List.mem_cons_of_mem _ hx)
  show (wordsL a j 0 l ++ wordsC a (j + 1) r).length ≤ _
  rw [List.length_append,wordsL_len,List.length_cons]
  omega
theorem word_size {s : ByteArray} (h : wordB s = true) : 1 ≤ s.size ∧ s.size ≤ 12 := by
 unfold wordB at h
 rw [Bool.and_eq_true,range1] at h
 have := h.1
 simp at this
 omega
theorem ansS65 {e : Exts} (he : Quiet e) (hj : e.x 127 = some joinStr) (t : Txt) (ht : Fits t) (hT : textB t = true) (ch : AV) (xs : List AV) (hch : SlOf 2 xs ch) (hall : All2 ChapA t xs) (w sd : Nat) (h1 : 12 ≤ w) (h2 : w ≤ 80) (h3 : 1 ≤ sd) (h4 : sd ≤ 3) (a b c : Nat) (cp : Chap) (hc : t[a]? = some cp) (ln : Line) (hl : cp.2[b]? = some ln) (s : ByteArray) (hs : ln[c]? = some s) :
  Ans (Cx e) 65 [.agg [ch],.agg [intA w,.v (.int .u8 sd)],.agg [intA a,intA b,intA c]] (mkV a cp.2 b c s w sd) := by
 have hsm := small_of hT
 have hcm := List.mem_of_getElem? hc
 have hlm := List.mem_of_getElem? hl
 obtain ⟨hx,hlo⟩ := atIx_spec (a := a) hl hs
 have hil := (List.getElem?_eq_some_iff.1 hx).1
 have hcl := (hsm.lines cp hcm).2
 have hZl := wordsC_small a cp.2 0 fun l hl => (hsm.words cp hcm l hl).2
 have hZw : ∀ x ∈ wordsC a 0 cp.2,x.2.size ≤ 12 := fun x hx => by
  obtain ⟨-, -,l,q1,q2⟩ := wordsC_sub a cp.2 0 x hx
  exact (word_size (hsm.word cp hcm l (List.mem_of_getElem? q1) x.2 (List.mem_of_getElem? q2))).2
 have hss := hZw _ (List.mem_of_getElem? hx)
 have hne : ctxs ((wordsC a 0 cp.2).map (·.2)) w (atIx (wordsC a 0 cp.2) (a,b,c)) ≠ [] := ctxs_ne (by rw [List.length_map];exact hil) (s := s) (by rw [List.getElem?_map,hx];rfl) (by simp only at hss;omega)
 obtain ⟨cc,hcc,hcmem⟩ := best_some sd hne
 obtain ⟨m1,m2,m3⟩ := ctxs_mem hcmem
 rw [List.length_map] at m2
 have hcx : ctxOf (wordsC a 0 cp.2) (a,b,c) w sd = cc := by unfold ctxOf;rw [hcc];rfl
 have a100 := ansS100 he t ht ch xs hch hall w sd a cp hc (by omega) (fun l hl => by have := (hsm.words cp hcm l hl).2;omega) (fun h => by rw [h] at hil;simp at hil) (by omega)
 have a102 := ansS102 he (wordsC a 0 cp.2) (by omega) _ _ hx hlo
 have a101 := ansS101 he hj (wordsC a 0 cp.2) (by omega) hZw w (by omega) sd h3 h4 _ _ hx cc hcc m1 m2
 have bw : boundL (wds (wordsC a 0 cp.2)) = 0 := strs_bd _
 have c100 := fun me d H => a100.call (me := me) (d := d) (ext_100 he) (pure_100 _ _ _) (by simp only [boundL_cons,bound_agg,hch.bound,boundL_nil];rfl) H
 have c102 := fun me d => a102.callI (me := me) (d := d) (ext_102 he) (pure_102 _ _ _) rfl
 have c101 := fun me d => a101.callI (me := me) (d := d) (ext_101 he) (pure_101 _ _ _) rfl
 unfold mkV
 rw [hcx]
 generalize atIx (wordsC a 0 cp.2) (a,b,c) = i at *
 generalize wordsC a 0 cp.2 = Z at *
 unfold intA at c100 c101 c102
 unfold plN intA at c102
 unfold slipV at c101 ⊢
 unfold Ans
 rw [fn_step (fn_65 e) (show Tryz.f65.body = some _ from rfl)]
 simp -implicitDefEqProofs only [Tryz.f65,go_sem,↓reduceIte,Int.reduceEq,Int.reduceLT,Int.reduceLE,List.reduceReplicate,intA,setT_nil,setT_cons,hch.cells,hch.flat,hch.bound,c100,↓boolP_bool,↓iteB_true,↓iteB_false]
 refine wp_drawX [([],[],false),([],[],false),([0],[],false),([0,2],[],false),([0],[],false),([],[],false),([],[],false)] (by kernel_rfl) (by kernel_rfl) ?_
 simp only [intA] at c101
 simp -implicitDefEqProofs only [go_sem,↓reduceIte,Int.reduceEq,Int.reduceLT,Int.reduceLE,List.reduceReplicate,intA,setT_nil,setT_cons,c101,c102,↓boolP_bool,↓iteB_true,↓iteB_false]
 rfl
def mkB (a : Nat) (ls : List Line) (b c : Nat) (w sd : Nat) : ByteArray := befB ((wordsC a 0 ls).map (·.2)) (atIx (wordsC a 0 ls) (a,b,c)) (ctxOf (wordsC a 0 ls) (a,b,c) w sd)
def mkA (a : Nat) (ls : List Line) (b c : Nat) (w sd : Nat) : ByteArray := aftB ((wordsC a 0 ls).map (·.2)) (atIx (wordsC a 0 ls) (a,b,c)) (ctxOf (wordsC a 0 ls) (a,b,c) w sd)
theorem mkV_eq (a : Nat) (ls : List Line) (b c : Nat) (s : ByteArray) (w sd : Nat) : mkV a ls b c s w sd = .agg [intA a,intA b,intA c,.v (.string s),.v (.string (mkB a ls b c w sd)),.v (.string (mkA a ls b c w sd))] := rfl
theorem ansS37 {e : Exts} (he : Quiet e) (hj : e.x 127 = some joinStr) (t : Txt) (ht : Fits t) (hT : textB t = true) (ch : AV) (xs : List AV) (hch : SlOf 2 xs ch) (hall : All2 ChapA t xs) (w sd : Nat) (h1 : 12 ≤ w) (h2 : w ≤ 80) (h3 : 1 ≤ sd) (h4 : sd ≤ 3) (a b c : Nat) (cp : Chap) (hc : t[a]? = some cp) (ln : Line) (hl : cp.2[b]? = some ln) (s : ByteArray) (hs : ln[c]? = some s) :
  Ans (Cx e) 37 [.agg [ch],.agg [intA w,.v (.int .u8 sd)],.agg [intA a,intA b,intA c]] (.tup [mkV a cp.2 b c s w sd,intA 0]) := by
 have a65 := ansS65 he hj t ht hT ch xs hch hall w sd h1 h2 h3 h4 a b c cp hc ln hl s hs
 rw [mkV_eq] at a65 ⊢
 have a63 := ansS63 he t ht ch xs hch hall hT w sd (by omega) (by omega) (by omega) (by omega)
 have a46 := ansS46 he t ht ch xs hch hall hT a b c ln (lineAt_nat hc hl) s hs
 have b1 : boundL [AV.agg [ch],.agg [intA w,.v (.int .u8 sd)]] = 0 := by simp only [boundL_cons,bound_agg,hch.bound,boundL_nil];rfl
 have b2 : boundL [AV.agg [ch],.agg [intA a,intA b,intA c]] = 0 := by simp only [boundL_cons,bound_agg,hch.bound,boundL_nil];rfl
 have b3 : boundL [AV.agg [ch],.agg [intA w,.v (.int .u8 sd)],.agg [intA a,intA b,intA c]] = 0 := by simp only [boundL_cons,bound_agg,hch.bound,boundL_nil];rfl
 have c63 := fun me d H => a63.call (me := me) (d := d) (ext_63 he) (pure_63 _ _ _) b1 H
 have c46 := fun me d H => a46.call (me := me) (d := d) (ext_46 he) (pure_46 _ _ _) b2 H
 have c65 := fun me d H => a65.call (me := me) (d := d) (ext_65 he) (pure_65 _ _ _) b3 H
 generalize mkB a cp.2 b c w sd = B at *
 generalize mkA a cp.2 b c w sd = A at *
 unfold intA at c63 c46 c65
 unfold Ans
 rw [fn_step (fn_37 e) (show Tryz.f37.body = some _ from rfl)]
 simp -implicitDefEqProofs only [Tryz.f37,go_sem,↓reduceIte,Int.reduceEq,Int.reduceLT,Int.reduceLE,List.reduceReplicate,intA,setT_nil,setT_cons,hch.cells,hch.flat,hch.bound,c63,c46,c65,↓boolP_bool,↓iteB_true,↓iteB_false]
 rfl
end Go.Ev
namespace Go.Ev
open Go.Proofs
theorem aheadC_irr (sd : Nat) (x : Ctx) : aheadC sd x x = false := by
 unfold aheadC aheadF aheadE
 simp
theorem aheadF_tr {sd : Nat} {x y z : Ctx} (h1 : aheadF sd x y = true) (h2 : aheadF sd y z = true) : aheadF sd x z = true := by
 unfold aheadF aheadE at *
 by_cases s1 : sd = 1
 ·simp only [s1,if_true,decide_eq_true_eq] at *;omega
 ·by_cases s2 : sd = 2
  ·subst s2
   simp only [Nat.reduceEqDiff,if_true,if_false,decide_eq_true_eq] at *;omega
  ·simp only [s1,s2,if_false] at *
   by_cases u1 : unev x = unev y
   ·rw [if_pos u1] at h1
    by_cases u2 : unev y = unev z
    ·rw [if_pos u2] at h2;rw [if_pos (u1.trans u2)];simp at *;omega
    ·rw [if_neg u2] at h2;rw [if_neg (by omega)];simp at *;omega
   ·rw [if_neg u1] at h1
    by_cases u2 : unev y = unev z
    ·rw [if_pos u2] at h2;rw [if_neg (by omega)];simp at *;omega
    ·rw [if_neg u2] at h2;simp at h1 h2;rw [if_neg (by omega)];simp;omega
theorem aheadC_tr {sd : Nat} {x y z : Ctx} (h1 : aheadC sd x y = true) (h2 : aheadC sd y z = true) : aheadC sd x z = true := by
 unfold aheadC at *
 by_cases e1 : x.2.2 = y.2.2
 ·rw [if_pos e1] at h1
  by_cases e2 : y.2.2 = z.2.2
  ·rw [if_pos e2] at h2;rw [if_pos (e1.trans e2)];exact aheadF_tr h1 h2
  ·rw [if_neg e2] at h2;rw [if_neg (by omega)];simp at *;omega
 ·rw [if_neg e1] at h1
  by_cases e2 : y.2.2 = z.2.2
  ·rw [if_pos e2] at h2;rw [if_neg (by omega)];simp at *;omega
  ·rw [if_neg e2] at h2;simp at h1 h2;rw [if_neg (by omega)];simp;omega
theorem fold_best (sd : Nat) : ∀ (l seen : List Ctx) (y c : Ctx),(∀ d ∈ seen,aheadC sd d y = false) → y ∈ seen → l.foldl (nxC sd) (some y) = some c → ∀ d,d ∈ seen ∨ d ∈ l → aheadC sd d c = false
 | [],seen,y,c,hs,_,h,d,hd => by
  obtain rfl : y = c := by simpa using h
  rcases hd with hd | hd
  ·exact hs d hd
  ·cases hd
 | x :: r,seen,y,c,hs,hy,h,d,hd => by
  have h : r.foldl (nxC sd) (nxC sd (some y) x) = some c := h
  unfold nxC at h
  simp only at h
  have hd' : d ∈ x :: seen ∨ d ∈ r := by
   rcases hd with hd | hd
   ·exact Or.inl (List.mem_cons_of_mem _ hd)
   ·rcases List.mem_cons.1 hd with rfl | hd
    ·exact Or.inl (List.mem_cons_self ..)
    ·exact Or.inr hd
  split at h
  ·rename_i hxy
   refine fold_best sd r (x :: seen) x c (fun d hd => ?_) (List.mem_cons_self ..) h d hd'
   rcases List.mem_cons.1 hd with rfl | hd
   ·exact aheadC_irr sd _
   ·cases hq : aheadC sd d x with
    | false => rfl
    | true => have := hs d hd;rw [aheadC_tr hq hxy] at this;cases this
  ·rename_i hxy
   refine fold_best sd r (x :: seen) y c (fun d hd => ?_) (List.mem_cons_of_mem _ hy) h d hd'
   rcases List.mem_cons.1 hd with rfl | hd
   ·exact Bool.eq_false_iff.2 hxy
   ·exact hs d hd
theorem bestC_all {sd : Nat} {l : List Ctx} {c : Ctx} (h : bestC sd l = some c) : ∀ d ∈ l,aheadC sd d c = false := by
 cases l with
 | nil => cases h
 | cons x r => exact fun d hd => fold_best sd r [x] x c (fun d hd => by rw [List.mem_singleton.1 hd];exact aheadC_irr sd x) (List.mem_singleton.2 rfl) h d (by rcases List.mem_cons.1 hd with rfl | hd;exact Or.inl (List.mem_singleton.2 rfl);exact Or.inr hd)
end Go.Ev
namespace Go.Ev
open Go.Proofs
attribute [local irreducible] Wp WpS
end Go.Ev
namespace Go.Ev
open Go.Proofs
def plainW (s : ByteArray) : Prop := 1 ≤ s.size ∧ ∀ b ∈ s.data.toList,b.toNat < 128 ∧ b.toNat ≠ 32
theorem plainW_of {s : ByteArray} (h : wordB s = true) : plainW s := by
 refine ⟨(word_size h).1,fun b hb => ?_⟩
 unfold wordB lettersB at h
 rw [Bool.and_eq_true,List.drop_zero] at h
 have h := List.all_eq_true.1 h.2 b hb
 unfold letter at h
 simp only [Bool.and_eq_true,decide_eq_true_eq] at h
 omega
theorem join_cons2 (x y : List UInt8) (r : List (List UInt8)) : Lib.join (x :: y :: r) [32] = x ++ 32 :: Lib.join (y :: r) [32] := by
 unfold Lib.join
 simp [List.intercalate,List.intersperse]
theorem join_one (x : List UInt8) : Lib.join [x] [32] = x := by simp [Lib.join,List.intercalate]
theorem joinB_data (l : Line) : (joinB l).data.toList = Lib.join (l.map (·.data.toList)) [32] := by unfold joinB;simp
end Go.Ev
namespace Go.Ev
open Go.Proofs
def extWord : List AV → Option AV
 | [.v (.string s)] => if s.size < 1000 then some (.v (.bool (wordB s))) else none
 | _ => none
def eN : Exts := { x := fun _ => none }
def e0 : Exts := eN.more 131 cmpStr
def e1 : Exts := e0.more 90 extWord
theorem quiet0 : Quiet e0 := by
 intro f h1 h2 _ _ _
 unfold e0 Exts.more
 show (if Nat.beq f 131 then some cmpStr else none) = none
 rw [if_neg]
 intro h;exact h2 (Nat.eq_of_beq_eq_true h)
theorem mixed (e : Exts) : (Cx e).P.follows .mixedOrders = true := by show Tryz.prog.follows .mixedOrders = true;kernel_rfl
theorem nogo_all : (Tryz.prog.funcs.toList.all fun fn => !(fn.body.isSome && (fn.name == "runtime.NumGoroutine"))) = true := by kernel_rfl
theorem nogo (e : Exts) : NoGo (Cx e).P := by
 intro f fn hf hb
 have h := List.all_eq_true.1 nogo_all fn (by
  have : Tryz.prog.funcs[f]? = some fn := hf
  exact List.mem_of_getElem? (by simpa using this))
 rw [hb] at h
 simpa using h
theorem extOK_none : ExtOK (Cx eN) := ⟨fun _ _ h => (nomatch h),fun _ _ h => (nomatch h),fun _ _ h => (nomatch h)⟩
theorem extOK0 : ExtOK (Cx e0) := by
 refine extOK_more (C := Cx eN) (f := 131) (g := cmpStr) rfl ?_ extOK_none rfl
 intro args v h Z ρ H w vals hs hl
 exact ext_cmp (fn := Tryz.f131) Tryz.func131 (by kernel_rfl) (by kernel_rfl) (by kernel_rfl) (by kernel_rfl) h Z ρ H w vals hs hl
end Go.Ev
