/- What the proof of this claim stands on, part 3: an evaluator of the model, proved right, and what it answers for functions of the program. -/
import Derived.Test.YtpfbekhkakfoiaaGreatDoorPk01
import Derived.Test.YtpfbekhkakfoiaaGreatDoorProg
import Derived.KernelRfl
import Derived.Laws.StructEq
import Derived.Lib.Bytealg
set_option maxHeartbeats 8000000
set_option maxRecDepth 1000000
set_option linter.unusedSimpArgs false
namespace Go.Ev
@[go_sem] theorem obeq_tf : ((some true : Option Bool) == some false) = false := rfl
@[go_sem] theorem obeq_ft : ((some false : Option Bool) == some true) = false := rfl
@[go_sem] theorem obeq_nf : ((none : Option Bool) == some false) = false := rfl
section
variable {C : Cfg} {me : FuncId} {rd : Option Nat}
def loadI (P : Program) (H : Heap) (t : TypeId) (p : AV) : Option AV :=
 match p with
 | .ptr b v k => if b < H.size then loadA P H t (.ptr b v k) else none
 | .ro z k => loadA P H t (.ro z k)
 | _ => none
def lenI (P : Program) (ts : List TypeId) (l : List AV) : Option AV :=
 match l with
 | .mp _ :: _ => none
 | l => lenA P { objs := [],lock := 0 } ts l
open Classical in
noncomputable def callI (C : Cfg) (me f : FuncId) (d : Option Tmp) (args : List AV) : Option AV :=
 if h : ∃ v,(∀ H,callA C (lim C) me f d args H = some (v,H)) ∧ ((standA C f args).isSome = true ∨ callKind C me f d args = 1) then some h.choose else none
noncomputable def callV (C : Cfg) (me : FuncId) (d : Option Tmp) (g : AV) (l : List AV) : Option AV :=
 match g with
 | .fn (.func f) x y => callI C me f d (x ++ l ++ y)
 | _ => none
def sliceI (P : Program) (t : TypeId) (v : AV) (l h m : Option AV) : Option AV :=
 match v with
 | .sl _ _ _ _ _ => none
 | v => sliceA P { objs := [],lock := 0 } t v l h m
def bareO (d : Option Tmp) (op : Op) : Oper := { dst := d,op := op,type := 0,pos := "",after := #[],guard := none }
noncomputable def opI (C : Cfg) (me : FuncId) (H : Heap) (d : Option Tmp) (op : Op) (a : AAct) : Option AV :=
 match op with
 | .load t x => (a.eval x).bind (loadI C.P H t)
 | .slice t x l h m => (a.eval x).bind fun v => (lookO a l).bind fun l => (lookO a h).bind fun h => (lookO a m).bind fun m => sliceI C.P t v l h m
 | .call c =>
  match c.callee with
  | .builtin .len => (evals a c.args.toList).bind (lenI C.P c.argTypes.toList)
  | .builtin .min => (evals a c.args.toList).bind (mmA false)
  | .value g => (evals a c.args.toList).bind fun l => (a.eval g).bind fun v => callV C me d v l
  | _ => none
 | op => if plainO (bareO d op) then (opA C (lim C) me (bareO d op) a H 0).map fun r => r.1.getD undefA else none
theorem callI_of {f : FuncId} {d : Option Tmp} {args : List AV} {v : AV} (h : ∀ H,callA C (lim C) me f d args H = some (v,H)) (hk : (standA C f args).isSome = true ∨ callKind C me f d args = 1) : callI C me f d args = some v := by
 unfold callI
 have hex : ∃ v,(∀ H,callA C (lim C) me f d args H = some (v,H)) ∧ ((standA C f args).isSome = true ∨ callKind C me f d args = 1) := ⟨v,h,hk⟩
 rw [dif_pos hex]
 have h1 := hex.choose_spec.1 { objs := [],lock := 0 }
 rw [h] at h1
 simp only [Option.some.injEq,Prod.mk.injEq] at h1
 rw [← h1.1]
theorem Ans.callI {f : FuncId} {args : List AV} {v : AV} (h : Ans C f args v) {d : Option Tmp} (hx : C.ext f = none) (hp : C.pure me f d = true) (hb : boundL args = 0) (hh : C.exh f = none := by rfl) : callI C me f d args = some v :=
 callI_of (fun H => h.call hx hp hb H hh) (Or.inr (by unfold callKind;rw [hp,hb];rfl))
theorem ext_call {f : FuncId} {g : List AV → Option AV} (hx : C.ext f = some g) {args : List AV} {v : AV} (h : g args = some v) {d : Option Tmp} (H : Heap) : callA C (lim C) me f d args H = some (v,H) := by
 unfold callA standA;rw [hx];simp only [h]
theorem ext_callI {f : FuncId} {g : List AV → Option AV} (hx : C.ext f = some g) {args : List AV} {v : AV} (h : g args = some v) {d : Option Tmp} : callI C me f d args = some v :=
 callI_of (fun H => ext_call hx h H) (Or.inl (by unfold standA;rw [hx];simp only [h];rfl))
noncomputable def idleA (C : Cfg) (me : FuncId) (arr : Array Oper) (H : Heap) : List Oper → AAct → Option AAct
 | [],a => some a
 | o :: r,a =>
  match wantedA arr a o with
  | some true => match opI C me H o.dst o.op a with | some v => idleA C me arr H r (a.put o.dst v) | none => none
  | some false => idleA C me arr H r (a.put o.dst undefA)
  | none => none
def Foot.calm (f : Foot) : Prop := f.writes = some [] ∧ f.fresh = [] ∧ f.grows = false
theorem footI_calm {b : Bool} {op : Op} {vis : Nat → Bool} {ft : Foot} (h : ft.calm) : (footI b op vis ft).calm := ⟨footI_same.2.1.trans h.1,footI_same.2.2.1.trans h.2.1,footI_same.2.2.2.2.1.trans h.2.2⟩
theorem clash_calm {x y : Foot} (hx : x.calm) (hy : y.calm) : clash x y = false := by
 obtain ⟨rx,wx,fx,px,gx⟩ := x
 obtain ⟨ry,wy,fy,py,gy⟩ := y
 obtain ⟨h1,h2,h3⟩ := hx
 obtain ⟨h4,h5,h6⟩ := hy
 simp only at h1 h2 h3 h4 h5 h6
 subst h1;subst h2;subst h3;subst h4;subst h5;subst h6
 unfold clash
 have e1 : ∀ z,meet (some []) z = false := fun _ => rfl
 have e2 : meet rx (some []) = false := by
  unfold meet;split <;> simp_all
 simp only [e1,e2,Bool.false_and,Bool.or_false]
theorem free_calm {feet : List Foot} {w : Nat} {me : Foot} (hf : ∀ f ∈ feet,f.calm) (hm : me.calm) : ∀ n,n ≤ feet.length → freeOf feet w me n = true
 | 0,_ => rfl
 | k + 1,hn => by
  unfold freeOf
  rw [free_calm hf hm k (by omega),Bool.and_true,Bool.or_eq_true]
  right
  cases h : feet[k]? with
  | none => exact absurd (List.getElem?_eq_none_iff.1 h) (by omega)
  | some f => simp only [clash_calm (hf f (List.mem_of_getElem? h)) hm,Bool.not_false]
def padded (H : Heap) (n : Nat) : Heap := { H with objs := H.objs ++ List.replicate n none }
theorem load_hidden {H : Heap} {n : Nat} {vis : Nat → Bool} {t : TypeId} {p v : AV} (h : loadI C.P H t p = some v) (hv : ∀ b,b ∈ objsOf p → b < H.size → vis b = true) : loadA C.P ((padded H n).hide vis) t p = some v := by
 unfold loadI at h
 split at h
 ·rename_i b w k
  split at h
  ·rename_i hb
   have hrow : ((padded H n).hide vis).row b w = H.row b w := by
    unfold Heap.row
    rw [hide_get]
    have hs : (padded H n).size = H.size + n := by simp [padded,Heap.size]
    rw [if_pos (by omega),if_pos (hv b (by simp [objsOf]) hb)]
    have : (padded H n).get b = H.get b := by
     unfold Heap.get padded
     simp only
     rw [List.getElem?_append_left hb]
    rw [this]
   simp only [loadA] at h ⊢
   rw [hrow];exact h
  ·cases h
 ·exact h
 ·cases h
theorem plain_slot {o : Oper} (hp : plainO o = true) (a : AAct) (H : Heap) (s s' : Nat) : opA C (lim C) me o a H s = opA C (lim C) me o a H s' := by
 unfold plainO at hp
 unfold opA
 cases ho : o.op <;> rw [ho] at hp <;> simp only [] at hp <;> first | (cases hp;done) | rfl
theorem opA_bare (o : Oper) (a : AAct) (H : Heap) (slot : Nat) : opA C (lim C) me o a H slot = opA C (lim C) me (bareO o.dst o.op) a H slot := rfl
theorem stepD_idle {arr : Array Oper} {ws : List Nat} {n i : Nat} {o : Oper} {a : AAct} {H : Heap} {v : AV} (hw : wantedA arr a o = some true) (h : opI C me H o.dst o.op a = some v) :
  ∃ ft : Foot,ft.calm ∧ stepD C (lim C) me arr ws H.size (H.size + n) i o a (padded H n) = some (ft,a.put o.dst v,padded H n) := by
 unfold stepD
 rw [hw]
 simp only
 by_cases hp : plainO o = true
 ·rw [if_pos hp]
  have hop : (opA C (lim C) me (bareO o.dst o.op) a H 0).map (fun r => r.1.getD undefA) = some v := by
   have hp' : plainO (bareO o.dst o.op) = true := hp
   unfold opI at h
   split at h
   ·rename_i t x hop;rw [show plainO o = plainO (bareO o.dst o.op) from rfl,hop] at hp;simp [plainO,bareO] at hp
   ·rename_i hop;rw [show plainO o = plainO (bareO o.dst o.op) from rfl,hop] at hp;simp [plainO,bareO] at hp
   ·rename_i c hop;rw [show plainO o = plainO (bareO o.dst o.op) from rfl,hop] at hp;simp [plainO,bareO] at hp
   ·rw [if_pos hp'] at h;exact h
  rw [Option.map_eq_some_iff] at hop
  obtain ⟨⟨r,H1⟩,h1,h2⟩ := hop
  have h3 := (plain_same (o := bareO o.dst o.op) hp h1).2
  have h4 := h3 (padded H n)
  rw [plain_slot (o := bareO o.dst o.op) hp _ _ _ (H.size + i)] at h4
  rw [opA_bare,h4]
  simp only at h2 ⊢
  exact ⟨noFoot,⟨rfl,rfl,rfl⟩,by rw [h2]⟩
 ·rw [if_neg hp]
  unfold opI at h
  split at h
  ·rename_i t x hop
   obtain ⟨p,hp1,hp2⟩ := Option.bind_eq_some_iff.1 h
   have hft : footA C me o a (H.size + i) = ⟨some (objsO a x),some [],[],false,false,0,false,noKept⟩ := by unfold footA;rw [hop]
   rw [hft]
   have hop' : ∀ H',opA C (lim C) me o a H' (H.size + i) = (loadA C.P H' t p).map fun v => (some v,H') := by
    intro H';unfold opA;rw [hop];simp only [hp1]
   have hl := load_hidden (C := C) (n := n) (vis := visB H.size (H.size + n) (ws.getD i 0) (H.size + i) ⟨some (objsO a x),some [],[],false,false,0,false,noKept⟩) hp2 (by
    intro b hb hlt
    unfold visB
    have : objsO a x = objsOf p := by unfold objsO;rw [hp1]
    rw [this]
    have h1 : Nat.blt b H.size = true := Nat.ble_eq_true_of_le hlt
    have h2 : (objsOf p).any (Nat.beq b) = true := List.any_eq_true.2 ⟨b,hb,by simp⟩
    simp only [h1,h2,Bool.true_or,Bool.and_true,Bool.or_true])
   rw [hop',hl]
   exact ⟨_,footI_calm ⟨rfl,rfl,rfl⟩,rfl⟩
  ·rename_i t x l0 h0 m0 hop
   obtain ⟨v0,h1,h⟩ := Option.bind_eq_some_iff.1 h
   obtain ⟨l1,h2,h⟩ := Option.bind_eq_some_iff.1 h
   obtain ⟨l2,h3,h⟩ := Option.bind_eq_some_iff.1 h
   obtain ⟨l3,h4,h⟩ := Option.bind_eq_some_iff.1 h
   have hft : footA C me o a (H.size + i) = ⟨some (objsO a x),some [],[],false,false,0,false,noKept⟩ := by unfold footA;rw [hop]
   rw [hft]
   have hsl : ∀ H',sliceA C.P H' t v0 l1 l2 l3 = some v := by
    intro H'
    unfold sliceI at h
    split at h
    ·cases h
    ·rename_i hne
     rw [← h]
     unfold sliceA
     split
     ·rfl
     ·split <;> first | rfl | exact absurd rfl (hne _ _ _ _ _)
   have hop' : ∀ H',opA C (lim C) me o a H' (H.size + i) = some (some v,H') := by
    intro H'
    unfold opA;rw [hop]
    show (match a.eval x,lookO a l0,lookO a h0,lookO a m0 with | some v,some l,some h,some m => (sliceA C.P H' t v l h m).map fun v => (some v,H') | _,_,_,_ => none) = _
    rw [h1,h2,h3,h4]
    simp only [hsl,Option.map_some]
   rw [hop']
   exact ⟨_,footI_calm ⟨rfl,rfl,rfl⟩,rfl⟩
  ·rename_i c hop
   split at h
   ·rename_i hcal
    obtain ⟨l,hl1,hl2⟩ := Option.bind_eq_some_iff.1 h
    have hft : ∃ rs,footA C me o a (H.size + i) = ⟨rs,some [],[],false,false,0,false,noKept⟩ := by unfold footA;rw [hop];simp only [hcal];exact ⟨_,rfl⟩
    obtain ⟨rs,hft⟩ := hft
    rw [hft]
    have hlen : ∀ H',lenA C.P H' c.argTypes.toList l = some v := by
     intro H'
     unfold lenI at hl2
     split at hl2
     ·cases hl2
     ·rename_i hne
      rw [← hl2]
      unfold lenA
      split
      ·split <;> try rfl
       rename_i b _;exact absurd rfl (hne b _)
      ·rfl
    have hop' : ∀ H',opA C (lim C) me o a H' (H.size + i) = some (some v,H') := by
     intro H';unfold opA;rw [hop];simp only [hcal,hl1,hlen,Option.map_some]
    rw [hop']
    exact ⟨_,footI_calm ⟨rfl,rfl,rfl⟩,rfl⟩
   ·rename_i hcal
    obtain ⟨l,hl1,hl2⟩ := Option.bind_eq_some_iff.1 h
    have hft : footA C me o a (H.size + i) = ⟨some [],some [],[],false,false,0,false,noKept⟩ := by unfold footA;rw [hop];simp only [hcal]
    rw [hft]
    have hop' : ∀ H',opA C (lim C) me o a H' (H.size + i) = some (some v,H') := by
     intro H';unfold opA;rw [hop];simp only [hcal,hl1]
     cases l with
     | nil => cases hl2
     | cons x r =>
      have hl2 : minmaxA false x r = some v := hl2
      simp only [hl2,Option.map_some]
    rw [hop']
    exact ⟨_,footI_calm ⟨rfl,rfl,rfl⟩,rfl⟩
   ·rename_i g hcal
    obtain ⟨l,hl1,hl2⟩ := Option.bind_eq_some_iff.1 h
    obtain ⟨gv,hg1,hg2⟩ := Option.bind_eq_some_iff.1 hl2
    unfold callV at hg2
    split at hg2
    ·rename_i f x y
     unfold callI at hg2
     split at hg2
     ·rename_i hex
      simp only [Option.some.injEq] at hg2
      obtain ⟨hc,hk⟩ := hex.choose_spec
      rw [hg2] at hc
      have hft : footA C me o a (H.size + i) = ⟨some [],some [],[],false,false,0,false,noKept⟩ := by
       unfold footA;rw [hop];simp only [hcal,hg1,hl1]
       rcases hk with hk | hk
       ·rw [if_pos hk]
       ·by_cases hx : (standA C f (x ++ l ++ y)).isSome = true
        ·rw [if_pos hx]
        ·rw [if_neg hx];simp only [hk]
      rw [hft]
      have hop' : ∀ H',opA C (lim C) me o a H' (H.size + i) = some (some v,H') := by
       intro H';unfold opA;rw [hop];simp only [hcal,hl1,hg1,hc,Option.map_some]
      rw [hop']
      exact ⟨_,footI_calm ⟨rfl,rfl,rfl⟩,rfl⟩
     ·cases hg2
    ·cases hg2
   ·cases h
  ·rename_i hop
   split at h
   ·rename_i hpl;exact absurd hpl hp
   ·cases h
theorem draw_idle {arr : Array Oper} {ws : List Nat} {n : Nat} {H : Heap} : ∀ {l : List Oper} {a a' : AAct} {i : Nat} {feet : List Foot},idleA C me arr H l a = some a' → (∀ f ∈ feet,f.calm) → feet.length = i →
  drawA C (lim C) me arr H.size (H.size + n) ws l i feet a (padded H n) = some (a',padded H n)
 | [],a,a',i,feet,h,_,_ => by simp only [idleA,Option.some.injEq] at h;subst h;rfl
 | o :: r,a,a',i,feet,h,hf,hi => by
  unfold idleA at h
  unfold drawA
  cases hw : wantedA arr a o with
  | none => rw [hw] at h;cases h
  | some w =>
   rw [hw] at h
   cases w
   ·simp only at h
    have : stepD C (lim C) me arr ws H.size (H.size + n) i o a (padded H n) = some (noFoot,a.put o.dst undefA,padded H n) := by unfold stepD;rw [hw]
    rw [this]
    simp only
    have hc : noFoot.calm := ⟨rfl,rfl,rfl⟩
    rw [free_calm hf hc i (by omega),if_pos rfl]
    exact draw_idle h (fun f hm => by
     rcases List.mem_append.1 hm with hm | hm
     ·exact hf f hm
     ·rw [List.mem_singleton.1 hm];exact hc) (by simp [hi])
   ·simp only at h
    cases ho : opI C me H o.dst o.op a with
    | none => rw [ho] at h;cases h
    | some v =>
     rw [ho] at h
     simp only at h
     obtain ⟨ft,hc,hst⟩ := stepD_idle (ws := ws) (n := n) (i := i) hw ho
     rw [hst]
     simp only
     rw [free_calm hf hc i (by omega),if_pos rfl]
     exact draw_idle h (fun f hm => by
      rcases List.mem_append.1 hm with hm | hm
      ·exact hf f hm
      ·rw [List.mem_singleton.1 hm];exact hc) (by simp [hi])
def WpI (C : Cfg) (me : FuncId) (arr : Array Oper) (ops : List Oper) (a : AAct) (H : Heap) (K : AAct → Prop) : Prop := bindO (idleA C me arr H ops a) K
@[congr] theorem WpI_congr {arr : Array Oper} {ops : List Oper} {a a' : AAct} {H H' : Heap} {K : AAct → Prop} (ha : a = a') (hH : H = H') : WpI C me arr ops a H K = WpI C me arr ops a' H' K := by rw [ha,hH]
def setI (C : Cfg) (me : FuncId) (K : Post) (H : Heap) : AAct → Prop := fun a => AtK K .normal ⟨a.size,keepT (C.keep me) a.tmps,a.marks⟩ H
def AtI (K : AAct → Prop) (a : AAct) : Prop := K a
@[go_sem ↓] theorem setI_at (K : Post) (H : Heap) (s : Nat) (l : List (Tmp × AV)) (m : List Nat) : AtI (setI C me K H) ⟨s,l,m⟩ = bindO (nf (keepT (C.keep me) l)) fun l' => AtK K .normal ⟨s,l',m⟩ H := rfl
def drawOk (ops : Array Oper) : Bool := apartM (waitsAll ops.toList) 0 [] (rowsM ops ops.toList) && waitsOk (waitsAll ops.toList) ops.toList.length
theorem wp_draw {id : Nat} {ops : Array Oper} {a : AAct} {H : Heap} {K : Post} (hok : drawOk ops = true) (h : WpI C me ops ops.toList a H (setI C me K H)) : Wp C me rd (.region id ops true) a H K := by
 unfold WpI at h
 rw [bindO_iff] at h
 obtain ⟨a',h1,h2⟩ := h
 have hd := draw_idle (ws := waitsAll ops.toList) (n := ops.toList.length) (i := 0) (feet := []) h1 (by simp) rfl
 have hreg : regionA C (lim C) me ops true a H = some (a',padded H ops.toList.length) := by
  unfold regionA
  unfold drawOk at hok
  simp only [if_true]
  rw [if_pos hok];exact hd
 unfold Wp
 simp only [codeA,hreg,Option.map_some,bindO_some]
 have hset : (settle C me H.size (a',padded H ops.toList.length)).2 = H := by
  unfold settle padded
  have h1 : (H.objs ++ List.replicate ops.toList.length none).drop H.size = List.replicate ops.toList.length none := by
   unfold Heap.size;simp
  have h2 : (H.objs ++ List.replicate ops.toList.length (none : Option AObj)).take H.size = H.objs := by
   unfold Heap.size;simp
  simp only [h1,h2]
  rw [if_pos]
  simp
 rw [hset]
 exact h2
def contI (C : Cfg) (me : FuncId) (arr : Array Oper) (r : List Oper) (d : Option Tmp) (a : AAct) (H : Heap) (K : AAct → Prop) : PostO := fun v _ => WpI C me arr r (a.put d v) H K
@[go_sem ↓] theorem contI_at (arr : Array Oper) (r : List Oper) (d : Tmp) (s : Nat) (l : List (Tmp × AV)) (m : List Nat) (H : Heap) (K : AAct → Prop) (v : AV) (H' : Heap) : AtO (contI C me arr r (some d) ⟨s,l,m⟩ H K) v H' = WpI C me arr r ⟨s,putT s d v l,m⟩ H K := by
 unfold AtO contI;simp only [AAct.put,putT];split <;> rfl
def WpJ (C : Cfg) (me : FuncId) (d : Option Tmp) (op : Op) (a : AAct) (H : Heap) (K : PostO) : Prop := bindO (opI C me H d op a) fun v => AtO K v H
@[go_sem ↓] theorem wpI_nil (arr : Array Oper) (a : AAct) (H : Heap) (K : AAct → Prop) : WpI C me arr [] a H K = AtI K a := rfl
theorem wpI_cons (arr : Array Oper) (o : Oper) (r : List Oper) (a : AAct) (H : Heap) (K : AAct → Prop) :
  WpI C me arr (o :: r) a H K = bindO (wantedA arr a o) fun w => iteB w (WpJ C me o.dst o.op a H (contI C me arr r o.dst a H K)) (WpI C me arr r (a.put o.dst undefA) H K) := by
 unfold WpI WpJ
 simp only [idleA]
 rcases wantedA arr a o with _ | w
 ·rfl
 ·cases w
  ·rfl
  ·simp only [bindO_some,iteB_true]
   rcases opI C me H o.dst o.op a with _ | v <;> rfl
@[go_sem ↓] theorem wpI_op (arr : Array Oper) (d : Option Tmp) (op : Op) (ty : TypeId) (p : String) (af : Array Edge) (r : List Oper) (a : AAct) (H : Heap) (K : AAct → Prop) :
  WpI C me arr (⟨d,op,ty,p,af,none⟩ :: r) a H K = WpJ C me d op a H (contI C me arr r d a H K) := by
 rw [wpI_cons];rfl
@[go_sem ↓] theorem wpI_guard (arr : Array Oper) (d : Tmp) (op : Op) (ty : TypeId) (p : String) (af : Array Edge) (j : Nat) (w : Bool) (r : List Oper) (s : Nat) (l : List (Tmp × AV)) (m : List Nat) (H : Heap) (K : AAct → Prop) :
  WpI C me arr (⟨some d,op,ty,p,af,some (j,w)⟩ :: r) ⟨s,l,m⟩ H K = bindO (yieldAt ((arr.toList[j]?).bind (·.dst)) ⟨s,l,m⟩) fun y => iteB (y == some w) (WpJ C me (some d) op ⟨s,l,m⟩ H (contI C me arr r (some d) ⟨s,l,m⟩ H K)) (WpI C me arr r ⟨s,putT s d undefA l,m⟩ H K) := by
 rw [wpI_cons]
 have e : (AAct.mk s l m).put (some d) undefA = ⟨s,putT s d undefA l,m⟩ := by simp only [AAct.put,putT];split <;> rfl
 rw [e]
 simp only [wantedA,yieldedA,yieldAt,Array.getElem?_toList]
 cases (arr[j]?).bind (·.dst) with
 | none => rfl
 | some d =>
  simp only
  rcases assoc d l with _ | v
  ·rfl
  ·rcases v with v | _ | l | _ | _ | _ | _ | _ | _ | _ | _ <;> try rfl
   ·cases v <;> rfl
   ·cases l <;> rfl
theorem wpJ_plain {d : Option Tmp} {op : Op} (hp : plainO (bareO d op) = true) (hl : ∀ t x,op ≠ .load t x) (hc : ∀ c,op ≠ .call c) (hsl : ∀ t x l h m,op ≠ .slice t x l h m) (a : AAct) (H : Heap) (arr : Array Oper) (r : List Oper) (d' : Option Tmp) (a' : AAct) (H2 : Heap) (K : AAct → Prop) :
  WpJ C me d op a H (contI C me arr r d' a' H2 K) = WpO C me d op a H 0 (contI C me arr r d' a' H2 K) := by
 have key : opI C me H d op a = (opA C (lim C) me (bareO d op) a H 0).map fun r => r.1.getD undefA := by
  unfold opI
  split
  ·rename_i t x;exact absurd rfl (hl t x)
  ·exact absurd rfl (hsl _ _ _ _ _)
  ·rename_i c;exact absurd rfl (hc c)
  ·rw [if_pos hp]
 unfold WpJ WpO
 rw [key]
 show bindO ((opA C (lim C) me (bareO d op) a H 0).map _) _ = bindO (opA C (lim C) me (bareO d op) a H 0) _
 rcases opA C (lim C) me (bareO d op) a H 0 with _ | x <;> rfl
section
variable (d : Option Tmp) (a : AAct) (H : Heap) (arr : Array Oper) (r : List Oper) (d' : Option Tmp) (a' : AAct) (H2 : Heap) (K : AAct → Prop)
@[go_sem ↓] theorem wpJ_move (x) : WpJ C me d (.move x) a H (contI C me arr r d' a' H2 K) = WpO C me d (.move x) a H 0 (contI C me arr r d' a' H2 K) := wpJ_plain rfl (by intro _ _ h;cases h) (by intro _ h;cases h) (by intro _ _ _ _ _ h;cases h) ..
@[go_sem ↓] theorem wpJ_assign (x) : WpJ C me d (.assign x) a H (contI C me arr r d' a' H2 K) = WpO C me d (.assign x) a H 0 (contI C me arr r d' a' H2 K) := wpJ_plain rfl (by intro _ _ h;cases h) (by intro _ h;cases h) (by intro _ _ _ _ _ h;cases h) ..
@[go_sem ↓] theorem wpJ_pick (x y z) : WpJ C me d (.pick x y z) a H (contI C me arr r d' a' H2 K) = WpO C me d (.pick x y z) a H 0 (contI C me arr r d' a' H2 K) := wpJ_plain rfl (by intro _ _ h;cases h) (by intro _ h;cases h) (by intro _ _ _ _ _ h;cases h) ..
@[go_sem ↓] theorem wpJ_bin (o t x y z) : WpJ C me d (.binOp o t x y z) a H (contI C me arr r d' a' H2 K) = WpO C me d (.binOp o t x y z) a H 0 (contI C me arr r d' a' H2 K) := wpJ_plain rfl (by intro _ _ h;cases h) (by intro _ h;cases h) (by intro _ _ _ _ _ h;cases h) ..
@[go_sem ↓] theorem wpJ_un (o t x) : WpJ C me d (.unOp o t x) a H (contI C me arr r d' a' H2 K) = WpO C me d (.unOp o t x) a H 0 (contI C me arr r d' a' H2 K) := wpJ_plain rfl (by intro _ _ h;cases h) (by intro _ h;cases h) (by intro _ _ _ _ _ h;cases h) ..
@[go_sem ↓] theorem wpJ_fieldAddr (t x i) : WpJ C me d (.fieldAddr t x i) a H (contI C me arr r d' a' H2 K) = WpO C me d (.fieldAddr t x i) a H 0 (contI C me arr r d' a' H2 K) := wpJ_plain rfl (by intro _ _ h;cases h) (by intro _ h;cases h) (by intro _ _ _ _ _ h;cases h) ..
@[go_sem ↓] theorem wpJ_indexAddr (t x i) : WpJ C me d (.indexAddr t x i) a H (contI C me arr r d' a' H2 K) = WpO C me d (.indexAddr t x i) a H 0 (contI C me arr r d' a' H2 K) := wpJ_plain rfl (by intro _ _ h;cases h) (by intro _ h;cases h) (by intro _ _ _ _ _ h;cases h) ..
@[go_sem ↓] theorem wpJ_load (K : PostO) (t x) : WpJ C me d (.load t x) a H K = bindO (a.eval x) fun p => bindO (loadI C.P H t p) fun v => AtO K v H := by
 unfold WpJ opI;simp only;cases a.eval x with
 | none => rfl
 | some p => rfl
@[go_sem ↓] theorem wpJ_slice (K : PostO) (t x l h m) : WpJ C me d (.slice t x l h m) a H K = bindO (a.eval x) fun v => bindO (lookO a l) fun l => bindO (lookO a h) fun h => bindO (lookO a m) fun m => bindO (sliceI C.P t v l h m) fun v => AtO K v H := by
 unfold WpJ opI;simp only
 cases a.eval x with
 | none => rfl
 | some v =>
  cases lookO a l with
  | none => rfl
  | some l =>
   cases lookO a h with
   | none => rfl
   | some h =>
    cases lookO a m with
    | none => rfl
    | some m => rfl
@[go_sem ↓] theorem wpJ_len (K : PostO) (args ts) : WpJ C me d (.call ⟨.builtin .len,args,ts⟩) a H K = bindO (evals a args.toList) fun l => bindO (lenI C.P ts.toList l) fun v => AtO K v H := by
 unfold WpJ opI;simp only;cases evals a args.toList with
 | none => rfl
 | some p => rfl
@[go_sem ↓] theorem wpJ_call (K : PostO) (g args ts) : WpJ C me d (.call ⟨.value g,args,ts⟩) a H K = bindO (evals a args.toList) fun l => bindO (a.eval g) fun v => bindO (callV C me d v l) fun v => AtO K v H := by
 unfold WpJ opI;simp only
 cases evals a args.toList with
 | none => rfl
 | some p =>
  simp only [Option.bind_some,bindO_some]
  cases a.eval g with
  | none => rfl
  | some v => rfl
end
@[go_sem] theorem callV_fn (d : Option Tmp) (f : FuncId) (x y l : List AV) : callV C me d (.fn (.func f) x y) l = callI C me f d (x ++ l ++ y) := rfl
@[go_sem] theorem loadI_ro (P : Program) (H : Heap) (t : TypeId) (z : AV) (k : Nat) : loadI P H t (.ro z k) = partOf P t z.cells k := rfl
@[go_sem] theorem loadI_ptr (P : Program) (H : Heap) (t : TypeId) (b v k : Nat) : loadI P H t (.ptr b v k) = if b < H.size then rowPart P t k (H.row b v) else none := rfl
@[go_sem] theorem lenI_v (P : Program) (ts : List TypeId) (x : Value) (r : List AV) : lenI P ts (.v x :: r) = lenA P { objs := [],lock := 0 } ts (.v x :: r) := rfl
theorem SlOf.slice {P : Program} {t et sz : Nat} (hu : P.underlying t = some (.slice et)) (hs : sizeT P et = some sz) {xs : List AV} {x : AV} (h : SlOf sz xs x) (j : Nat) (hj : j ≤ xs.length) : ∃ y,sliceI P t x none (some (.v (.int .i64 j))) none = some y ∧ SlOf sz (xs.take j) y := by
 rcases h with ⟨rfl,rfl⟩ | ⟨cap,rfl⟩
 ·have : j = 0 := by simpa using hj
  subst this
  refine ⟨.v (.slice none 0 0), ?_,Or.inl ⟨rfl,rfl⟩⟩
  unfold sliceI sliceA
  simp [hu,hs,boundA]
 ·refine ⟨.vs sz (xs.take j) (capOf none xs.length 0 cap), ?_,Or.inr ⟨_,rfl⟩⟩
  have h1 : (0 : Int) ≤ (j : Int) ∧ (j : Int) ≤ (xs.length : Int) := by omega
  unfold sliceI sliceA
  simp [hu,hs,boundA,h1]
theorem SlOf.lenI {sz : Nat} {xs : List AV} {x : AV} (h : SlOf sz xs x) (P : Program) (ts : List TypeId) (r : List AV) : lenI P ts (x :: r) = lenA P { objs := [],lock := 0 } ts (x :: r) := by
 rcases h with ⟨rfl,rfl⟩ | ⟨cap,rfl⟩ <;> rfl
end
end Go.Ev
namespace Go.Ev
open Go.Proofs
def impF : List Nat := [91,141,142,159,163,165,167,184]
def impC : List (Nat × Nat × Nat) := []
def altF : List Nat := [72]
def keepF : Nat → List Nat
 | 2 => []
 | 3 => [0,1,2,4,6,3,36,9,5,10,11,13,12,14,15,17,16,18,19,21,20,22,23,25,24,26,8]
 | 4 => [42,1,3,5,7,9,11,13,15,17,19,21,23,22,0]
 | 5 => [0,1,3,4,7,35,9,11,8,10,63,66,65,67,64,12,14,15,17,13,16,100,19,21,18,20,129,2,22,24,23,26,25,6]
 | 6 => [0,1,3,4,7,31,2,8,9,11,10,63,13,14,76,16,81,12,89,88,90,87,17,19,100,21,110,116,124,20,22,151,15,6]
 | 7 => [0,1,4,5,9,31,2,3,12,10,11,14,16,13,15,90,18,19,103,20,21,22,17,125,8]
 | 8 => [0,1,3,4,7,26,2,9,35,36,37,11,8,13,12,58,10,14,65,66,64,17,15,103,6]
 | 9 => [0,1,4,5,9,40,2,3,10,12,14,11,13,15,17,19,21,23,25,22,24,135,18,138,137,139,136,26,20,28,146,150,149,151,148,30,158,16,31,8]
 | 10 => [0,1,5,6,11,44,13,12,56,2,3,4,16,17,18,19,20,21,22,26,24,15,23,25,27,29,31,14,28,166,169,32,33,35,191,30,34,10]
 | 11 => [0,1,4,5,9,45,2,3,11,13,15,74,10,12,17,97,16,99,19,14,18,23,22,21,20,8]
 | 12 => [0,1,2,4,6,5,9,42,3,10,11,13,15,72,19,88,17,14,12,18,21,20,126,130,129,131,128,23,139,16,8]
 | 13 => [0,1,2,3,4,5,24,23,25,22,9,34,7,11,13,15,17,10,12,96,14,16,6]
 | 14 => [0,1,2,3,4,5,7,34,9,13,11,71,73,8,12,85,84,86,83,14,16,97,98,10,109,123,140,6]
 | 15 => [0,1,9,3,14,24,4,33,46,5,58,74,2]
 | 16 => [0,1,2]
 | 17 => [0,6,3,10,17,2]
 | 18 => [0,4,1,11,6,29,5,3,2]
 | 19 => [0,1,2,3,4,8,17,5,9,23,11,33,12,39,45,51,6,7]
 | 20 => [0,1,2,3,4,8,14,5,18,23,9,29,35,41,6,7]
 | 21 => [0,1,2,6,14,3,7,20,26,25,27,24,8,10,4,5]
 | 22 => [0,1,2,6,20,3,24,11,7,9,13,52,16,14,67,78,12,15,4,5]
 | 23 => [0,1,3,4,8,23,2,9,28,10,36,35,37,34,11,13,45,44,46,43,15,54,53,55,52,18,60,16,6,7]
 | 24 => [0,1,3,4,9,22,2,10,27,12,8,32,14,38,13,54,11,6,7]
 | 25 => [0,4,10,14,13,15,6,24,5,2,3]
 | 26 => [0,4,12,6,17,8,22,7,37,5,2,3]
 | 27 => [0,1,10,5,14,25,4]
 | 28 => [0,1,10,5,14,25,4]
 | 29 => [0,1,2,3,15,5,20,6,7,46,8,51,65,4]
 | 30 => [0,1,10,5,14,25,4]
 | 31 => [3,2,1,4,6,5,8,7,10,9,12,11,14,13,16,15,0]
 | 32 => [0,1,5,12,11,2,3,4,10]
 | 33 => [0,1,2,6]
 | 34 => [0]
 | 35 => [0,1,2,3,4,5,9,21,6,8,25,31,30,32,29,12,56,58,59,10,65,7]
 | 36 => [0]
 | 37 => [0,1,2,3,4,8,15,6,5,10,25,7]
 | 38 => [0,2]
 | 39 => [0,1,2,3,4,5,10,18,6,12,27,7,36,13,11,40,8,9]
 | 40 => [0,1,2,3,6,12,4,5]
 | 41 => [0,1,5,2]
 | 42 => [0,1,2,3,4]
 | 43 => [0,1,2,3,6,11,4,5]
 | 44 => [0,1,5,13,4,16,17,18,6,2,3]
 | 45 => [0,1,2,7,16,4,5,6,20,21,22,8,3,25,9]
 | 46 => [0,1,2,7,14,6,3,19,4,5]
 | 47 => [0,2,7,6,20,4,1,8,9,5]
 | 48 => [0,1,4,6,2]
 | 49 => [0,1,15,14,16,13,5,20,3,2]
 | 50 => [0,2,1,9,8,20,10,29,6,7,4,5]
 | 51 => [0,7,9,11,10,5,14,3,2]
 | 52 => [0,7,9,8,5,4,17,3,2]
 | 53 => [0,1,2,4,3]
 | 54 => [0,2,7,14,1,18,6,4,5]
 | 55 => [1,0,9,8,10,7,6,3,15,4]
 | 56 => [0,1,12,3,17,4,35,5,38,49,6,54,64,7,72,84,2]
 | 57 => [0,1,7,3,12,22,2]
 | 58 => [0,1,3,18,5,23,2,6,34,70,7,75,8,86,96,4]
 | 59 => [0,1,2,3,7,15,4,6,5]
 | 60 => [0,1,2,3,4,9,19,8,5,24,28,27,29,26,11,40,6,7]
 | 61 => [0,1,2,3,9,19,4]
 | 62 => [0,1,2,3,6,5,4]
 | 63 => [0,1,2,5,9,3,4]
 | 64 => [0,7,6,8,5,4,26,2]
 | 65 => [0,1,2,3,4,5,7,6]
 | 66 => [0,1,2,5,9,3,4]
 | 67 => [0,1,2,3,5,8,9,7,13,38,14,45,15,4,12,62,10,11,18,105,107,114,17,16,121,6]
 | 68 => [0,1,4,2]
 | 69 => [0,1,2,10,9,11,5,3,6,4]
 | 70 => [0,1,3,5,2,6,28,27,29,8,40,7,4]
 | 71 => [0,1,5,2]
 | 72 => [0,8,11,5,16,22,4,6,42,50,2,3]
 | 73 => [0,1,10,5,14,25,4]
 | 74 => [0,5,2]
 | 75 => [0,1,2,3,13,12,14,11,7,20,19,21,5,8,4]
 | 76 => [0,1,2,3,6,14,9,8,21,7,4,5]
 | 77 => [0,6,3,10,18,2]
 | 78 => [1,0,3,4]
 | 79 => [0,1,2,7,16,4,5,6,19,20,21,9,3,24,8]
 | 80 => [0,8,7,9,6,5,3,14,2]
 | 81 => [0,1,4]
 | 82 => [0,1,2,3,4]
 | 83 => [0,1,2]
 | 84 => [0,1,2]
 | 85 => [0,1,6,2,3]
 | 86 => [0,1,2]
 | 87 => [0,1,3,2,4]
 | 88 => [0,1,3,2,13,5,27,4]
 | 89 => [3,0,7,19,2]
 | 90 => [0,9,12,11,13,3,24,2]
 | 91 => [0,1,8,9,10,3,5,4,2]
 | 92 => [0,1,2,6]
 | 93 => [0,1,2,3,6,15,17,18,5,32,45,4]
 | 94 => [0,1,4,2,3,11,10,27,33,13,5,42,14,68,71,9,12,80,8]
 | 95 => [0,1,2,7,14,4,6,3,20,5]
 | 96 => [0,1,2,15,14,16,13,5,7,29,30,31,8,10,9,3,4]
 | 97 => [0,1,3,2,28,4,5]
 | 98 => [0,2]
 | 99 => [0,5,2,8,10,11,3,14]
 | 100 => [0,1,4,3,2,21,20,22,19,9,28,27,29,26,7,11,8,10,6]
 | 101 => [0,2,1,5,4]
 | 102 => [1,0,8,7,9,3,5,16,4]
 | 103 => [0,1,5,2]
 | 104 => [1,0,5,3,11,4]
 | 105 => [0,4,11,3,2]
 | 106 => [4,0,8,12,3,2]
 | 107 => [6,0,16,5,7,3,4,8,37,12,53,60,66,9,10,11,91,98,2]
 | 108 => [0,11,10,12,9,3,5,20,27,26,28,25,6,8,2]
 | 109 => [0,1,10,13,12,14,5,24,4]
 | 110 => [0,4,1,11,5,22,6,36,3,2]
 | 111 => [1,0,8,7,9,3,5,16,4]
 | 112 => [0,1,4]
 | 113 => [0,1,5,11,6,12,13,16,19,4]
 | 114 => [0,1,9,8,10,7,6,2,22,4]
 | 115 => [0,1,2,6]
 | 116 => [0,1,11,15,14,16,13,4,3,38,2]
 | 117 => [0,1,8,9,10,4,13,12,14,11,5,3,2,6,24]
 | 118 => [0,1,2]
 | 119 => [1,0,4]
 | 120 => [0,1,9,8,10,7,6,2,22,4]
 | 121 => [0,1,3,2,30,35,36,37,5,7,4]
 | 122 => [0,1,15,14,16,13,6,8,9,5,4]
 | 123 => [1,0,11,10,12,9,7,8,3,24,5,4]
 | 124 => [0,1,12,21,6,34,5,4]
 | 125 => [0,1,4]
 | 126 => [0,2,1,5,4]
 | 127 => [0,12,13,15,1,22,29,5,41,40,42,39,7,49,8,65,64,66,63,10,4]
 | 128 => [0,14,16,15,1,8,21,6,23,5,7,33,36,49,48,50,47,9,10,11,4]
 | 129 => [0,5,6,7,2]
 | 130 => [1,6,0,16,4]
 | 132 => [0,2]
 | 133 => [0,2]
 | 134 => [1,0,3,4]
 | 135 => [0,12,15,14,16,4,25,31,30,32,29,6,37,3,2]
 | 136 => [1,10,9,11,8,4,18,17,19,0,3,5,31]
 | 137 => [0,1,12,11,13,10,2,7,8,5,42,4]
 | 138 => [3,0,9,4,5,38,2]
 | 139 => [0,2]
 | 140 => [0]
 | 141 => [0,2,1,4]
 | 142 => [0,2,1,4]
 | 143 => [0,1,13,4]
 | 144 => [0,1,16,4]
 | 145 => [4,0,9,5,16,2,3]
 | 146 => [0,7,1,12,4]
 | 147 => [0,7,1,15,4]
 | 148 => [0,9,1,5,18,6,4]
 | 149 => [0,9,5,17,1,26,6,4]
 | 150 => [0,1,2,4,3,5,6]
 | 151 => [0]
 | 152 => [1,0,8,9,6,3,7,5,17,4]
 | 153 => [0,1,3,2,4]
 | 154 => [0,1,3,4,10,2,5]
 | 155 => [0,1,7,21]
 | 156 => [0,1,4,5]
 | 157 => [0,2]
 | 158 => [0,5,6,1,32,7,54,4]
 | 159 => [0,1,4]
 | 160 => [0,2,1,3]
 | 161 => [0,1,2,3,4]
 | 162 => [1,3,0,4]
 | 163 => [0,2,4]
 | 164 => [1,0,3,4]
 | 165 => [0,2,1,4]
 | 166 => [1,3,0,4]
 | 167 => [0,2,1,4]
 | 168 => [0,1,4]
 | 169 => [0,10,2,3]
 | 170 => [0,1,4]
 | 171 => [0,4,10,5,2,18,6,27,33,35,3,48]
 | 172 => [1,11,2,14,0,6,25,7,33,3,8,42]
 | 173 => [0,1,4]
 | 174 => [0,1,2,3,4]
 | 175 => [0,1,2,3,4]
 | 176 => [0,1,2,3,9,4]
 | 177 => [0,1,2]
 | 178 => [1,10,9,11,4,2,5,28,27,29,7,32,6,46,0,53]
 | 179 => [0,6,1,4]
 | 180 => [0,6,19]
 | 181 => [0,1,4]
 | 182 => [0,1,17,20,19,21,5,6,31,37,7,8,62,9,10,85,110,4]
 | 183 => [0,13,16,15,17,5,1,6,27,33,7,8,58,9,10,78,95,4]
 | 184 => [0,8,7,9,1,5,16,4]
 | 185 => [0,4,16,5,6,23,7,8,45,10,9,57,59,11,75,77,12,98,2,3]
 | 186 => [1,160,0,171,175,177,176,6,181,5,183,7,8,9,26,33,11,43,12,51,64,10,98,13,108,124,14,15,139,16,143,156,4]
 | 187 => [0,2]
 | 188 => [1,5,0,16,24,31,36,8,9,59,6,64,11,73,7,93,10,107,12,114,132,13,139,4]
 | 191 => [0,1,4]
 | 192 => [0,3,10,2]
 | 193 => [0,2]
 | 195 => [0,1,4]
 | 196 => [1,9,7,20,8,0,5,39,10,44,6,77,4]
 | 198 => [5,0,12,4,8,25,30,6,7,2,3]
 | 226 => []
 | _ => []
def pureF (h g : Nat) (d : Option Nat) : Bool := !(impF.contains g) && !(impC.contains (h,g,d.getD 100000))
structure Exts where
 x : FuncId → Option (List AV → Option AV)
def Exts.more (e : Exts) (f : FuncId) (g : List AV → Option AV) : Exts := { e with x := fun h => if Nat.beq h f then some g else e.x h }
noncomputable def Cx (e : Exts) : Cfg := { P := Tryz.prog,pure := pureF,alter := fun h _ => altF.contains h,keep := keepF,ext := e.x }
def Quiet (e : Exts) : Prop := ∀ f,f ≠ 31 → f ≠ 131 → f ≠ 127 → e.x f = none
@[go_sem] theorem Cx_P (e : Exts) : (Cx e).P = Tryz.prog := rfl
theorem size_3 : sizeT Tryz.prog 3 = some 1 := by kernel_rfl
theorem size_4 : sizeT Tryz.prog 4 = some 1 := by kernel_rfl
theorem size_5 : sizeT Tryz.prog 5 = some 1 := by kernel_rfl
theorem size_9 : sizeT Tryz.prog 9 = some 1 := by kernel_rfl
theorem size_22 : sizeT Tryz.prog 22 = some 1 := by kernel_rfl
theorem size_24 : sizeT Tryz.prog 24 = some 1 := by kernel_rfl
theorem size_26 : sizeT Tryz.prog 26 = some 2 := by kernel_rfl
theorem size_28 : sizeT Tryz.prog 28 = some 3 := by kernel_rfl
theorem size_30 : sizeT Tryz.prog 30 = some 6 := by kernel_rfl
theorem size_36 : sizeT Tryz.prog 36 = some 1 := by kernel_rfl
theorem size_41 : sizeT Tryz.prog 41 = some 1 := by kernel_rfl
theorem size_87 : sizeT Tryz.prog 87 = some 1 := by kernel_rfl
theorem size_110 : sizeT Tryz.prog 110 = some 1 := by kernel_rfl
theorem size_112 : sizeT Tryz.prog 112 = some 2 := by kernel_rfl
theorem size_121 : sizeT Tryz.prog 121 = some 4 := by kernel_rfl
theorem size_140 : sizeT Tryz.prog 140 = some 1 := by kernel_rfl
theorem size_171 : sizeT Tryz.prog 171 = some 1 := by kernel_rfl
theorem size_184 : sizeT Tryz.prog 184 = some 3 := by kernel_rfl
theorem size_215 : sizeT Tryz.prog 215 = some 1 := by kernel_rfl
theorem size_217 : sizeT Tryz.prog 217 = some 1 := by kernel_rfl
theorem size_218 : sizeT Tryz.prog 218 = some 4 := by kernel_rfl
@[go_sem] theorem zero_3 : zeroT Tryz.prog 3 = some (.v (.int .i64 0)) := by kernel_rfl
@[go_sem] theorem zero_4 : zeroT Tryz.prog 4 = some (.v (.bool false)) := by kernel_rfl
@[go_sem] theorem zero_9 : zeroT Tryz.prog 9 = some (.v (.string ⟨#[]⟩)) := by kernel_rfl
@[go_sem] theorem zero_28 : zeroT Tryz.prog 28 = some (.agg [.v (.int .i64 0),.v (.int .i64 0),.v (.int .i64 0)]) := by kernel_rfl
@[go_sem] theorem zero_30 : zeroT Tryz.prog 30 = some (.agg [.v (.int .i64 0),.v (.int .i64 0),.v (.int .i64 0),.v (.string ⟨#[]⟩),.v (.string ⟨#[]⟩),.v (.string ⟨#[]⟩)]) := by kernel_rfl
@[go_sem] theorem zero_36 : zeroT Tryz.prog 36 = some (.v (.int .i64 0)) := by kernel_rfl
@[go_sem] theorem zero_112 : zeroT Tryz.prog 112 = some (.agg [.v (.int .i64 0),.v (.slice none 0 0)]) := by kernel_rfl
@[go_sem] theorem zero_121 : zeroT Tryz.prog 121 = some (.agg [.v (.int .i64 0),.v (.int .u8 0),.v (.slice none 0 0),.v (.slice none 0 0)]) := by kernel_rfl
@[go_sem] theorem zero_140 : zeroT Tryz.prog 140 = some (.agg [.v (.slice none 0 0)]) := by kernel_rfl
@[go_sem] theorem zero_184 : zeroT Tryz.prog 184 = some (.agg [.v (.int .i64 0),.v (.int .i64 0),.v (.int .i64 0)]) := by kernel_rfl
@[go_sem] theorem zero_217 : zeroT Tryz.prog 217 = some (.agg [.v .nilFunc]) := by kernel_rfl
@[go_sem] theorem zero_218 : zeroT Tryz.prog 218 = some (.agg [.v .nilFunc,.v .nilFunc,.v .nilFunc,.v .nilFunc]) := by kernel_rfl
@[go_sem] theorem keep_6 (e : Exts) : (Cx e).keep 6 = [0,1,3,4,7,31,2,8,9,11,10,63,13,14,76,16,81,12,89,88,90,87,17,19,100,21,110,116,124,20,22,151,15,6] := rfl
theorem fn_6 (e : Exts) : (Cx e).P.funcs[6]? = some Tryz.f6 := Tryz.func6
@[go_sem] theorem keep_15 (e : Exts) : (Cx e).keep 15 = [0,1,9,3,14,24,4,33,46,5,58,74,2] := rfl
theorem fn_15 (e : Exts) : (Cx e).P.funcs[15]? = some Tryz.f15 := Tryz.func15
theorem ext_15 {e : Exts} (he : Quiet e) : (Cx e).ext 15 = none := he _ (by decide) (by decide) (by decide)
theorem pure_15 (e : Exts) (h : FuncId) (d : Option Tmp) : (Cx e).pure h 15 d = true := by simp [Cx,pureF,impF,impC]
@[go_sem] theorem keep_37 (e : Exts) : (Cx e).keep 37 = [0,1,2,3,4,8,15,6,5,10,25,7] := rfl
theorem fn_37 (e : Exts) : (Cx e).P.funcs[37]? = some Tryz.f37 := Tryz.func37
theorem ext_37 {e : Exts} (he : Quiet e) : (Cx e).ext 37 = none := he _ (by decide) (by decide) (by decide)
theorem pure_37 (e : Exts) (h : FuncId) (d : Option Tmp) : (Cx e).pure h 37 d = true := by simp [Cx,pureF,impF,impC]
@[go_sem] theorem keep_41 (e : Exts) : (Cx e).keep 41 = [0,1,5,2] := rfl
theorem fn_41 (e : Exts) : (Cx e).P.funcs[41]? = some Tryz.f41 := Tryz.func41
theorem ext_41 {e : Exts} (he : Quiet e) : (Cx e).ext 41 = none := he _ (by decide) (by decide) (by decide)
theorem pure_41 (e : Exts) (h : FuncId) (d : Option Tmp) : (Cx e).pure h 41 d = true := by simp [Cx,pureF,impF,impC]
@[go_sem] theorem keep_42 (e : Exts) : (Cx e).keep 42 = [0,1,2,3,4] := rfl
theorem fn_42 (e : Exts) : (Cx e).P.funcs[42]? = some Tryz.f42 := Tryz.func42
theorem ext_42 {e : Exts} (he : Quiet e) : (Cx e).ext 42 = none := he _ (by decide) (by decide) (by decide)
theorem pure_42 (e : Exts) (h : FuncId) (d : Option Tmp) : (Cx e).pure h 42 d = true := by simp [Cx,pureF,impF,impC]
@[go_sem] theorem keep_44 (e : Exts) : (Cx e).keep 44 = [0,1,5,13,4,16,17,18,6,2,3] := rfl
theorem fn_44 (e : Exts) : (Cx e).P.funcs[44]? = some Tryz.f44 := Tryz.func44
theorem ext_44 {e : Exts} (he : Quiet e) : (Cx e).ext 44 = none := he _ (by decide) (by decide) (by decide)
theorem pure_44 (e : Exts) (h : FuncId) (d : Option Tmp) : (Cx e).pure h 44 d = true := by simp [Cx,pureF,impF,impC]
@[go_sem] theorem keep_45 (e : Exts) : (Cx e).keep 45 = [0,1,2,7,16,4,5,6,20,21,22,8,3,25,9] := rfl
theorem fn_45 (e : Exts) : (Cx e).P.funcs[45]? = some Tryz.f45 := Tryz.func45
theorem ext_45 {e : Exts} (he : Quiet e) : (Cx e).ext 45 = none := he _ (by decide) (by decide) (by decide)
theorem pure_45 (e : Exts) (h : FuncId) (d : Option Tmp) : (Cx e).pure h 45 d = true := by simp [Cx,pureF,impF,impC]
@[go_sem] theorem keep_46 (e : Exts) : (Cx e).keep 46 = [0,1,2,7,14,6,3,19,4,5] := rfl
theorem fn_46 (e : Exts) : (Cx e).P.funcs[46]? = some Tryz.f46 := Tryz.func46
theorem ext_46 {e : Exts} (he : Quiet e) : (Cx e).ext 46 = none := he _ (by decide) (by decide) (by decide)
theorem pure_46 (e : Exts) (h : FuncId) (d : Option Tmp) : (Cx e).pure h 46 d = true := by simp [Cx,pureF,impF,impC]
@[go_sem] theorem keep_47 (e : Exts) : (Cx e).keep 47 = [0,2,7,6,20,4,1,8,9,5] := rfl
theorem fn_47 (e : Exts) : (Cx e).P.funcs[47]? = some Tryz.f47 := Tryz.func47
theorem ext_47 {e : Exts} (he : Quiet e) : (Cx e).ext 47 = none := he _ (by decide) (by decide) (by decide)
theorem pure_47 (e : Exts) (h : FuncId) (d : Option Tmp) : (Cx e).pure h 47 d = true := by simp [Cx,pureF,impF,impC]
@[go_sem] theorem keep_48 (e : Exts) : (Cx e).keep 48 = [0,1,4,6,2] := rfl
theorem fn_48 (e : Exts) : (Cx e).P.funcs[48]? = some Tryz.f48 := Tryz.func48
theorem ext_48 {e : Exts} (he : Quiet e) : (Cx e).ext 48 = none := he _ (by decide) (by decide) (by decide)
theorem pure_48 (e : Exts) (h : FuncId) (d : Option Tmp) : (Cx e).pure h 48 d = true := by simp [Cx,pureF,impF,impC]
@[go_sem] theorem keep_49 (e : Exts) : (Cx e).keep 49 = [0,1,15,14,16,13,5,20,3,2] := rfl
@[go_sem] theorem alter_49 (e : Exts) (d : Option Tmp) : (Cx e).alter 49 d = false := rfl
theorem fn_49 (e : Exts) : (Cx e).P.funcs[49]? = some Tryz.f49 := Tryz.func49
theorem ext_49 {e : Exts} (he : Quiet e) : (Cx e).ext 49 = none := he _ (by decide) (by decide) (by decide)
theorem pure_49 (e : Exts) (h : FuncId) (d : Option Tmp) : (Cx e).pure h 49 d = true := by simp [Cx,pureF,impF,impC]
@[go_sem] theorem keep_50 (e : Exts) : (Cx e).keep 50 = [0,2,1,9,8,20,10,29,6,7,4,5] := rfl
@[go_sem] theorem alter_50 (e : Exts) (d : Option Tmp) : (Cx e).alter 50 d = false := rfl
theorem fn_50 (e : Exts) : (Cx e).P.funcs[50]? = some Tryz.f50 := Tryz.func50
theorem ext_50 {e : Exts} (he : Quiet e) : (Cx e).ext 50 = none := he _ (by decide) (by decide) (by decide)
theorem pure_50 (e : Exts) (h : FuncId) (d : Option Tmp) : (Cx e).pure h 50 d = true := by simp [Cx,pureF,impF,impC]
@[go_sem] theorem keep_56 (e : Exts) : (Cx e).keep 56 = [0,1,12,3,17,4,35,5,38,49,6,54,64,7,72,84,2] := rfl
theorem fn_56 (e : Exts) : (Cx e).P.funcs[56]? = some Tryz.f56 := Tryz.func56
theorem ext_56 {e : Exts} (he : Quiet e) : (Cx e).ext 56 = none := he _ (by decide) (by decide) (by decide)
theorem pure_56 (e : Exts) (h : FuncId) (d : Option Tmp) : (Cx e).pure h 56 d = true := by simp [Cx,pureF,impF,impC]
@[go_sem] theorem keep_62 (e : Exts) : (Cx e).keep 62 = [0,1,2,3,6,5,4] := rfl
theorem fn_62 (e : Exts) : (Cx e).P.funcs[62]? = some Tryz.f62 := Tryz.func62
theorem ext_62 {e : Exts} (he : Quiet e) : (Cx e).ext 62 = none := he _ (by decide) (by decide) (by decide)
theorem pure_62 (e : Exts) (h : FuncId) (d : Option Tmp) : (Cx e).pure h 62 d = true := by simp [Cx,pureF,impF,impC]
@[go_sem] theorem keep_63 (e : Exts) : (Cx e).keep 63 = [0,1,2,5,9,3,4] := rfl
theorem fn_63 (e : Exts) : (Cx e).P.funcs[63]? = some Tryz.f63 := Tryz.func63
theorem ext_63 {e : Exts} (he : Quiet e) : (Cx e).ext 63 = none := he _ (by decide) (by decide) (by decide)
theorem pure_63 (e : Exts) (h : FuncId) (d : Option Tmp) : (Cx e).pure h 63 d = true := by simp [Cx,pureF,impF,impC]
@[go_sem] theorem keep_65 (e : Exts) : (Cx e).keep 65 = [0,1,2,3,4,5,7,6] := rfl
theorem fn_65 (e : Exts) : (Cx e).P.funcs[65]? = some Tryz.f65 := Tryz.func65
theorem ext_65 {e : Exts} (he : Quiet e) : (Cx e).ext 65 = none := he _ (by decide) (by decide) (by decide)
theorem pure_65 (e : Exts) (h : FuncId) (d : Option Tmp) : (Cx e).pure h 65 d = true := by simp [Cx,pureF,impF,impC]
@[go_sem] theorem keep_68 (e : Exts) : (Cx e).keep 68 = [0,1,4,2] := rfl
theorem fn_68 (e : Exts) : (Cx e).P.funcs[68]? = some Tryz.f68 := Tryz.func68
theorem ext_68 {e : Exts} (he : Quiet e) : (Cx e).ext 68 = none := he _ (by decide) (by decide) (by decide)
theorem pure_68 (e : Exts) (h : FuncId) (d : Option Tmp) : (Cx e).pure h 68 d = true := by simp [Cx,pureF,impF,impC]
@[go_sem] theorem keep_72 (e : Exts) : (Cx e).keep 72 = [0,8,11,5,16,22,4,6,42,50,2,3] := rfl
@[go_sem] theorem alter_72 (e : Exts) (d : Option Tmp) : (Cx e).alter 72 d = true := rfl
theorem fn_72 (e : Exts) : (Cx e).P.funcs[72]? = some Tryz.f72 := Tryz.func72
theorem ext_72 {e : Exts} (he : Quiet e) : (Cx e).ext 72 = none := he _ (by decide) (by decide) (by decide)
theorem pure_72 (e : Exts) (h : FuncId) (d : Option Tmp) : (Cx e).pure h 72 d = true := by simp [Cx,pureF,impF,impC]
@[go_sem] theorem keep_83 (e : Exts) : (Cx e).keep 83 = [0,1,2] := rfl
@[go_sem] theorem alter_83 (e : Exts) (d : Option Tmp) : (Cx e).alter 83 d = false := rfl
theorem fn_83 (e : Exts) : (Cx e).P.funcs[83]? = some Tryz.f83 := Tryz.func83
theorem ext_83 {e : Exts} (he : Quiet e) : (Cx e).ext 83 = none := he _ (by decide) (by decide) (by decide)
theorem pure_83 (e : Exts) (h : FuncId) (d : Option Tmp) : (Cx e).pure h 83 d = true := by simp [Cx,pureF,impF,impC]
@[go_sem] theorem keep_84 (e : Exts) : (Cx e).keep 84 = [0,1,2] := rfl
theorem fn_84 (e : Exts) : (Cx e).P.funcs[84]? = some Tryz.f84 := Tryz.func84
theorem ext_84 {e : Exts} (he : Quiet e) : (Cx e).ext 84 = none := he _ (by decide) (by decide) (by decide)
theorem pure_84 (e : Exts) (h : FuncId) (d : Option Tmp) : (Cx e).pure h 84 d = true := by simp [Cx,pureF,impF,impC]
@[go_sem] theorem keep_85 (e : Exts) : (Cx e).keep 85 = [0,1,6,2,3] := rfl
theorem fn_85 (e : Exts) : (Cx e).P.funcs[85]? = some Tryz.f85 := Tryz.func85
theorem ext_85 {e : Exts} (he : Quiet e) : (Cx e).ext 85 = none := he _ (by decide) (by decide) (by decide)
theorem pure_85 (e : Exts) (h : FuncId) (d : Option Tmp) : (Cx e).pure h 85 d = true := by simp [Cx,pureF,impF,impC]
@[go_sem] theorem keep_86 (e : Exts) : (Cx e).keep 86 = [0,1,2] := rfl
theorem fn_86 (e : Exts) : (Cx e).P.funcs[86]? = some Tryz.f86 := Tryz.func86
theorem ext_86 {e : Exts} (he : Quiet e) : (Cx e).ext 86 = none := he _ (by decide) (by decide) (by decide)
theorem pure_86 (e : Exts) (h : FuncId) (d : Option Tmp) : (Cx e).pure h 86 d = true := by simp [Cx,pureF,impF,impC]
@[go_sem] theorem keep_87 (e : Exts) : (Cx e).keep 87 = [0,1,3,2,4] := rfl
theorem fn_87 (e : Exts) : (Cx e).P.funcs[87]? = some Tryz.f87 := Tryz.func87
theorem ext_87 {e : Exts} (he : Quiet e) : (Cx e).ext 87 = none := he _ (by decide) (by decide) (by decide)
theorem pure_87 (e : Exts) (h : FuncId) (d : Option Tmp) : (Cx e).pure h 87 d = true := by simp [Cx,pureF,impF,impC]
@[go_sem] theorem keep_88 (e : Exts) : (Cx e).keep 88 = [0,1,3,2,13,5,27,4] := rfl
theorem fn_88 (e : Exts) : (Cx e).P.funcs[88]? = some Tryz.f88 := Tryz.func88
theorem ext_88 {e : Exts} (he : Quiet e) : (Cx e).ext 88 = none := he _ (by decide) (by decide) (by decide)
theorem pure_88 (e : Exts) (h : FuncId) (d : Option Tmp) : (Cx e).pure h 88 d = true := by simp [Cx,pureF,impF,impC]
@[go_sem] theorem keep_89 (e : Exts) : (Cx e).keep 89 = [3,0,7,19,2] := rfl
theorem fn_89 (e : Exts) : (Cx e).P.funcs[89]? = some Tryz.f89 := Tryz.func89
theorem ext_89 {e : Exts} (he : Quiet e) : (Cx e).ext 89 = none := he _ (by decide) (by decide) (by decide)
theorem pure_89 (e : Exts) (h : FuncId) (d : Option Tmp) : (Cx e).pure h 89 d = true := by simp [Cx,pureF,impF,impC]
@[go_sem] theorem keep_90 (e : Exts) : (Cx e).keep 90 = [0,9,12,11,13,3,24,2] := rfl
@[go_sem] theorem alter_90 (e : Exts) (d : Option Tmp) : (Cx e).alter 90 d = false := rfl
theorem fn_90 (e : Exts) : (Cx e).P.funcs[90]? = some Tryz.f90 := Tryz.func90
theorem ext_90 {e : Exts} (he : Quiet e) : (Cx e).ext 90 = none := he _ (by decide) (by decide) (by decide)
theorem pure_90 (e : Exts) (h : FuncId) (d : Option Tmp) : (Cx e).pure h 90 d = true := by simp [Cx,pureF,impF,impC]
@[go_sem] theorem keep_92 (e : Exts) : (Cx e).keep 92 = [0,1,2,6] := rfl
theorem fn_92 (e : Exts) : (Cx e).P.funcs[92]? = some Tryz.f92 := Tryz.func92
theorem ext_92 {e : Exts} (he : Quiet e) : (Cx e).ext 92 = none := he _ (by decide) (by decide) (by decide)
theorem pure_92 (e : Exts) (h : FuncId) (d : Option Tmp) : (Cx e).pure h 92 d = true := by simp [Cx,pureF,impF,impC]
@[go_sem] theorem keep_97 (e : Exts) : (Cx e).keep 97 = [0,1,3,2,28,4,5] := rfl
theorem fn_97 (e : Exts) : (Cx e).P.funcs[97]? = some Tryz.f97 := Tryz.func97
theorem ext_97 {e : Exts} (he : Quiet e) : (Cx e).ext 97 = none := he _ (by decide) (by decide) (by decide)
theorem pure_97 (e : Exts) (h : FuncId) (d : Option Tmp) : (Cx e).pure h 97 d = true := by simp [Cx,pureF,impF,impC]
@[go_sem] theorem keep_100 (e : Exts) : (Cx e).keep 100 = [0,1,4,3,2,21,20,22,19,9,28,27,29,26,7,11,8,10,6] := rfl
@[go_sem] theorem alter_100 (e : Exts) (d : Option Tmp) : (Cx e).alter 100 d = false := rfl
theorem fn_100 (e : Exts) : (Cx e).P.funcs[100]? = some Tryz.f100 := Tryz.func100
theorem ext_100 {e : Exts} (he : Quiet e) : (Cx e).ext 100 = none := he _ (by decide) (by decide) (by decide)
theorem pure_100 (e : Exts) (h : FuncId) (d : Option Tmp) : (Cx e).pure h 100 d = true := by simp [Cx,pureF,impF,impC]
@[go_sem] theorem keep_101 (e : Exts) : (Cx e).keep 101 = [0,2,1,5,4] := rfl
theorem fn_101 (e : Exts) : (Cx e).P.funcs[101]? = some Tryz.f101 := Tryz.func101
theorem ext_101 {e : Exts} (he : Quiet e) : (Cx e).ext 101 = none := he _ (by decide) (by decide) (by decide)
theorem pure_101 (e : Exts) (h : FuncId) (d : Option Tmp) : (Cx e).pure h 101 d = true := by simp [Cx,pureF,impF,impC]
@[go_sem] theorem keep_102 (e : Exts) : (Cx e).keep 102 = [1,0,8,7,9,3,5,16,4] := rfl
theorem fn_102 (e : Exts) : (Cx e).P.funcs[102]? = some Tryz.f102 := Tryz.func102
theorem ext_102 {e : Exts} (he : Quiet e) : (Cx e).ext 102 = none := he _ (by decide) (by decide) (by decide)
theorem pure_102 (e : Exts) (h : FuncId) (d : Option Tmp) : (Cx e).pure h 102 d = true := by simp [Cx,pureF,impF,impC]
@[go_sem] theorem keep_114 (e : Exts) : (Cx e).keep 114 = [0,1,9,8,10,7,6,2,22,4] := rfl
theorem fn_114 (e : Exts) : (Cx e).P.funcs[114]? = some Tryz.f114 := Tryz.func114
theorem ext_114 {e : Exts} (he : Quiet e) : (Cx e).ext 114 = none := he _ (by decide) (by decide) (by decide)
theorem pure_114 (e : Exts) (h : FuncId) (d : Option Tmp) : (Cx e).pure h 114 d = true := by simp [Cx,pureF,impF,impC]
@[go_sem] theorem keep_115 (e : Exts) : (Cx e).keep 115 = [0,1,2,6] := rfl
theorem fn_115 (e : Exts) : (Cx e).P.funcs[115]? = some Tryz.f115 := Tryz.func115
theorem ext_115 {e : Exts} (he : Quiet e) : (Cx e).ext 115 = none := he _ (by decide) (by decide) (by decide)
theorem pure_115 (e : Exts) (h : FuncId) (d : Option Tmp) : (Cx e).pure h 115 d = true := by simp [Cx,pureF,impF,impC]
@[go_sem] theorem keep_116 (e : Exts) : (Cx e).keep 116 = [0,1,11,15,14,16,13,4,3,38,2] := rfl
@[go_sem] theorem alter_116 (e : Exts) (d : Option Tmp) : (Cx e).alter 116 d = false := rfl
theorem fn_116 (e : Exts) : (Cx e).P.funcs[116]? = some Tryz.f116 := Tryz.func116
theorem ext_116 {e : Exts} (he : Quiet e) : (Cx e).ext 116 = none := he _ (by decide) (by decide) (by decide)
theorem pure_116 (e : Exts) (h : FuncId) (d : Option Tmp) : (Cx e).pure h 116 d = true := by simp [Cx,pureF,impF,impC]
@[go_sem] theorem keep_117 (e : Exts) : (Cx e).keep 117 = [0,1,8,9,10,4,13,12,14,11,5,3,2,6,24] := rfl
theorem fn_117 (e : Exts) : (Cx e).P.funcs[117]? = some Tryz.f117 := Tryz.func117
@[go_sem] theorem keep_118 (e : Exts) : (Cx e).keep 118 = [0,1,2] := rfl
theorem fn_118 (e : Exts) : (Cx e).P.funcs[118]? = some Tryz.f118 := Tryz.func118
theorem ext_118 {e : Exts} (he : Quiet e) : (Cx e).ext 118 = none := he _ (by decide) (by decide) (by decide)
theorem pure_118 (e : Exts) (h : FuncId) (d : Option Tmp) : (Cx e).pure h 118 d = true := by simp [Cx,pureF,impF,impC]
@[go_sem] theorem keep_119 (e : Exts) : (Cx e).keep 119 = [1,0,4] := rfl
@[go_sem] theorem alter_119 (e : Exts) (d : Option Tmp) : (Cx e).alter 119 d = false := rfl
theorem fn_119 (e : Exts) : (Cx e).P.funcs[119]? = some Tryz.f119 := Tryz.func119
theorem ext_119 {e : Exts} (he : Quiet e) : (Cx e).ext 119 = none := he _ (by decide) (by decide) (by decide)
theorem pure_119 (e : Exts) (h : FuncId) (d : Option Tmp) : (Cx e).pure h 119 d = true := by simp [Cx,pureF,impF,impC]
@[go_sem] theorem keep_120 (e : Exts) : (Cx e).keep 120 = [0,1,9,8,10,7,6,2,22,4] := rfl
theorem fn_120 (e : Exts) : (Cx e).P.funcs[120]? = some Tryz.f120 := Tryz.func120
theorem ext_120 {e : Exts} (he : Quiet e) : (Cx e).ext 120 = none := he _ (by decide) (by decide) (by decide)
theorem pure_120 (e : Exts) (h : FuncId) (d : Option Tmp) : (Cx e).pure h 120 d = true := by simp [Cx,pureF,impF,impC]
@[go_sem] theorem keep_126 (e : Exts) : (Cx e).keep 126 = [0,2,1,5,4] := rfl
theorem fn_126 (e : Exts) : (Cx e).P.funcs[126]? = some Tryz.f126 := Tryz.func126
theorem ext_126 {e : Exts} (he : Quiet e) : (Cx e).ext 126 = none := he _ (by decide) (by decide) (by decide)
theorem pure_126 (e : Exts) (h : FuncId) (d : Option Tmp) : (Cx e).pure h 126 d = true := by simp [Cx,pureF,impF,impC]
@[go_sem] theorem keep_133 (e : Exts) : (Cx e).keep 133 = [0,2] := rfl
@[go_sem] theorem alter_133 (e : Exts) (d : Option Tmp) : (Cx e).alter 133 d = false := rfl
theorem fn_133 (e : Exts) : (Cx e).P.funcs[133]? = some Tryz.f133 := Tryz.func133
theorem ext_133 {e : Exts} (he : Quiet e) : (Cx e).ext 133 = none := he _ (by decide) (by decide) (by decide)
theorem pure_133 (e : Exts) (h : FuncId) (d : Option Tmp) : (Cx e).pure h 133 d = true := by simp [Cx,pureF,impF,impC]
@[go_sem] theorem keep_134 (e : Exts) : (Cx e).keep 134 = [1,0,3,4] := rfl
theorem fn_134 (e : Exts) : (Cx e).P.funcs[134]? = some Tryz.f134 := Tryz.func134
theorem ext_134 {e : Exts} (he : Quiet e) : (Cx e).ext 134 = none := he _ (by decide) (by decide) (by decide)
theorem pure_134 (e : Exts) (h : FuncId) (d : Option Tmp) : (Cx e).pure h 134 d = true := by simp [Cx,pureF,impF,impC]
@[go_sem] theorem keep_135 (e : Exts) : (Cx e).keep 135 = [0,12,15,14,16,4,25,31,30,32,29,6,37,3,2] := rfl
@[go_sem] theorem alter_135 (e : Exts) (d : Option Tmp) : (Cx e).alter 135 d = false := rfl
theorem fn_135 (e : Exts) : (Cx e).P.funcs[135]? = some Tryz.f135 := Tryz.func135
theorem ext_135 {e : Exts} (he : Quiet e) : (Cx e).ext 135 = none := he _ (by decide) (by decide) (by decide)
theorem pure_135 (e : Exts) (h : FuncId) (d : Option Tmp) : (Cx e).pure h 135 d = true := by simp [Cx,pureF,impF,impC]
@[go_sem] theorem keep_136 (e : Exts) : (Cx e).keep 136 = [1,10,9,11,8,4,18,17,19,0,3,5,31] := rfl
theorem fn_136 (e : Exts) : (Cx e).P.funcs[136]? = some Tryz.f136 := Tryz.func136
@[go_sem] theorem keep_139 (e : Exts) : (Cx e).keep 139 = [0,2] := rfl
theorem fn_139 (e : Exts) : (Cx e).P.funcs[139]? = some Tryz.f139 := Tryz.func139
theorem ext_139 {e : Exts} (he : Quiet e) : (Cx e).ext 139 = none := he _ (by decide) (by decide) (by decide)
theorem pure_139 (e : Exts) (h : FuncId) (d : Option Tmp) : (Cx e).pure h 139 d = true := by simp [Cx,pureF,impF,impC]
@[go_sem] theorem keep_151 (e : Exts) : (Cx e).keep 151 = [0] := rfl
theorem fn_151 (e : Exts) : (Cx e).P.funcs[151]? = some Tryz.f151 := Tryz.func151
theorem ext_151 {e : Exts} (he : Quiet e) : (Cx e).ext 151 = none := he _ (by decide) (by decide) (by decide)
theorem pure_151 (e : Exts) (h : FuncId) (d : Option Tmp) : (Cx e).pure h 151 d = true := by simp [Cx,pureF,impF,impC]
@[go_sem] theorem keep_152 (e : Exts) : (Cx e).keep 152 = [1,0,8,9,6,3,7,5,17,4] := rfl
theorem fn_152 (e : Exts) : (Cx e).P.funcs[152]? = some Tryz.f152 := Tryz.func152
theorem ext_152 {e : Exts} (he : Quiet e) : (Cx e).ext 152 = none := he _ (by decide) (by decide) (by decide)
theorem pure_152 (e : Exts) (h : FuncId) (d : Option Tmp) : (Cx e).pure h 152 d = true := by simp [Cx,pureF,impF,impC]
@[go_sem] theorem keep_153 (e : Exts) : (Cx e).keep 153 = [0,1,3,2,4] := rfl
theorem fn_153 (e : Exts) : (Cx e).P.funcs[153]? = some Tryz.f153 := Tryz.func153
theorem ext_153 {e : Exts} (he : Quiet e) : (Cx e).ext 153 = none := he _ (by decide) (by decide) (by decide)
theorem pure_153 (e : Exts) (h : FuncId) (d : Option Tmp) : (Cx e).pure h 153 d = true := by simp [Cx,pureF,impF,impC]
@[go_sem] theorem keep_154 (e : Exts) : (Cx e).keep 154 = [0,1,3,4,10,2,5] := rfl
theorem fn_154 (e : Exts) : (Cx e).P.funcs[154]? = some Tryz.f154 := Tryz.func154
theorem ext_154 {e : Exts} (he : Quiet e) : (Cx e).ext 154 = none := he _ (by decide) (by decide) (by decide)
theorem pure_154 (e : Exts) (h : FuncId) (d : Option Tmp) : (Cx e).pure h 154 d = true := by simp [Cx,pureF,impF,impC]
@[go_sem] theorem keep_159 (e : Exts) : (Cx e).keep 159 = [0,1,4] := rfl
theorem fn_159 (e : Exts) : (Cx e).P.funcs[159]? = some Tryz.f159 := Tryz.func159
theorem ext_159 {e : Exts} (he : Quiet e) : (Cx e).ext 159 = none := he _ (by decide) (by decide) (by decide)
@[go_sem] theorem keep_160 (e : Exts) : (Cx e).keep 160 = [0,2,1,3] := rfl
theorem fn_160 (e : Exts) : (Cx e).P.funcs[160]? = some Tryz.f160 := Tryz.func160
theorem ext_160 {e : Exts} (he : Quiet e) : (Cx e).ext 160 = none := he _ (by decide) (by decide) (by decide)
theorem pure_160 (e : Exts) (h : FuncId) (d : Option Tmp) : (Cx e).pure h 160 d = true := by simp [Cx,pureF,impF,impC]
@[go_sem] theorem keep_174 (e : Exts) : (Cx e).keep 174 = [0,1,2,3,4] := rfl
theorem fn_174 (e : Exts) : (Cx e).P.funcs[174]? = some Tryz.f174 := Tryz.func174
theorem ext_174 {e : Exts} (he : Quiet e) : (Cx e).ext 174 = none := he _ (by decide) (by decide) (by decide)
theorem pure_174 (e : Exts) (h : FuncId) (d : Option Tmp) : (Cx e).pure h 174 d = true := by simp [Cx,pureF,impF,impC]
@[go_sem] theorem keep_175 (e : Exts) : (Cx e).keep 175 = [0,1,2,3,4] := rfl
theorem fn_175 (e : Exts) : (Cx e).P.funcs[175]? = some Tryz.f175 := Tryz.func175
theorem ext_175 {e : Exts} (he : Quiet e) : (Cx e).ext 175 = none := he _ (by decide) (by decide) (by decide)
theorem pure_175 (e : Exts) (h : FuncId) (d : Option Tmp) : (Cx e).pure h 175 d = true := by simp [Cx,pureF,impF,impC]
@[go_sem] theorem keep_176 (e : Exts) : (Cx e).keep 176 = [0,1,2,3,9,4] := rfl
theorem fn_176 (e : Exts) : (Cx e).P.funcs[176]? = some Tryz.f176 := Tryz.func176
theorem ext_176 {e : Exts} (he : Quiet e) : (Cx e).ext 176 = none := he _ (by decide) (by decide) (by decide)
theorem pure_176 (e : Exts) (h : FuncId) (d : Option Tmp) : (Cx e).pure h 176 d = true := by simp [Cx,pureF,impF,impC]
@[go_sem] theorem keep_177 (e : Exts) : (Cx e).keep 177 = [0,1,2] := rfl
theorem fn_177 (e : Exts) : (Cx e).P.funcs[177]? = some Tryz.f177 := Tryz.func177
theorem ext_177 {e : Exts} (he : Quiet e) : (Cx e).ext 177 = none := he _ (by decide) (by decide) (by decide)
theorem pure_177 (e : Exts) (h : FuncId) (d : Option Tmp) : (Cx e).pure h 177 d = true := by simp [Cx,pureF,impF,impC]
@[go_sem] theorem keep_178 (e : Exts) : (Cx e).keep 178 = [1,10,9,11,4,2,5,28,27,29,7,32,6,46,0,53] := rfl
theorem fn_178 (e : Exts) : (Cx e).P.funcs[178]? = some Tryz.f178 := Tryz.func178
@[go_sem] theorem keep_179 (e : Exts) : (Cx e).keep 179 = [0,6,1,4] := rfl
theorem fn_179 (e : Exts) : (Cx e).P.funcs[179]? = some Tryz.f179 := Tryz.func179
theorem ext_179 {e : Exts} (he : Quiet e) : (Cx e).ext 179 = none := he _ (by decide) (by decide) (by decide)
theorem pure_179 (e : Exts) (h : FuncId) (d : Option Tmp) : (Cx e).pure h 179 d = true := by simp [Cx,pureF,impF,impC]
@[go_sem] theorem keep_184 (e : Exts) : (Cx e).keep 184 = [0,8,7,9,1,5,16,4] := rfl
theorem fn_184 (e : Exts) : (Cx e).P.funcs[184]? = some Tryz.f184 := Tryz.func184
theorem ext_184 {e : Exts} (he : Quiet e) : (Cx e).ext 184 = none := he _ (by decide) (by decide) (by decide)
theorem isagg_3 : isAggT Tryz.prog 3 = some false := by kernel_rfl
@[go_sem] theorem part_3 (cs : List AV) (k : Nat) : partOf Tryz.prog 3 cs k = cs[k]? := partOf_one cs k isagg_3 size_3
@[go_sem] theorem store_3 (H : Heap) (b v k : Nat) (x : AV) : storeA Tryz.prog H 3 (.ptr b v k) x = if x.cells.length = 1 then storeCells H b v k x.cells else none := by unfold storeA;rw [size_3]
theorem isagg_4 : isAggT Tryz.prog 4 = some false := by kernel_rfl
@[go_sem] theorem part_4 (cs : List AV) (k : Nat) : partOf Tryz.prog 4 cs k = cs[k]? := partOf_one cs k isagg_4 size_4
@[go_sem] theorem store_4 (H : Heap) (b v k : Nat) (x : AV) : storeA Tryz.prog H 4 (.ptr b v k) x = if x.cells.length = 1 then storeCells H b v k x.cells else none := by unfold storeA;rw [size_4]
theorem isagg_5 : isAggT Tryz.prog 5 = some false := by kernel_rfl
@[go_sem] theorem part_5 (cs : List AV) (k : Nat) : partOf Tryz.prog 5 cs k = cs[k]? := partOf_one cs k isagg_5 size_5
theorem isagg_9 : isAggT Tryz.prog 9 = some false := by kernel_rfl
@[go_sem] theorem part_9 (cs : List AV) (k : Nat) : partOf Tryz.prog 9 cs k = cs[k]? := partOf_one cs k isagg_9 size_9
@[go_sem] theorem store_9 (H : Heap) (b v k : Nat) (x : AV) : storeA Tryz.prog H 9 (.ptr b v k) x = if x.cells.length = 1 then storeCells H b v k x.cells else none := by unfold storeA;rw [size_9]
theorem und_9 : Tryz.prog.underlying 9 = some .string := by kernel_rfl
@[go_sem] theorem len_9 (H : Heap) (s : ByteArray) : lenA Tryz.prog H [9] [.v (.string s)] = some (.v (.int .i64 s.size)) := len_str und_9 H s []
@[go_sem] theorem idx_9 (s : ByteArray) (k : IntKind) (n : Int) : indexA Tryz.prog 9 (.v (.string s)) (.v (.int k n)) = if 0 ≤ n then (strAt s n.toNat).map fun b => .v (.int .u8 b.toNat) else none := index_str und_9 s k n
theorem isagg_22 : isAggT Tryz.prog 22 = some false := by kernel_rfl
@[go_sem] theorem part_22 (cs : List AV) (k : Nat) : partOf Tryz.prog 22 cs k = cs[k]? := partOf_one cs k isagg_22 size_22
theorem und_22 : Tryz.prog.underlying 22 = some (.slice 112) := by kernel_rfl
@[go_sem] theorem len_22 (H : Heap) (x : AV) : lenA Tryz.prog H [22] [x] = slLen x := len_sl und_22 H x
@[go_sem] theorem idx_22 (x y : AV) : indexAddrA Tryz.prog 22 x y = slIdx 2 x y := idx_sl und_22 size_112 x y
theorem isagg_24 : isAggT Tryz.prog 24 = some true := by kernel_rfl
@[go_sem] theorem part_24 (cs : List AV) (k : Nat) : partOf Tryz.prog 24 cs k = if k + 1 ≤ cs.length then some (.agg ((cs.drop k).take 1)) else none := partOf_agg cs k isagg_24 size_24
theorem foff_24_0 : fieldOff Tryz.prog 24 0 = some (0,1) := by kernel_rfl
@[go_sem] theorem fptr_24_0 (b v k : Nat) : fieldAddrA Tryz.prog 24 (.ptr b v k) 0 = some (.ptr b v (k + 0)) := fieldAddr_ptr foff_24_0 b v k
@[go_sem] theorem fro_24_0 (z : AV) (k : Nat) : fieldAddrA Tryz.prog 24 (.ro z k) 0 = some (.ro z (k + 0)) := fieldAddr_ro foff_24_0 z k
theorem isagg_26 : isAggT Tryz.prog 26 = some true := by kernel_rfl
@[go_sem] theorem part_26 (cs : List AV) (k : Nat) : partOf Tryz.prog 26 cs k = if k + 2 ≤ cs.length then some (.agg ((cs.drop k).take 2)) else none := partOf_agg cs k isagg_26 size_26
theorem foff_26_0 : fieldOff Tryz.prog 26 0 = some (0,1) := by kernel_rfl
@[go_sem] theorem fptr_26_0 (b v k : Nat) : fieldAddrA Tryz.prog 26 (.ptr b v k) 0 = some (.ptr b v (k + 0)) := fieldAddr_ptr foff_26_0 b v k
@[go_sem] theorem fro_26_0 (z : AV) (k : Nat) : fieldAddrA Tryz.prog 26 (.ro z k) 0 = some (.ro z (k + 0)) := fieldAddr_ro foff_26_0 z k
theorem foff_26_1 : fieldOff Tryz.prog 26 1 = some (1,1) := by kernel_rfl
@[go_sem] theorem fptr_26_1 (b v k : Nat) : fieldAddrA Tryz.prog 26 (.ptr b v k) 1 = some (.ptr b v (k + 1)) := fieldAddr_ptr foff_26_1 b v k
theorem isagg_28 : isAggT Tryz.prog 28 = some true := by kernel_rfl
@[go_sem] theorem part_28 (cs : List AV) (k : Nat) : partOf Tryz.prog 28 cs k = if k + 3 ≤ cs.length then some (.agg ((cs.drop k).take 3)) else none := partOf_agg cs k isagg_28 size_28
@[go_sem] theorem store_28 (H : Heap) (b v k : Nat) (x : AV) : storeA Tryz.prog H 28 (.ptr b v k) x = if x.cells.length = 3 then storeCells H b v k x.cells else none := by unfold storeA;rw [size_28]
theorem foff_28_0 : fieldOff Tryz.prog 28 0 = some (0,1) := by kernel_rfl
@[go_sem] theorem fptr_28_0 (b v k : Nat) : fieldAddrA Tryz.prog 28 (.ptr b v k) 0 = some (.ptr b v (k + 0)) := fieldAddr_ptr foff_28_0 b v k
theorem foff_28_1 : fieldOff Tryz.prog 28 1 = some (1,1) := by kernel_rfl
@[go_sem] theorem fptr_28_1 (b v k : Nat) : fieldAddrA Tryz.prog 28 (.ptr b v k) 1 = some (.ptr b v (k + 1)) := fieldAddr_ptr foff_28_1 b v k
theorem foff_28_2 : fieldOff Tryz.prog 28 2 = some (2,1) := by kernel_rfl
@[go_sem] theorem fptr_28_2 (b v k : Nat) : fieldAddrA Tryz.prog 28 (.ptr b v k) 2 = some (.ptr b v (k + 2)) := fieldAddr_ptr foff_28_2 b v k
@[go_sem] theorem build_28 (ps : List (Nat × AV)) : buildA Tryz.prog 28 ps = (fillA (fun i => ([(0,1),(1,1),(2,1)] : List (Nat × Nat))[i]?) [.v (.int .i64 0),.v (.int .i64 0),.v (.int .i64 0)] ps).map .agg := by kernel_rfl
theorem isagg_30 : isAggT Tryz.prog 30 = some true := by kernel_rfl
@[go_sem] theorem part_30 (cs : List AV) (k : Nat) : partOf Tryz.prog 30 cs k = if k + 6 ≤ cs.length then some (.agg ((cs.drop k).take 6)) else none := partOf_agg cs k isagg_30 size_30
@[go_sem] theorem store_30 (H : Heap) (b v k : Nat) (x : AV) : storeA Tryz.prog H 30 (.ptr b v k) x = if x.cells.length = 6 then storeCells H b v k x.cells else none := by unfold storeA;rw [size_30]
theorem foff_30_1 : fieldOff Tryz.prog 30 1 = some (3,1) := by kernel_rfl
@[go_sem] theorem fptr_30_1 (b v k : Nat) : fieldAddrA Tryz.prog 30 (.ptr b v k) 1 = some (.ptr b v (k + 3)) := fieldAddr_ptr foff_30_1 b v k
theorem foff_30_2 : fieldOff Tryz.prog 30 2 = some (4,1) := by kernel_rfl
@[go_sem] theorem fptr_30_2 (b v k : Nat) : fieldAddrA Tryz.prog 30 (.ptr b v k) 2 = some (.ptr b v (k + 4)) := fieldAddr_ptr foff_30_2 b v k
theorem foff_30_3 : fieldOff Tryz.prog 30 3 = some (5,1) := by kernel_rfl
@[go_sem] theorem fptr_30_3 (b v k : Nat) : fieldAddrA Tryz.prog 30 (.ptr b v k) 3 = some (.ptr b v (k + 5)) := fieldAddr_ptr foff_30_3 b v k
@[go_sem] theorem build_30 (ps : List (Nat × AV)) : buildA Tryz.prog 30 ps = (fillA (fun i => ([(0,3),(3,1),(4,1),(5,1)] : List (Nat × Nat))[i]?) [.v (.int .i64 0),.v (.int .i64 0),.v (.int .i64 0),.v (.string ⟨#[]⟩),.v (.string ⟨#[]⟩),.v (.string ⟨#[]⟩)] ps).map .agg := by kernel_rfl
theorem isagg_36 : isAggT Tryz.prog 36 = some false := by kernel_rfl
@[go_sem] theorem part_36 (cs : List AV) (k : Nat) : partOf Tryz.prog 36 cs k = cs[k]? := partOf_one cs k isagg_36 size_36
@[go_sem] theorem store_36 (H : Heap) (b v k : Nat) (x : AV) : storeA Tryz.prog H 36 (.ptr b v k) x = if x.cells.length = 1 then storeCells H b v k x.cells else none := by unfold storeA;rw [size_36]
theorem isagg_41 : isAggT Tryz.prog 41 = some false := by kernel_rfl
@[go_sem] theorem part_41 (cs : List AV) (k : Nat) : partOf Tryz.prog 41 cs k = cs[k]? := partOf_one cs k isagg_41 size_41
@[go_sem] theorem store_41 (H : Heap) (b v k : Nat) (x : AV) : storeA Tryz.prog H 41 (.ptr b v k) x = if x.cells.length = 1 then storeCells H b v k x.cells else none := by unfold storeA;rw [size_41]
theorem und_41 : Tryz.prog.underlying 41 = some (.slice 28) := by kernel_rfl
@[go_sem] theorem len_41 (H : Heap) (x : AV) : lenA Tryz.prog H [41] [x] = slLen x := len_sl und_41 H x
@[go_sem] theorem idx_41 (x y : AV) : indexAddrA Tryz.prog 41 x y = slIdx 3 x y := idx_sl und_41 size_28 x y
@[go_sem] theorem bsl_41 (mt : Bool) (H : Heap) (slot len : Nat) (parts : List (Nat × AV)) : buildSliceA Tryz.prog mt H slot 41 len parts = if len * 3 ≤ 65536 then (fillA (fun i => some (i * 3,3)) (repeatCells [.v (.int .i64 0),.v (.int .i64 0),.v (.int .i64 0)] len) parts).bind (bsFin mt 28 3 H slot len) else none := buildSl_eq und_41 size_28 zero_28 (by decide) rfl mt H slot len parts
theorem und_48 : Tryz.prog.underlying 48 = some (.slice 3) := by kernel_rfl
@[go_sem] theorem len_48 (H : Heap) (x : AV) : lenA Tryz.prog H [48] [x] = slLen x := len_sl und_48 H x
@[go_sem] theorem idx_48 (x y : AV) : indexAddrA Tryz.prog 48 x y = slIdx 1 x y := idx_sl und_48 size_3 x y
@[go_sem] theorem bsl_48 (mt : Bool) (H : Heap) (slot len : Nat) (parts : List (Nat × AV)) : buildSliceA Tryz.prog mt H slot 48 len parts = if len * 1 ≤ 65536 then (fillA (fun i => some (i * 1,1)) (repeatCells [.v (.int .i64 0)] len) parts).bind (bsFin mt 3 1 H slot len) else none := buildSl_eq und_48 size_3 zero_3 (by decide) rfl mt H slot len parts
theorem isagg_87 : isAggT Tryz.prog 87 = some false := by kernel_rfl
@[go_sem] theorem part_87 (cs : List AV) (k : Nat) : partOf Tryz.prog 87 cs k = cs[k]? := partOf_one cs k isagg_87 size_87
@[go_sem] theorem store_87 (H : Heap) (b v k : Nat) (x : AV) : storeA Tryz.prog H 87 (.ptr b v k) x = if x.cells.length = 1 then storeCells H b v k x.cells else none := by unfold storeA;rw [size_87]
theorem und_87 : Tryz.prog.underlying 87 = some (.slice 9) := by kernel_rfl
@[go_sem] theorem len_87 (H : Heap) (x : AV) : lenA Tryz.prog H [87] [x] = slLen x := len_sl und_87 H x
@[go_sem] theorem idx_87 (x y : AV) : indexAddrA Tryz.prog 87 x y = slIdx 1 x y := idx_sl und_87 size_9 x y
@[go_sem] theorem bsl_87 (mt : Bool) (H : Heap) (slot len : Nat) (parts : List (Nat × AV)) : buildSliceA Tryz.prog mt H slot 87 len parts = if len * 1 ≤ 65536 then (fillA (fun i => some (i * 1,1)) (repeatCells [.v (.string ⟨#[]⟩)] len) parts).bind (bsFin mt 9 1 H slot len) else none := buildSl_eq und_87 size_9 zero_9 (by decide) rfl mt H slot len parts
theorem isagg_110 : isAggT Tryz.prog 110 = some false := by kernel_rfl
@[go_sem] theorem part_110 (cs : List AV) (k : Nat) : partOf Tryz.prog 110 cs k = cs[k]? := partOf_one cs k isagg_110 size_110
theorem und_110 : Tryz.prog.underlying 110 = some (.slice 87) := by kernel_rfl
@[go_sem] theorem len_110 (H : Heap) (x : AV) : lenA Tryz.prog H [110] [x] = slLen x := len_sl und_110 H x
@[go_sem] theorem idx_110 (x y : AV) : indexAddrA Tryz.prog 110 x y = slIdx 1 x y := idx_sl und_110 size_87 x y
theorem isagg_112 : isAggT Tryz.prog 112 = some true := by kernel_rfl
@[go_sem] theorem part_112 (cs : List AV) (k : Nat) : partOf Tryz.prog 112 cs k = if k + 2 ≤ cs.length then some (.agg ((cs.drop k).take 2)) else none := partOf_agg cs k isagg_112 size_112
@[go_sem] theorem store_112 (H : Heap) (b v k : Nat) (x : AV) : storeA Tryz.prog H 112 (.ptr b v k) x = if x.cells.length = 2 then storeCells H b v k x.cells else none := by unfold storeA;rw [size_112]
theorem foff_112_0 : fieldOff Tryz.prog 112 0 = some (0,1) := by kernel_rfl
@[go_sem] theorem fptr_112_0 (b v k : Nat) : fieldAddrA Tryz.prog 112 (.ptr b v k) 0 = some (.ptr b v (k + 0)) := fieldAddr_ptr foff_112_0 b v k
@[go_sem] theorem fro_112_0 (z : AV) (k : Nat) : fieldAddrA Tryz.prog 112 (.ro z k) 0 = some (.ro z (k + 0)) := fieldAddr_ro foff_112_0 z k
theorem foff_112_1 : fieldOff Tryz.prog 112 1 = some (1,1) := by kernel_rfl
@[go_sem] theorem fptr_112_1 (b v k : Nat) : fieldAddrA Tryz.prog 112 (.ptr b v k) 1 = some (.ptr b v (k + 1)) := fieldAddr_ptr foff_112_1 b v k
@[go_sem] theorem fro_112_1 (z : AV) (k : Nat) : fieldAddrA Tryz.prog 112 (.ro z k) 1 = some (.ro z (k + 1)) := fieldAddr_ro foff_112_1 z k
theorem isagg_121 : isAggT Tryz.prog 121 = some true := by kernel_rfl
@[go_sem] theorem part_121 (cs : List AV) (k : Nat) : partOf Tryz.prog 121 cs k = if k + 4 ≤ cs.length then some (.agg ((cs.drop k).take 4)) else none := partOf_agg cs k isagg_121 size_121
@[go_sem] theorem store_121 (H : Heap) (b v k : Nat) (x : AV) : storeA Tryz.prog H 121 (.ptr b v k) x = if x.cells.length = 4 then storeCells H b v k x.cells else none := by unfold storeA;rw [size_121]
theorem foff_121_0 : fieldOff Tryz.prog 121 0 = some (0,2) := by kernel_rfl
@[go_sem] theorem fptr_121_0 (b v k : Nat) : fieldAddrA Tryz.prog 121 (.ptr b v k) 0 = some (.ptr b v (k + 0)) := fieldAddr_ptr foff_121_0 b v k
@[go_sem] theorem fro_121_0 (z : AV) (k : Nat) : fieldAddrA Tryz.prog 121 (.ro z k) 0 = some (.ro z (k + 0)) := fieldAddr_ro foff_121_0 z k
theorem foff_121_1 : fieldOff Tryz.prog 121 1 = some (2,1) := by kernel_rfl
@[go_sem] theorem fptr_121_1 (b v k : Nat) : fieldAddrA Tryz.prog 121 (.ptr b v k) 1 = some (.ptr b v (k + 2)) := fieldAddr_ptr foff_121_1 b v k
@[go_sem] theorem fro_121_1 (z : AV) (k : Nat) : fieldAddrA Tryz.prog 121 (.ro z k) 1 = some (.ro z (k + 2)) := fieldAddr_ro foff_121_1 z k
theorem foff_121_2 : fieldOff Tryz.prog 121 2 = some (3,1) := by kernel_rfl
@[go_sem] theorem fptr_121_2 (b v k : Nat) : fieldAddrA Tryz.prog 121 (.ptr b v k) 2 = some (.ptr b v (k + 3)) := fieldAddr_ptr foff_121_2 b v k
@[go_sem] theorem build_121 (ps : List (Nat × AV)) : buildA Tryz.prog 121 ps = (fillA (fun i => ([(0,2),(2,1),(3,1)] : List (Nat × Nat))[i]?) [.v (.int .i64 0),.v (.int .u8 0),.v (.slice none 0 0),.v (.slice none 0 0)] ps).map .agg := by kernel_rfl
theorem isagg_140 : isAggT Tryz.prog 140 = some true := by kernel_rfl
@[go_sem] theorem part_140 (cs : List AV) (k : Nat) : partOf Tryz.prog 140 cs k = if k + 1 ≤ cs.length then some (.agg ((cs.drop k).take 1)) else none := partOf_agg cs k isagg_140 size_140
@[go_sem] theorem store_140 (H : Heap) (b v k : Nat) (x : AV) : storeA Tryz.prog H 140 (.ptr b v k) x = if x.cells.length = 1 then storeCells H b v k x.cells else none := by unfold storeA;rw [size_140]
theorem foff_140_0 : fieldOff Tryz.prog 140 0 = some (0,1) := by kernel_rfl
@[go_sem] theorem fptr_140_0 (b v k : Nat) : fieldAddrA Tryz.prog 140 (.ptr b v k) 0 = some (.ptr b v (k + 0)) := fieldAddr_ptr foff_140_0 b v k
@[go_sem] theorem fro_140_0 (z : AV) (k : Nat) : fieldAddrA Tryz.prog 140 (.ro z k) 0 = some (.ro z (k + 0)) := fieldAddr_ro foff_140_0 z k
@[go_sem] theorem build_140 (ps : List (Nat × AV)) : buildA Tryz.prog 140 ps = (fillA (fun i => ([(0,1)] : List (Nat × Nat))[i]?) [.v (.slice none 0 0)] ps).map .agg := by kernel_rfl
theorem foff_170_0 : fieldOff Tryz.prog 170 0 = some (0,1) := by kernel_rfl
@[go_sem] theorem fptr_170_0 (b v k : Nat) : fieldAddrA Tryz.prog 170 (.ptr b v k) 0 = some (.ptr b v (k + 0)) := fieldAddr_ptr foff_170_0 b v k
theorem foff_170_1 : fieldOff Tryz.prog 170 1 = some (1,1) := by kernel_rfl
@[go_sem] theorem fptr_170_1 (b v k : Nat) : fieldAddrA Tryz.prog 170 (.ptr b v k) 1 = some (.ptr b v (k + 1)) := fieldAddr_ptr foff_170_1 b v k
@[go_sem] theorem build_170 (ps : List (Nat × AV)) : buildA Tryz.prog 170 ps = (fillA (fun i => ([(0,1),(1,1)] : List (Nat × Nat))[i]?) [.v (.int .i64 0),.v (.int .i64 0)] ps).map .agg := by kernel_rfl
theorem isagg_171 : isAggT Tryz.prog 171 = some false := by kernel_rfl
@[go_sem] theorem part_171 (cs : List AV) (k : Nat) : partOf Tryz.prog 171 cs k = cs[k]? := partOf_one cs k isagg_171 size_171
theorem isagg_184 : isAggT Tryz.prog 184 = some true := by kernel_rfl
@[go_sem] theorem part_184 (cs : List AV) (k : Nat) : partOf Tryz.prog 184 cs k = if k + 3 ≤ cs.length then some (.agg ((cs.drop k).take 3)) else none := partOf_agg cs k isagg_184 size_184
@[go_sem] theorem store_184 (H : Heap) (b v k : Nat) (x : AV) : storeA Tryz.prog H 184 (.ptr b v k) x = if x.cells.length = 3 then storeCells H b v k x.cells else none := by unfold storeA;rw [size_184]
theorem foff_184_0 : fieldOff Tryz.prog 184 0 = some (0,1) := by kernel_rfl
@[go_sem] theorem fptr_184_0 (b v k : Nat) : fieldAddrA Tryz.prog 184 (.ptr b v k) 0 = some (.ptr b v (k + 0)) := fieldAddr_ptr foff_184_0 b v k
theorem foff_184_1 : fieldOff Tryz.prog 184 1 = some (1,1) := by kernel_rfl
@[go_sem] theorem fptr_184_1 (b v k : Nat) : fieldAddrA Tryz.prog 184 (.ptr b v k) 1 = some (.ptr b v (k + 1)) := fieldAddr_ptr foff_184_1 b v k
theorem foff_184_2 : fieldOff Tryz.prog 184 2 = some (2,1) := by kernel_rfl
@[go_sem] theorem fptr_184_2 (b v k : Nat) : fieldAddrA Tryz.prog 184 (.ptr b v k) 2 = some (.ptr b v (k + 2)) := fieldAddr_ptr foff_184_2 b v k
@[go_sem] theorem build_184 (ps : List (Nat × AV)) : buildA Tryz.prog 184 ps = (fillA (fun i => ([(0,1),(1,1),(2,1)] : List (Nat × Nat))[i]?) [.v (.int .i64 0),.v (.int .i64 0),.v (.int .i64 0)] ps).map .agg := by kernel_rfl
theorem isagg_215 : isAggT Tryz.prog 215 = some false := by kernel_rfl
@[go_sem] theorem part_215 (cs : List AV) (k : Nat) : partOf Tryz.prog 215 cs k = cs[k]? := partOf_one cs k isagg_215 size_215
@[go_sem] theorem store_217 (H : Heap) (b v k : Nat) (x : AV) : storeA Tryz.prog H 217 (.ptr b v k) x = if x.cells.length = 1 then storeCells H b v k x.cells else none := by unfold storeA;rw [size_217]
theorem foff_217_0 : fieldOff Tryz.prog 217 0 = some (0,1) := by kernel_rfl
@[go_sem] theorem fptr_217_0 (b v k : Nat) : fieldAddrA Tryz.prog 217 (.ptr b v k) 0 = some (.ptr b v (k + 0)) := fieldAddr_ptr foff_217_0 b v k
@[go_sem] theorem build_217 (ps : List (Nat × AV)) : buildA Tryz.prog 217 ps = (fillA (fun i => ([(0,1)] : List (Nat × Nat))[i]?) [.v .nilFunc] ps).map .agg := by kernel_rfl
theorem isagg_218 : isAggT Tryz.prog 218 = some true := by kernel_rfl
@[go_sem] theorem part_218 (cs : List AV) (k : Nat) : partOf Tryz.prog 218 cs k = if k + 4 ≤ cs.length then some (.agg ((cs.drop k).take 4)) else none := partOf_agg cs k isagg_218 size_218
@[go_sem] theorem store_218 (H : Heap) (b v k : Nat) (x : AV) : storeA Tryz.prog H 218 (.ptr b v k) x = if x.cells.length = 4 then storeCells H b v k x.cells else none := by unfold storeA;rw [size_218]
@[go_sem] theorem build_218 (ps : List (Nat × AV)) : buildA Tryz.prog 218 ps = (fillA (fun i => some (i * 1,1)) [.v .nilFunc,.v .nilFunc,.v .nilFunc,.v .nilFunc] ps).map .agg := by kernel_rfl
attribute [go_sem] repeatCells splice chunk bsFin ne_eq not_true_eq_false not_false_eq_true List.headD_cons Bool.false_eq_true Nat.le_refl Nat.zero_mul Nat.one_mul Nat.mul_one assoc_setI decide_true decide_false Bool.not_true Bool.not_false List.mem_cons List.not_mem_nil true_or or_true false_or or_false and_true true_and and_self List.getElem?_cons_succ List.getElem?_cons_zero Option.bind_some Option.map_some Option.map_none List.map_cons List.map_nil List.length_cons List.length_nil List.filterMap_cons List.filterMap_nil List.cons_append List.nil_append List.append_nil Nat.zero_add Nat.add_zero List.take_succ_cons List.take_zero List.take_nil List.drop_succ_cons List.drop_zero List.drop_nil List.all_cons List.all_nil Bool.and_true Bool.true_and Bool.false_and Bool.and_false beq_iff_eq beq_self_eq_true
attribute [go_sem_proc] Nat.reduceEqDiff Nat.reduceLT Nat.reduceLeDiff Nat.reduceAdd Nat.reduceSub Nat.reduceMul reduceCtorEq
theorem callA_none {C : Cfg} {rec : Task → Option Out} {me f : FuncId} {d : Option Tmp} {args : List AV} {H : Heap} (hx : C.ext f = none) (hh : C.exh f = none) : callA C rec me f d args H = callB C rec me f d args H := by unfold callA standA standH;rw [hx];simp only;rw [hh]
end Go.Ev
namespace Go.Ev
open Go.Proofs
def firstLoop : Code → Option Code
 | .loop b => some b
 | .seq a b => (firstLoop a).orElse fun _ => firstLoop b
 | .block _ a => firstLoop a
 | .scope a => firstLoop a
 | .cond _ a b => (firstLoop a).orElse fun _ => firstLoop b
 | _ => none
def withinB (lo hi : Int) (ns : List Int) : Bool := ns.all fun n => decide (lo ≤ n) && decide (n ≤ hi)
def intA (n : Int) : AV := .v (.int .i64 n)
noncomputable def body69 : Code := ((Tryz.f120.body.bind firstLoop).getD .skip)
theorem loop69 {e : Exts} (lo hi : Int) (ns : List Int) (x : AV) (hx : SlOf 1 (ns.map intA) x) (hn : ns.length < 2 ^ 63) (H : Heap) (hH : H = ⟨[some (AObj.cells 0 0 170 1 false [intA lo,intA hi])],0⟩) (K : Post) :
  ∀ m j : Nat,j + m = ns.length → (withinB lo hi (ns.drop j) = true → ∀ l,AtK K (.exit 0) ⟨24,l,[]⟩ H) → (withinB lo hi (ns.drop j) = false → ∀ l,assoc 4 l = some (.v (.bool false)) → AtK K .ret ⟨24,l,[]⟩ H) →
  Lp (Cx e) 120 none [0,1,2,4,7,8,9] body69 ⟨24,[(0,.agg [intA lo,intA hi]),(1,x),(2,.ptr 0 0 0),(4,.v (.bool false)),(7,x),(8,intA ns.length),(9,intA j)],[]⟩ H K := by
 intro m
 induction m with
 | zero =>
  intro j hj h1 h2
  rw [Lp_step]
  generalize hK : loopK (Cx e) 120 none [0,1,2,4,7,8,9] body69 H.size K = KK
  unfold body69
  simp -implicitDefEqProofs only [Tryz.f120,firstLoop,Option.orElse_some,Option.orElse_none,Option.getD_some,intA,go_sem,↓reduceIte]
  obtain rfl : j = ns.length := by omega
  simp -implicitDefEqProofs only [go_sem,↓reduceIte,Int.lt_irrefl]
  subst hK
  simp -implicitDefEqProofs only [go_sem,↓reduceIte]
  exact h1 (by simp [withinB]) _
 | succ m ih =>
  intro j hj h1 h2
  rw [Lp_step]
  generalize hK : loopK (Cx e) 120 none [0,1,2,4,7,8,9] body69 H.size K = KK
  unfold body69
  have hlt : (j : Int) < (ns.length : Int) := by omega
  have hy : (ns.map intA)[j]? = some (intA ns[j]) := by rw [List.getElem?_map,List.getElem?_eq_getElem (by omega)];rfl
  have hw := wrap_succ j (by omega)
  have hd : withinB lo hi (ns.drop j) = ((decide (lo ≤ ns[j]) && decide (ns[j] ≤ hi)) && withinB lo hi (ns.drop (j + 1))) := by
   rw [List.drop_eq_getElem_cons (by omega : j < ns.length)];rfl
  simp only [Tryz.f120,firstLoop,Option.orElse_some,Option.orElse_none,Option.getD_some,Option.bind_some]
  by_cases c1 : ns[j] < lo
  ·simp -implicitDefEqProofs only [go_sem,↓reduceIte,hH,intA,hlt,hw,hx.idx hy,c1]
   subst hK
   simp -implicitDefEqProofs only [go_sem,↓reduceIte]
   rw [← intA,← intA,← hH]
   exact h2 (by rw [hd];simp;omega) _ rfl
  ·by_cases c2 : hi < ns[j]
   ·simp -implicitDefEqProofs only [go_sem,↓reduceIte,hH,intA,hlt,hw,hx.idx hy,c1,c2]
    subst hK
    simp -implicitDefEqProofs only [go_sem,↓reduceIte]
    rw [← intA,← intA,← hH]
    exact h2 (by rw [hd];simp;omega) _ rfl
   ·simp -implicitDefEqProofs only [go_sem,↓reduceIte,hH,intA,hlt,hw,hx.idx hy,c1,c2]
    subst hK
    simp -implicitDefEqProofs only [go_sem,↓reduceIte,hH]
    have hd' : withinB lo hi (ns.drop j) = withinB lo hi (ns.drop (j + 1)) := by rw [hd];simp;omega
    rw [hd'] at h1 h2
    have := ih (j + 1) (by omega) h1 h2
    rw [hH] at this
    exact this
theorem ans69 {e : Exts} (lo hi : Int) (ns : List Int) (hn : ns.length < 2 ^ 63) (x : AV) (hx : SlOf 1 (ns.map intA) x) : Ans (Cx e) 120 [.agg [intA lo,intA hi],x] (.v (.bool (withinB lo hi ns))) := by
 unfold Ans
 rw [fn_step (fn_120 e) (show Tryz.f120.body = some _ from rfl)]
 simp -implicitDefEqProofs only [Tryz.f120,intA,go_sem,↓reduceIte,hx.len,List.length_map]
 refine loop69 lo hi ns x hx hn _ rfl _ ns.length 0 (by omega) ?_ ?_
 ·intro h l
  simp -implicitDefEqProofs only [go_sem,↓reduceIte]
  rw [List.drop_zero] at h
  rw [h]
 ·intro h l hl
  rw [List.drop_zero] at h
  simp -implicitDefEqProofs only [go_sem,↓reduceIte,hl]
  rw [h]
def letter (c : UInt8) : Bool := decide (97 ≤ (c.toNat : Int)) && decide ((c.toNat : Int) ≤ 122)
def lettersB (s : ByteArray) (j : Nat) : Bool := (s.data.toList.drop j).all letter
def wordB (s : ByteArray) : Bool := withinB 1 12 [(s.size : Int)] && lettersB s 0
noncomputable def body49 : Code := ((Tryz.f90.body.bind firstLoop).getD .skip)
theorem strAt_lt (s : ByteArray) (j : Nat) (h : j < s.size) : strAt s j = some (s.data.toList[j]'(by simpa using h)) := by
 unfold strAt;exact List.getElem?_eq_getElem _
theorem loop49 {e : Exts} (s : ByteArray) (hn : s.size < 2 ^ 63) (H : Heap) (K : Post) :
  ∀ m j : Nat,j + m = s.size → (lettersB s j = true → ∀ l,AtK K (.exit 0) ⟨26,l,[]⟩ H) → (lettersB s j = false → ∀ l,assoc 2 l = some (.v (.bool false)) → AtK K .ret ⟨26,l,[]⟩ H) →
  Lp (Cx e) 90 none [0,2,9,11,12] body49 ⟨26,[(0,.v (.string s)),(2,.v (.bool false)),(9,.v (.bool false)),(11,intA s.size),(12,intA j)],[]⟩ H K := by
 intro m
 induction m with
 | zero =>
  intro j hj h1 h2
  rw [Lp_step]
  generalize hK : loopK (Cx e) 90 none [0,2,9,11,12] body49 H.size K = KK
  unfold body49
  obtain rfl : j = s.size := by omega
  simp -implicitDefEqProofs only [Tryz.f90,firstLoop,Option.orElse_some,Option.orElse_none,Option.getD_some,intA,go_sem,↓reduceIte,Int.lt_irrefl]
  subst hK
  simp -implicitDefEqProofs only [go_sem,↓reduceIte]
  exact h1 (by unfold lettersB;rw [List.drop_of_length_le (by simp)];rfl) _
 | succ m ih =>
  intro j hj h1 h2
  rw [Lp_step]
  generalize hK : loopK (Cx e) 90 none [0,2,9,11,12] body49 H.size K = KK
  unfold body49
  have hlt : (j : Int) < (s.size : Int) := by omega
  have hy := strAt_lt s j (by omega)
  have hjl : j < s.data.toList.length := by simp;omega
  have hw := wrap_succ j (by omega)
  have hj0 : (0 : Int) ≤ (j : Int) := by omega
  generalize hc : s.data.toList[j] = c at hy
  have hd : lettersB s j = (letter c && lettersB s (j + 1)) := by
   unfold lettersB
   rw [List.drop_eq_getElem_cons (by simp;omega),← hc];rfl
  simp only [Tryz.f90,firstLoop,Option.orElse_some,Option.orElse_none,Option.getD_some,Option.bind_some]
  by_cases c1 : (c.toNat : Int) < 97
  ·simp -implicitDefEqProofs only [go_sem,↓reduceIte,intA,hlt,hw,hy,c1,hj0,Int.toNat_natCast]
   subst hK
   simp -implicitDefEqProofs only [go_sem,↓reduceIte]
   exact h2 (by rw [hd];simp [letter];omega) _ rfl
  ·by_cases c2 : 122 < (c.toNat : Int)
   ·simp -implicitDefEqProofs only [go_sem,↓reduceIte,intA,hlt,hw,hy,c1,c2,hj0,Int.toNat_natCast]
    subst hK
    simp -implicitDefEqProofs only [go_sem,↓reduceIte]
    exact h2 (by rw [hd];simp [letter];omega) _ rfl
   ·simp -implicitDefEqProofs only [go_sem,↓reduceIte,intA,hlt,hw,hy,c1,c2,hj0,Int.toNat_natCast]
    subst hK
    simp -implicitDefEqProofs only [go_sem,↓reduceIte]
    have hd' : lettersB s j = lettersB s (j + 1) := by rw [hd];simp [letter];omega
    rw [hd'] at h1 h2
    exact ih (j + 1) (by omega) h1 h2
theorem call69 {e : Exts} (he : Quiet e) (lo hi : Int) (ns : List Int) (hn : ns.length < 2 ^ 63) (x : AV) (hx : SlOf 1 (ns.map intA) x) (me : FuncId) (d : Option Tmp) (H : Heap) : callA (Cx e) (lim (Cx e)) me 120 d [.agg [intA lo,intA hi],x] H = some (.v (.bool (withinB lo hi ns)),H) :=
 (ans69 lo hi ns hn x hx).call (ext_120 he) (pure_120 _ _ _) (by simp only [boundL_cons,bound_agg,intA,bound_v,boundL_nil,hx.bound];rfl) H
theorem ans49 {e : Exts} (he : Quiet e) (s : ByteArray) (hn : s.size < 2 ^ 63) : Ans (Cx e) 90 [.v (.string s)] (.v (.bool (wordB s))) := by
 unfold Ans
 rw [fn_step (fn_90 e) (show Tryz.f90.body = some _ from rfl)]
 have hc : callA (Cx e) (lim (Cx e)) 90 120 (some 8) [.agg [.v (.int .i64 1),.v (.int .i64 12)],.vs 1 [.v (.int .i64 s.size)] (some 1)] { objs := [],lock := 0 } = some (.v (.bool (withinB 1 12 [(s.size : Int)])),{ objs := [],lock := 0 }) :=
  call69 he 1 12 [(s.size : Int)] (by simp) _ (Or.inr ⟨_,rfl⟩) _ _ _
 by_cases hw : withinB 1 12 [(s.size : Int)] = true
 ·rw [hw] at hc
  simp -implicitDefEqProofs only [Tryz.f90,go_sem,↓reduceIte,hc]
  refine loop49 s hn _ _ s.size 0 (by omega) ?_ ?_
  ·intro h l
   simp -implicitDefEqProofs only [go_sem,↓reduceIte]
   unfold wordB;rw [hw,h];rfl
  ·intro h l hl
   simp -implicitDefEqProofs only [go_sem,↓reduceIte,hl]
   unfold wordB;rw [hw,h];rfl
 ·simp only [Bool.not_eq_true] at hw
  rw [hw] at hc
  simp -implicitDefEqProofs only [Tryz.f90,go_sem,↓reduceIte,hc]
  unfold wordB;rw [hw];rfl
theorem call49 {e : Exts} (he : Quiet e) (s : ByteArray) (hn : s.size < 2 ^ 63) (me : FuncId) (d : Option Tmp) (H : Heap) : callA (Cx e) (lim (Cx e)) me 90 d [.v (.string s)] H = some (.v (.bool (wordB s)),H) :=
 (ans49 he s hn).call (ext_90 he) (pure_90 _ _ _) rfl H
end Go.Ev
namespace Go.Ev
open Go.Proofs
def loops : Code → List Code
 | .loop b => b :: loops b
 | .seq a b => loops a ++ loops b
 | .block _ a => loops a
 | .scope a => loops a
 | .cond _ a b => loops a ++ loops b
 | .rangeFunc _ _ _ b => loops b
 | _ => []
theorem range1 (lo hi n : Int) : withinB lo hi [n] = (decide (lo ≤ n) && decide (n ≤ hi)) := by simp [withinB]
theorem ans43 {e : Exts} (n lo hi : Int) : Ans (Cx e) 92 [intA n,intA lo,intA hi] (.v (.bool (withinB lo hi [n]))) := by
 unfold Ans
 rw [fn_step (fn_92 e) (show Tryz.f92.body = some _ from rfl),range1]
 by_cases h1 : lo ≤ n
 ·simp -implicitDefEqProofs only [Tryz.f92,intA,go_sem,↓reduceIte,h1]
 ·simp -implicitDefEqProofs only [Tryz.f92,intA,go_sem,↓reduceIte,h1,Bool.false_and]
theorem call43 {e : Exts} (he : Quiet e) (n lo hi : Int) (me : FuncId) (d : Option Tmp) (H : Heap) : callA (Cx e) (lim (Cx e)) me 92 d [.v (.int .i64 n),.v (.int .i64 lo),.v (.int .i64 hi)] H = some (.v (.bool (withinB lo hi [n])),H) :=
 (ans43 n lo hi).call (ext_92 he) (pure_92 _ _ _) rfl H
theorem callI43 {e : Exts} (he : Quiet e) (n lo hi : Int) (me : FuncId) (d : Option Tmp) : callI (Cx e) me 92 d [.v (.int .i64 n),.v (.int .i64 lo),.v (.int .i64 hi)] = some (.v (.bool (withinB lo hi [n]))) :=
 (ans43 n lo hi).callI (ext_92 he) (pure_92 _ _ _) rfl
noncomputable def body61 : Code := ((Tryz.f89.body.map loops).getD [])[0]?.getD .skip
theorem loop61 {e : Exts} (s : ByteArray) (hn : s.size < 2 ^ 63) (H : Heap) (K : Post) :
  ∀ m j : Nat,j + m = s.size → (lettersB s j = true → AtK K (.exit 0) ⟨23,[(0,.v (.string s)),(2,.v (.bool false)),(3,intA s.size)],[]⟩ H) → (lettersB s j = false → ∀ l,assoc 2 l = some (.v (.bool false)) → AtK K .ret ⟨23,l,[]⟩ H) →
  Lp (Cx e) 89 none [0,2,3] body61 ⟨23,[(0,.v (.string s)),(2,.v (.bool false)),(3,intA j)],[]⟩ H K := by
 intro m
 induction m with
 | zero =>
  intro j hj h1 h2
  rw [Lp_step]
  generalize hK : loopK (Cx e) 89 none [0,2,3] body61 H.size K = KK
  unfold body61
  obtain rfl : j = s.size := by omega
  simp -implicitDefEqProofs only [Tryz.f89,loops,Option.map_some,Option.getD_some,intA,go_sem,↓reduceIte,Int.lt_irrefl]
  subst hK
  simp -implicitDefEqProofs only [go_sem,↓reduceIte]
  exact h1 (by unfold lettersB;rw [List.drop_of_length_le (by simp)];rfl)
 | succ m ih =>
  intro j hj h1 h2
  rw [Lp_step]
  generalize hK : loopK (Cx e) 89 none [0,2,3] body61 H.size K = KK
  unfold body61
  have hlt : (j : Int) < (s.size : Int) := by omega
  have hy := strAt_lt s j (by omega)
  have hjl : j < s.data.toList.length := by simp;omega
  have hw := wrap_succ j (by omega)
  have hj0 : (0 : Int) ≤ (j : Int) := by omega
  generalize hc : s.data.toList[j] = c at hy
  have hd : lettersB s j = (letter c && lettersB s (j + 1)) := by
   unfold lettersB
   rw [List.drop_eq_getElem_cons (by simp;omega),← hc];rfl
  simp only [Tryz.f89,loops,Option.map_some,Option.getD_some,List.nil_append,List.append_nil,List.cons_append,List.getElem?_cons_zero]
  by_cases c1 : (c.toNat : Int) < 97
  ·simp -implicitDefEqProofs only [go_sem,↓reduceIte,intA,hlt,hw,hy,c1,hj0,Int.toNat_natCast]
   subst hK
   simp -implicitDefEqProofs only [go_sem,↓reduceIte]
   exact h2 (by rw [hd];simp [letter];omega) _ rfl
  ·by_cases c2 : 122 < (c.toNat : Int)
   ·simp -implicitDefEqProofs only [go_sem,↓reduceIte,intA,hlt,hw,hy,c1,c2,hj0,Int.toNat_natCast]
    subst hK
    simp -implicitDefEqProofs only [go_sem,↓reduceIte]
    exact h2 (by rw [hd];simp [letter];omega) _ rfl
   ·simp -implicitDefEqProofs only [go_sem,↓reduceIte,intA,hlt,hw,hy,c1,c2,hj0,Int.toNat_natCast]
    subst hK
    simp -implicitDefEqProofs only [go_sem,↓reduceIte]
    have hd' : lettersB s j = lettersB s (j + 1) := by rw [hd];simp [letter];omega
    rw [hd'] at h1 h2
    exact ih (j + 1) (by omega) h1 h2
theorem ans61 {e : Exts} (he : Quiet e) (s : ByteArray) (hn : s.size < 2 ^ 63) : Ans (Cx e) 89 [.v (.string s)] (.v (.bool (wordB s))) := by
 unfold Ans
 rw [fn_step (fn_89 e) (show Tryz.f89.body = some _ from rfl)]
 simp -implicitDefEqProofs only [Tryz.f89,intA,go_sem,↓reduceIte]
 refine loop61 s hn _ _ s.size 0 (by omega) ?_ ?_
 ·intro h
  simp -implicitDefEqProofs only [intA,go_sem,↓reduceIte,call43 he]
  unfold wordB;rw [h,Bool.and_true]
 ·intro h l hl
  simp -implicitDefEqProofs only [go_sem,↓reduceIte,hl]
  unfold wordB;rw [h,Bool.and_false]
theorem call61 {e : Exts} (he : Quiet e) (s : ByteArray) (hn : s.size < 2 ^ 63) (me : FuncId) (d : Option Tmp) (H : Heap) : callA (Cx e) (lim (Cx e)) me 89 d [.v (.string s)] H = some (.v (.bool (wordB s)),H) :=
 (ans61 he s hn).call (ext_89 he) (pure_89 _ _ _) rfl H
end Go.Ev
namespace Go.Ev
open Go.Proofs
def All2 {α β : Type} (R : α → β → Prop) (l : List α) (m : List β) : Prop := l.length = m.length ∧ ∀ (i : Nat) a b,l[i]? = some a → m[i]? = some b → R a b
theorem All2.get {α β : Type} {R : α → β → Prop} {l : List α} {m : List β} (h : All2 R l m) {i : Nat} {a : α} (ha : l[i]? = some a) : ∃ b,m[i]? = some b ∧ R a b := by
 have hi := (List.getElem?_eq_some_iff.1 ha).1
 exact ⟨m[i]'(h.1 ▸ hi),List.getElem?_eq_getElem _,h.2 i a _ ha (List.getElem?_eq_getElem _)⟩
def strs (ws : List ByteArray) : List AV := ws.map fun s => .v (.string s)
abbrev Line := List ByteArray
abbrev Chap := Int × List Line
abbrev Txt := List Chap
def LineA (ws : Line) (x : AV) : Prop := SlOf 1 (strs ws) x
def LinesA (ls : List Line) (x : AV) : Prop := ∃ xs,SlOf 1 xs x ∧ All2 LineA ls xs
def ChapA (c : Chap) (y : AV) : Prop := ∃ l,y = .agg [intA c.1,l] ∧ LinesA c.2 l
def ChsA (t : Txt) (x : AV) : Prop := ∃ xs,SlOf 2 xs x ∧ All2 ChapA t xs
def TextA (t : Txt) (x : AV) : Prop := ∃ ch,x = .agg [ch] ∧ ChsA t ch
structure Fits (t : Txt) : Prop where
 chs : t.length < 2 ^ 63
 lines : ∀ c ∈ t,c.2.length < 2 ^ 63
 words : ∀ c ∈ t,∀ l ∈ c.2,l.length < 2 ^ 63
 size : ∀ c ∈ t,∀ l ∈ c.2,∀ s ∈ l,s.size < 2 ^ 63
theorem strs_get {ws : Line} {i : Nat} {s : ByteArray} (h : ws[i]? = some s) : (strs ws)[i]? = some (.v (.string s)) := by
 unfold strs;rw [List.getElem?_map,h];rfl
theorem strs_len (ws : Line) : (strs ws).length = ws.length := by simp [strs]
def greatL (l : Line) : Bool := decide (l.length > 15) || l.any fun s => decide (s.size > 40)
def greatC (c : Chap) : Bool := decide (c.2.length > 15) || c.2.any greatL
def greatT (t : Txt) : Bool := decide (t.length > 10) || t.any greatC
noncomputable def body38 (n : Nat) : Code := ((Tryz.f15.body.map loops).getD [])[n]?.getD .skip
end Go.Ev
namespace Go.Ev
open Go.Proofs
def wsG (ws : Line) (j : Nat) : Bool := (ws.drop j).any fun s => decide (s.size > 40)
theorem drop_any {α : Type} (p : α → Bool) (l : List α) (j : Nat) (x : α) (h : l[j]? = some x) : (l.drop j).any p = (p x || (l.drop (j + 1)).any p) := by
 obtain ⟨hj,rfl⟩ := List.getElem?_eq_some_iff.1 h
 rw [List.drop_eq_getElem_cons hj,List.any_cons]
theorem drop_all {α : Type} (p : α → Bool) (l : List α) (j : Nat) (x : α) (h : l[j]? = some x) : (l.drop j).all p = (p x && (l.drop (j + 1)).all p) := by
 obtain ⟨hj,rfl⟩ := List.getElem?_eq_some_iff.1 h
 rw [List.drop_eq_getElem_cons hj,List.all_cons]
theorem at_lt {α : Type} (l : List α) (j : Nat) (h : j < l.length) : ∃ x,l[j]? = some x := ⟨l[j],List.getElem?_eq_getElem h⟩
theorem loop38c {e : Exts} (xs lxs : List AV) (ch : AV) (hch : SlOf 2 xs ch) (i k : Nat) (id : Int) (l lx : AV) (hy : xs[i]? = some (.agg [intA id,l])) (hl : SlOf 1 lxs l) (hk : lxs[k]? = some lx) (ws : Line) (hlx : SlOf 1 (strs ws) lx) (hn : ws.length < 2 ^ 63) (K : Post) :
  ∀ m j : Nat,j + m = ws.length → (wsG ws j = false → AtK K (.exit 4) ⟨75,[(0,.agg [ch]),(1,.ptr 0 0 0),(2,.v (.bool false)),(9,.v (.bool false)),(3,intA i),(14,.v (.bool true)),(24,.v (.bool false)),(4,intA k),(33,.v (.bool true)),(46,.v (.bool false)),(5,intA (ws.length : Nat))],[]⟩ ⟨[some (.cells 0 0 24 1 false [ch])],0⟩) → (wsG ws j = true → ∀ tl HH,assoc 2 tl = some (.v (.bool true)) → AtK K .ret ⟨75,tl,[]⟩ HH) →
  Lp (Cx e) 15 none [0,1,2,9,3,14,24,4,33,46,5] (body38 2) ⟨75,[(0,.agg [ch]),(1,.ptr 0 0 0),(2,.v (.bool false)),(9,.v (.bool false)),(3,intA i),(14,.v (.bool true)),(24,.v (.bool false)),(4,intA k),(33,.v (.bool true)),(46,.v (.bool false)),(5,intA j)],[]⟩ ⟨[some (.cells 0 0 24 1 false [ch])],0⟩ K := by
 intro m
 induction m with
 | zero =>
  intro j hj h1 h2
  rw [Lp_step]
  generalize hK : loopK (Cx e) 15 none [0,1,2,9,3,14,24,4,33,46,5] (body38 2) _ K = KK
  unfold body38
  obtain rfl : j = ws.length := by omega
  simp only [Tryz.f15,loops,Option.map_some,Option.getD_some,List.nil_append,List.append_nil,List.cons_append,List.getElem?_cons_zero,List.getElem?_cons_succ]
  simp -implicitDefEqProofs only [go_sem,↓reduceIte,intA,Int.lt_irrefl,hch.len,hch.idx hy,hl.len,hl.idx hk,hlx.len,hlx.cells,strs_len]
  subst hK
  simp -implicitDefEqProofs only [go_sem,↓reduceIte]
  exact h1 (by simp [wsG])
 | succ m ih =>
  intro j hj h1 h2
  rw [Lp_step]
  generalize hK : loopK (Cx e) 15 none [0,1,2,9,3,14,24,4,33,46,5] (body38 2) _ K = KK
  unfold body38
  have hlt : (j : Int) < ((ws.length : Nat) : Int) := by omega
  have hw := wrap_succ j (by omega)
  have hj0 : (0 : Int) ≤ (j : Int) := by omega
  simp only [Tryz.f15,loops,Option.map_some,Option.getD_some,List.nil_append,List.append_nil,List.cons_append,List.getElem?_cons_zero,List.getElem?_cons_succ]
  obtain ⟨s,hs⟩ := at_lt ws j (by omega)
  have hd : wsG ws j = (decide (s.size > 40) || wsG ws (j + 1)) := drop_any _ ws j s hs
  by_cases c1 : 40 < (s.size : Int)
  ·simp -implicitDefEqProofs only [go_sem,↓reduceIte,intA,hlt,hw,hch.len,hch.idx hy,hl.len,hl.idx hk,hlx.len,hlx.cells,strs_len,hlx.idx (strs_get hs),c1]
   subst hK
   simp -implicitDefEqProofs only [go_sem,↓reduceIte]
   exact h2 (by rw [hd];simp;left;omega) _ _ rfl
  ·simp -implicitDefEqProofs only [go_sem,↓reduceIte,intA,hlt,hw,hch.len,hch.idx hy,hl.len,hl.idx hk,hlx.len,hlx.cells,strs_len,hlx.idx (strs_get hs),c1]
   subst hK
   simp -implicitDefEqProofs only [go_sem,↓reduceIte]
   have hd' : wsG ws j = wsG ws (j + 1) := by rw [hd];simp;omega
   rw [hd'] at h1 h2
   exact ih (j + 1) (by omega) h1 h2
def lnG (ls : List Line) (j : Nat) : Bool := (ls.drop j).any greatL
def chG (t : Txt) (j : Nat) : Bool := (t.drop j).any greatC
theorem greatL_eq (ws : Line) : greatL ws = (decide (ws.length > 15) || wsG ws 0) := rfl
theorem loop38b {e : Exts} (xs lxs : List AV) (ch : AV) (hch : SlOf 2 xs ch) (i : Nat) (id : Int) (l : AV) (hy : xs[i]? = some (.agg [intA id,l])) (hl : SlOf 1 lxs l) (ls : List Line) (hls : All2 LineA ls lxs) (hn : ls.length < 2 ^ 63) (hz : ∀ s ∈ ls,s.length < 2 ^ 63) (K : Post) :
  ∀ m j : Nat,j + m = ls.length → (lnG ls j = false → AtK K (.exit 2) ⟨75,[(0,.agg [ch]),(1,.ptr 0 0 0),(2,.v (.bool false)),(9,.v (.bool false)),(3,intA i),(14,.v (.bool true)),(24,.v (.bool false)),(4,intA (ls.length : Nat))],[]⟩ ⟨[some (.cells 0 0 24 1 false [ch])],0⟩) → (lnG ls j = true → ∀ tl HH,assoc 2 tl = some (.v (.bool true)) → AtK K .ret ⟨75,tl,[]⟩ HH) →
  Lp (Cx e) 15 none [0,1,2,9,3,14,24,4] (body38 1) ⟨75,[(0,.agg [ch]),(1,.ptr 0 0 0),(2,.v (.bool false)),(9,.v (.bool false)),(3,intA i),(14,.v (.bool true)),(24,.v (.bool false)),(4,intA j)],[]⟩ ⟨[some (.cells 0 0 24 1 false [ch])],0⟩ K := by
 intro m
 induction m with
 | zero =>
  intro j hj h1 h2
  rw [Lp_step]
  generalize hK : loopK (Cx e) 15 none [0,1,2,9,3,14,24,4] (body38 1) _ K = KK
  unfold body38
  obtain rfl : j = ls.length := by omega
  simp only [Tryz.f15,loops,Option.map_some,Option.getD_some,List.nil_append,List.append_nil,List.cons_append,List.getElem?_cons_zero,List.getElem?_cons_succ]
  simp -implicitDefEqProofs only [go_sem,↓reduceIte,intA,Int.lt_irrefl,hch.len,hch.idx hy,hl.len,← hls.1]
  subst hK
  simp -implicitDefEqProofs only [go_sem,↓reduceIte]
  exact h1 (by simp [lnG])
 | succ m ih =>
  intro j hj h1 h2
  rw [Lp_step]
  generalize hK : loopK (Cx e) 15 none [0,1,2,9,3,14,24,4] (body38 1) _ K = KK
  unfold body38
  have hlt : (j : Int) < ((ls.length : Nat) : Int) := by omega
  have hw := wrap_succ j (by omega)
  have hj0 : (0 : Int) ≤ (j : Int) := by omega
  simp only [Tryz.f15,loops,Option.map_some,Option.getD_some,List.nil_append,List.append_nil,List.cons_append,List.getElem?_cons_zero,List.getElem?_cons_succ]
  obtain ⟨ws,hs⟩ := at_lt ls j (by omega)
  obtain ⟨lx,hk,hlx⟩ := hls.get hs
  have hlx : SlOf 1 (strs ws) lx := hlx
  have hd : lnG ls j = (greatL ws || lnG ls (j + 1)) := drop_any _ ls j ws hs
  by_cases c1 : 15 < (ws.length : Int)
  ·simp -implicitDefEqProofs only [go_sem,↓reduceIte,intA,hlt,hw,hch.len,hch.idx hy,hl.len,hl.idx hk,hlx.len,hlx.cells,strs_len,← hls.1,c1]
   subst hK
   simp -implicitDefEqProofs only [go_sem,↓reduceIte]
   exact h2 (by rw [hd,greatL_eq];simp;left;left;omega) _ _ rfl
  ·simp -implicitDefEqProofs only [go_sem,↓reduceIte,intA,hlt,hw,hch.len,hch.idx hy,hl.len,hl.idx hk,hlx.len,hlx.cells,strs_len,← hls.1,c1]
   refine loop38c xs lxs ch hch i j id l lx hy hl hk ws hlx (hz ws (List.mem_of_getElem? hs)) _ ws.length 0 (by omega) ?_ ?_
   ·intro hf
    simp -implicitDefEqProofs only [go_sem,↓reduceIte,intA,hw]
    subst hK
    simp -implicitDefEqProofs only [go_sem,↓reduceIte]
    have hd' : lnG ls j = lnG ls (j + 1) := by rw [hd,greatL_eq,hf];simp;omega
    rw [hd'] at h1 h2
    exact ih (j + 1) (by omega) h1 h2
   ·intro hf l HH hl
    subst hK
    simp -implicitDefEqProofs only [go_sem,↓reduceIte]
    exact h2 (by rw [hd,greatL_eq,hf];simp) l HH hl
theorem loop38a {e : Exts} (xs : List AV) (ch : AV) (hch : SlOf 2 xs ch) (t : Txt) (ht : Fits t) (hn : t.length < 2 ^ 63) (hall : All2 ChapA t xs) (K : Post) :
  ∀ m j : Nat,j + m = t.length → (chG t j = false → AtK K (.exit 0) ⟨75,[(0,.agg [ch]),(1,.ptr 0 0 0),(2,.v (.bool false)),(9,.v (.bool false)),(3,intA (t.length : Nat))],[]⟩ ⟨[some (.cells 0 0 24 1 false [ch])],0⟩) → (chG t j = true → ∀ tl HH,assoc 2 tl = some (.v (.bool true)) → AtK K .ret ⟨75,tl,[]⟩ HH) →
  Lp (Cx e) 15 none [0,1,2,9,3] (body38 0) ⟨75,[(0,.agg [ch]),(1,.ptr 0 0 0),(2,.v (.bool false)),(9,.v (.bool false)),(3,intA j)],[]⟩ ⟨[some (.cells 0 0 24 1 false [ch])],0⟩ K := by
 intro m
 induction m with
 | zero =>
  intro j hj h1 h2
  rw [Lp_step]
  generalize hK : loopK (Cx e) 15 none [0,1,2,9,3] (body38 0) _ K = KK
  unfold body38
  obtain rfl : j = t.length := by omega
  simp only [Tryz.f15,loops,Option.map_some,Option.getD_some,List.nil_append,List.append_nil,List.cons_append,List.getElem?_cons_zero,List.getElem?_cons_succ]
  simp -implicitDefEqProofs only [go_sem,↓reduceIte,intA,Int.lt_irrefl,hch.len,← hall.1]
  subst hK
  simp -implicitDefEqProofs only [go_sem,↓reduceIte]
  exact h1 (by simp [chG])
 | succ m ih =>
  intro j hj h1 h2
  rw [Lp_step]
  generalize hK : loopK (Cx e) 15 none [0,1,2,9,3] (body38 0) _ K = KK
  unfold body38
  have hlt : (j : Int) < ((t.length : Nat) : Int) := by omega
  have hw := wrap_succ j (by omega)
  have hj0 : (0 : Int) ≤ (j : Int) := by omega
  simp only [Tryz.f15,loops,Option.map_some,Option.getD_some,List.nil_append,List.append_nil,List.cons_append,List.getElem?_cons_zero,List.getElem?_cons_succ]
  have hfit := ht.chs
  have hw := wrap_succ j (by omega)
  obtain ⟨c,hs⟩ := at_lt t j (by omega)
  obtain ⟨y,hy,l,rfl,lxs,hl,hls⟩ := hall.get hs
  have hd : chG t j = (greatC c || chG t (j + 1)) := drop_any _ t j c hs
  have hm := List.mem_of_getElem? hs
  by_cases c1 : 15 < (c.2.length : Int)
  ·simp -implicitDefEqProofs only [go_sem,↓reduceIte,intA,hlt,hw,hch.len,hch.idx hy,hl.len,hl.cells,← hls.1,← hall.1,c1]
   subst hK
   simp -implicitDefEqProofs only [go_sem,↓reduceIte]
   exact h2 (by rw [hd];unfold greatC;simp;left;left;omega) _ _ rfl
  ·simp -implicitDefEqProofs only [go_sem,↓reduceIte,intA,hlt,hw,hch.len,hch.idx hy,hl.len,hl.cells,← hls.1,← hall.1,c1]
   refine loop38b xs lxs ch hch j c.1 l hy hl c.2 hls (ht.lines c hm) (ht.words c hm) _ c.2.length 0 (by omega) ?_ ?_
   ·intro hf
    simp -implicitDefEqProofs only [go_sem,↓reduceIte,intA,hw]
    subst hK
    simp -implicitDefEqProofs only [go_sem,↓reduceIte]
    have hd' : chG t j = chG t (j + 1) := by
     rw [hd];unfold greatC;rw [show c.2.any greatL = lnG c.2 0 from rfl,hf];simp;omega
    rw [hd'] at h1 h2
    exact ih (j + 1) (by omega) h1 h2
   ·intro hf l HH hl
    subst hK
    simp -implicitDefEqProofs only [go_sem,↓reduceIte]
    exact h2 (by rw [hd];unfold greatC;rw [show c.2.any greatL = lnG c.2 0 from rfl,hf];simp) l HH hl
theorem ans38 {e : Exts} (t : Txt) (ht : Fits t) (x : AV) (hx : TextA t x) : Ans (Cx e) 15 [x] (.v (.bool (greatT t))) := by
 obtain ⟨ch,rfl,xs,hch,hall⟩ := hx
 unfold Ans
 rw [fn_step (fn_15 e) (show Tryz.f15.body = some _ from rfl)]
 by_cases h1 : 10 < (t.length : Int)
 ·simp -implicitDefEqProofs only [Tryz.f15,intA,go_sem,↓reduceIte,hch.len,hch.cells,hch.flat,hch.bound,← hall.1,h1]
  have : greatT t = true := by unfold greatT;simp;left;omega
  rw [this]
 ·simp -implicitDefEqProofs only [Tryz.f15,intA,go_sem,↓reduceIte,hch.len,hch.cells,hch.flat,hch.bound,← hall.1,h1]
  refine loop38a xs ch hch t ht ht.chs hall _ t.length 0 (by omega) ?_ ?_
  ·intro hf
   simp -implicitDefEqProofs only [go_sem,↓reduceIte]
   have : greatT t = false := by unfold greatT;rw [show t.any greatC = chG t 0 from rfl,hf];simp;omega
   rw [this]
  ·intro hf l HH hl
   simp -implicitDefEqProofs only [go_sem,↓reduceIte,hl]
   have : greatT t = true := by unfold greatT;rw [show t.any greatC = chG t 0 from rfl,hf];simp
   rw [this]
end Go.Ev
namespace Go.Ev
open Go.Proofs
def wsB (ws : Line) (j : Nat) : Bool := !(ws.drop j).all wordB
def lineB (l : Line) : Bool := withinB 1 10 [(l.length : Int)] && l.all wordB
def lnB (ls : List Line) (j : Nat) : Bool := !(ls.drop j).all lineB
def idB (t : Txt) (id : Int) (j n : Nat) : Bool := ((t.take n).drop j).any fun c => decide (c.1 = id)
def condC (t : Txt) (i : Nat) (c : Chap) : Bool := withinB 0 9999 [c.1] && withinB 1 10 [(c.2.length : Int)] && !idB t c.1 0 i && c.2.all lineB
def okFrom (t : Txt) : Nat → Txt → Bool
 | _,[] => true
 | j,c :: r => condC t j c && okFrom t (j + 1) r
def textB (t : Txt) : Bool := withinB 1 6 [(t.length : Int)] && okFrom t 0 t
noncomputable def body39 (n : Nat) : Code := ((Tryz.f56.body.map loops).getD [])[n]?.getD .skip
theorem idB_step (t : Txt) (id : Int) (n j : Nat) (c : Chap) (_hn : n ≤ t.length) (hj : j < n) (h : t[j]? = some c) : idB t id j n = (decide (c.1 = id) || idB t id (j + 1) n) := by
 unfold idB
 exact drop_any _ _ j c (by rw [List.getElem?_take,if_pos hj];exact h)
theorem loop39i {e : Exts} (t : Txt) (xs : List AV) (ch : AV) (hch : SlOf 2 xs ch) (hall : All2 ChapA t xs) (i : Nat) (hi : i ≤ t.length) (hn : i < 2 ^ 63) (id : Int) (l : AV) (K : Post) :
  ∀ m j : Nat,j + m = i → (idB t id j i = false → AtK K (.exit 2) ⟨85,[(0,.agg [ch]),(1,.ptr 0 0 0),(2,.v (.bool false)),(12,.v (.bool false)),(3,intA i),(17,.v (.bool true)),(4,.ptr 1 0 0),(35,.v (.bool false)),(5,intA (i : Nat))],[]⟩ ⟨[some (.cells 0 0 24 1 false [ch]),some (.cells 0 0 112 1 false [intA id,l])],0⟩) → (idB t id j i = true → ∀ tl HH,assoc 2 tl = some (.v (.bool false)) → AtK K .ret ⟨85,tl,[]⟩ HH) →
  Lp (Cx e) 56 none [0,1,2,12,3,17,4,35,5] (body39 1) ⟨85,[(0,.agg [ch]),(1,.ptr 0 0 0),(2,.v (.bool false)),(12,.v (.bool false)),(3,intA i),(17,.v (.bool true)),(4,.ptr 1 0 0),(35,.v (.bool false)),(5,intA j)],[]⟩ ⟨[some (.cells 0 0 24 1 false [ch]),some (.cells 0 0 112 1 false [intA id,l])],0⟩ K := by
 intro m
 induction m with
 | zero =>
  intro j hj h1 h2
  rw [Lp_step]
  generalize hK : loopK (Cx e) 56 none [0,1,2,12,3,17,4,35,5] (body39 1) _ K = KK
  unfold body39
  obtain rfl : j = i := by omega
  simp only [Tryz.f56,loops,Option.map_some,Option.getD_some,List.nil_append,List.append_nil,List.cons_append,List.getElem?_cons_zero,List.getElem?_cons_succ]
  simp -implicitDefEqProofs only [go_sem,↓reduceIte,intA,Int.lt_irrefl,hch.len]
  subst hK
  simp -implicitDefEqProofs only [go_sem,↓reduceIte]
  exact h1 (by unfold idB;rw [List.drop_of_length_le (by simp;omega)];rfl)
 | succ m ih =>
  intro j hj h1 h2
  rw [Lp_step]
  generalize hK : loopK (Cx e) 56 none [0,1,2,12,3,17,4,35,5] (body39 1) _ K = KK
  unfold body39
  have hlt : (j : Int) < ((i : Nat) : Int) := by omega
  have hw := wrap_succ j (by omega)
  have hj0 : (0 : Int) ≤ (j : Int) := by omega
  simp only [Tryz.f56,loops,Option.map_some,Option.getD_some,List.nil_append,List.append_nil,List.cons_append,List.getElem?_cons_zero,List.getElem?_cons_succ]
  obtain ⟨c,hs⟩ := at_lt t j (by omega)
  obtain ⟨y,hy,lj,rfl, -⟩ := hall.get hs
  have hd := idB_step t id i j c hi (by omega) hs
  simp -implicitDefEqProofs only [go_sem,↓reduceIte,intA,hlt,hw]
  refine wp_draw (by kernel_rfl) ?_
  by_cases c1 : c.1 = id
  ·simp -implicitDefEqProofs only [go_sem,↓reduceIte,intA,hlt,hw,hch.idx hy,c1]
   subst hK
   simp -implicitDefEqProofs only [go_sem,↓reduceIte]
   exact h2 (by rw [hd];simp [c1]) _ _ rfl
  ·simp -implicitDefEqProofs only [go_sem,↓reduceIte,intA,hlt,hw,hch.idx hy,c1]
   subst hK
   simp -implicitDefEqProofs only [go_sem,↓reduceIte]
   have hd' : idB t id j i = idB t id (j + 1) i := by rw [hd];simp [c1]
   rw [hd'] at h1 h2
   exact ih (j + 1) (by omega) h1 h2
theorem loop39w {e : Exts} (he : Quiet e) (ch : AV) (i k : Nat) (id : Int) (lxs : List AV) (l lx : AV) (hl : SlOf 1 lxs l) (hk : lxs[k]? = some lx) (ws : Line) (hlx : SlOf 1 (strs ws) lx) (hn : ws.length < 2 ^ 63) (hz : ∀ s ∈ ws,s.size < 2 ^ 63) (K : Post) :
  ∀ m j : Nat,j + m = ws.length → (wsB ws j = false → AtK K (.exit 6) ⟨85,[(0,.agg [ch]),(1,.ptr 0 0 0),(2,.v (.bool false)),(12,.v (.bool false)),(3,intA i),(17,.v (.bool true)),(4,.ptr 1 0 0),(35,.v (.bool false)),(5,intA i),(6,intA k),(54,.v (.bool true)),(64,.v (.bool false)),(7,intA (ws.length : Nat))],[]⟩ ⟨[some (.cells 0 0 24 1 false [ch]),some (.cells 0 0 112 1 false [intA id,l])],0⟩) → (wsB ws j = true → ∀ tl HH,assoc 2 tl = some (.v (.bool false)) → AtK K .ret ⟨85,tl,[]⟩ HH) →
  Lp (Cx e) 56 none [0,1,2,12,3,17,4,35,5,6,54,64,7] (body39 3) ⟨85,[(0,.agg [ch]),(1,.ptr 0 0 0),(2,.v (.bool false)),(12,.v (.bool false)),(3,intA i),(17,.v (.bool true)),(4,.ptr 1 0 0),(35,.v (.bool false)),(5,intA i),(6,intA k),(54,.v (.bool true)),(64,.v (.bool false)),(7,intA j)],[]⟩ ⟨[some (.cells 0 0 24 1 false [ch]),some (.cells 0 0 112 1 false [intA id,l])],0⟩ K := by
 intro m
 induction m with
 | zero =>
  intro j hj h1 h2
  rw [Lp_step]
  generalize hK : loopK (Cx e) 56 none [0,1,2,12,3,17,4,35,5,6,54,64,7] (body39 3) _ K = KK
  unfold body39
  obtain rfl : j = ws.length := by omega
  simp only [Tryz.f56,loops,Option.map_some,Option.getD_some,List.nil_append,List.append_nil,List.cons_append,List.getElem?_cons_zero,List.getElem?_cons_succ]
  simp -implicitDefEqProofs only [go_sem,↓reduceIte,intA,Int.lt_irrefl,hl.len,hl.cells,hl.idx hk,hlx.len,hlx.cells,strs_len]
  subst hK
  simp -implicitDefEqProofs only [go_sem,↓reduceIte]
  exact h1 (by unfold wsB;rw [List.drop_of_length_le (by simp)];rfl)
 | succ m ih =>
  intro j hj h1 h2
  rw [Lp_step]
  generalize hK : loopK (Cx e) 56 none [0,1,2,12,3,17,4,35,5,6,54,64,7] (body39 3) _ K = KK
  unfold body39
  have hlt : (j : Int) < ((ws.length : Nat) : Int) := by omega
  have hw := wrap_succ j (by omega)
  have hj0 : (0 : Int) ≤ (j : Int) := by omega
  simp only [Tryz.f56,loops,Option.map_some,Option.getD_some,List.nil_append,List.append_nil,List.cons_append,List.getElem?_cons_zero,List.getElem?_cons_succ]
  obtain ⟨s,hs⟩ := at_lt ws j (by omega)
  have hd : wsB ws j = (!wordB s || wsB ws (j + 1)) := by unfold wsB;rw [drop_all _ ws j s hs,Bool.not_and]
  have hc := call61 he s (hz s (List.mem_of_getElem? hs))
  cases c1 : wordB s
  ·rw [c1] at hc
   simp -implicitDefEqProofs only [go_sem,↓reduceIte,intA,hlt,hw,hl.len,hl.cells,hl.idx hk,hlx.len,hlx.cells,strs_len,hlx.idx (strs_get hs),hc]
   subst hK
   simp -implicitDefEqProofs only [go_sem,↓reduceIte]
   exact h2 (by rw [hd,c1];rfl) _ _ rfl
  ·rw [c1] at hc
   simp -implicitDefEqProofs only [go_sem,↓reduceIte,intA,hlt,hw,hl.len,hl.cells,hl.idx hk,hlx.len,hlx.cells,strs_len,hlx.idx (strs_get hs),hc]
   subst hK
   simp -implicitDefEqProofs only [go_sem,↓reduceIte]
   have hd' : wsB ws j = wsB ws (j + 1) := by rw [hd,c1];rfl
   rw [hd'] at h1 h2
   exact ih (j + 1) (by omega) h1 h2
theorem loop39l {e : Exts} (he : Quiet e) (ch : AV) (i : Nat) (id : Int) (lxs : List AV) (l : AV) (hl : SlOf 1 lxs l) (ls : List Line) (hls : All2 LineA ls lxs) (hn : ls.length < 2 ^ 63) (hz : ∀ s ∈ ls,s.length < 2 ^ 63) (hzz : ∀ l ∈ ls,∀ s ∈ l,s.size < 2 ^ 63) (K : Post) :
  ∀ m j : Nat,j + m = ls.length → (lnB ls j = false → AtK K (.exit 4) ⟨85,[(0,.agg [ch]),(1,.ptr 0 0 0),(2,.v (.bool false)),(12,.v (.bool false)),(3,intA i),(17,.v (.bool true)),(4,.ptr 1 0 0),(35,.v (.bool false)),(5,intA i),(6,intA (ls.length : Nat))],[]⟩ ⟨[some (.cells 0 0 24 1 false [ch]),some (.cells 0 0 112 1 false [intA id,l])],0⟩) → (lnB ls j = true → ∀ tl HH,assoc 2 tl = some (.v (.bool false)) → AtK K .ret ⟨85,tl,[]⟩ HH) →
  Lp (Cx e) 56 none [0,1,2,12,3,17,4,35,5,6] (body39 2) ⟨85,[(0,.agg [ch]),(1,.ptr 0 0 0),(2,.v (.bool false)),(12,.v (.bool false)),(3,intA i),(17,.v (.bool true)),(4,.ptr 1 0 0),(35,.v (.bool false)),(5,intA i),(6,intA j)],[]⟩ ⟨[some (.cells 0 0 24 1 false [ch]),some (.cells 0 0 112 1 false [intA id,l])],0⟩ K := by
 intro m
 induction m with
 | zero =>
  intro j hj h1 h2
  rw [Lp_step]
  generalize hK : loopK (Cx e) 56 none [0,1,2,12,3,17,4,35,5,6] (body39 2) _ K = KK
  unfold body39
  obtain rfl : j = ls.length := by omega
  simp only [Tryz.f56,loops,Option.map_some,Option.getD_some,List.nil_append,List.append_nil,List.cons_append,List.getElem?_cons_zero,List.getElem?_cons_succ]
  simp -implicitDefEqProofs only [go_sem,↓reduceIte,intA,Int.lt_irrefl,hl.len,hl.cells,← hls.1]
  subst hK
  simp -implicitDefEqProofs only [go_sem,↓reduceIte]
  exact h1 (by unfold lnB;rw [List.drop_of_length_le (by simp)];rfl)
 | succ m ih =>
  intro j hj h1 h2
  rw [Lp_step]
  generalize hK : loopK (Cx e) 56 none [0,1,2,12,3,17,4,35,5,6] (body39 2) _ K = KK
  unfold body39
  have hlt : (j : Int) < ((ls.length : Nat) : Int) := by omega
  have hw := wrap_succ j (by omega)
  have hj0 : (0 : Int) ≤ (j : Int) := by omega
  simp only [Tryz.f56,loops,Option.map_some,Option.getD_some,List.nil_append,List.append_nil,List.cons_append,List.getElem?_cons_zero,List.getElem?_cons_succ]
  obtain ⟨ws,hs⟩ := at_lt ls j (by omega)
  obtain ⟨lx,hk,hlx⟩ := hls.get hs
  have hlx : SlOf 1 (strs ws) lx := hlx
  have hd : lnB ls j = (!lineB ws || lnB ls (j + 1)) := by unfold lnB;rw [drop_all _ ls j ws hs,Bool.not_and]
  have hm := List.mem_of_getElem? hs
  have hc := call43 he (ws.length : Int) 1 10
  cases c1 : withinB 1 10 [(ws.length : Int)]
  ·rw [c1] at hc
   simp -implicitDefEqProofs only [go_sem,↓reduceIte,intA,hlt,hw,hl.len,hl.cells,hl.idx hk,hlx.len,hlx.cells,strs_len,← hls.1,hc]
   subst hK
   simp -implicitDefEqProofs only [go_sem,↓reduceIte]
   exact h2 (by rw [hd];unfold lineB;rw [c1];rfl) _ _ rfl
  ·rw [c1] at hc
   simp -implicitDefEqProofs only [go_sem,↓reduceIte,intA,hlt,hw,hl.len,hl.cells,hl.idx hk,hlx.len,hlx.cells,strs_len,← hls.1,hc]
   refine loop39w he ch i j id lxs l lx hl hk ws hlx (hz ws hm) (hzz ws hm) _ ws.length 0 (by omega) ?_ ?_
   ·intro hf
    simp -implicitDefEqProofs only [go_sem,↓reduceIte,intA,hw]
    subst hK
    simp -implicitDefEqProofs only [go_sem,↓reduceIte]
    have hf' : ws.all wordB = true := by unfold wsB at hf;simpa using hf
    have hd' : lnB ls j = lnB ls (j + 1) := by rw [hd];unfold lineB;rw [c1,hf'];rfl
    rw [hd'] at h1 h2
    exact ih (j + 1) (by omega) h1 h2
   ·intro hf l HH hl
    subst hK
    simp -implicitDefEqProofs only [go_sem,↓reduceIte]
    have hf' : ws.all wordB = false := by unfold wsB at hf;simpa using hf
    exact h2 (by rw [hd];unfold lineB;rw [hf',Bool.and_false];rfl) l HH hl
def chB (t : Txt) (j : Nat) : Bool := !okFrom t j (t.drop j)
theorem chB_step (t : Txt) (j : Nat) (c : Chap) (h : t[j]? = some c) : chB t j = (!condC t j c || chB t (j + 1)) := by
 obtain ⟨hj,rfl⟩ := List.getElem?_eq_some_iff.1 h
 unfold chB
 rw [List.drop_eq_getElem_cons hj]
 simp only [okFrom,Bool.not_and]
theorem loop39c {e : Exts} (he : Quiet e) (t : Txt) (ht : Fits t) (xs : List AV) (ch : AV) (hch : SlOf 2 xs ch) (hn : t.length < 2 ^ 63) (hall : All2 ChapA t xs) (K : Post) :
  ∀ m j : Nat,j + m = t.length → (chB t j = false → AtK K (.exit 0) ⟨85,[(0,.agg [ch]),(1,.ptr 0 0 0),(2,.v (.bool false)),(12,.v (.bool false)),(3,intA (t.length : Nat))],[]⟩ ⟨[some (.cells 0 0 24 1 false [ch])],0⟩) → (chB t j = true → ∀ tl HH,assoc 2 tl = some (.v (.bool false)) → AtK K .ret ⟨85,tl,[]⟩ HH) →
  Lp (Cx e) 56 none [0,1,2,12,3] (body39 0) ⟨85,[(0,.agg [ch]),(1,.ptr 0 0 0),(2,.v (.bool false)),(12,.v (.bool false)),(3,intA j)],[]⟩ ⟨[some (.cells 0 0 24 1 false [ch])],0⟩ K := by
 intro m
 induction m with
 | zero =>
  intro j hj h1 h2
  rw [Lp_step]
  generalize hK : loopK (Cx e) 56 none [0,1,2,12,3] (body39 0) _ K = KK
  unfold body39
  obtain rfl : j = t.length := by omega
  simp only [Tryz.f56,loops,Option.map_some,Option.getD_some,List.nil_append,List.append_nil,List.cons_append,List.getElem?_cons_zero,List.getElem?_cons_succ]
  simp -implicitDefEqProofs only [go_sem,↓reduceIte,intA,Int.lt_irrefl,hch.len,← hall.1]
  subst hK
  simp -implicitDefEqProofs only [go_sem,↓reduceIte]
  exact h1 (by unfold chB;rw [List.drop_of_length_le (by simp)];rfl)
 | succ m ih =>
  intro j hj h1 h2
  rw [Lp_step]
  generalize hK : loopK (Cx e) 56 none [0,1,2,12,3] (body39 0) _ K = KK
  unfold body39
  have hlt : (j : Int) < ((t.length : Nat) : Int) := by omega
  have hw := wrap_succ j (by omega)
  have hj0 : (0 : Int) ≤ (j : Int) := by omega
  simp only [Tryz.f56,loops,Option.map_some,Option.getD_some,List.nil_append,List.append_nil,List.cons_append,List.getElem?_cons_zero,List.getElem?_cons_succ]
  obtain ⟨c,hs⟩ := at_lt t j (by omega)
  obtain ⟨y,hy,l,rfl,lxs,hl,hls⟩ := hall.get hs
  have hd := chB_step t j c hs
  have hm := List.mem_of_getElem? hs
  have hca := call43 he c.1 0 9999
  have hcb := call43 he (c.2.length : Int) 1 10
  cases c1 : withinB 0 9999 [c.1]
  ·rw [c1] at hca
   simp -implicitDefEqProofs only [go_sem,↓reduceIte,intA,hlt,hw,hch.len,hch.idx hy,hl.len,hl.cells,hl.flat,hl.bound,← hls.1,← hall.1,hca]
   subst hK
   simp -implicitDefEqProofs only [go_sem,↓reduceIte]
   exact h2 (by rw [hd];unfold condC;rw [c1];rfl) _ _ rfl
  ·rw [c1] at hca
   cases c2 : withinB 1 10 [(c.2.length : Int)]
   ·rw [c2] at hcb
    simp -implicitDefEqProofs only [go_sem,↓reduceIte,intA,hlt,hw,hch.len,hch.idx hy,hl.len,hl.cells,hl.flat,hl.bound,← hls.1,← hall.1,hca,hcb]
    subst hK
    simp -implicitDefEqProofs only [go_sem,↓reduceIte]
    exact h2 (by rw [hd];unfold condC;rw [c1,c2];rfl) _ _ rfl
   ·rw [c2] at hcb
    simp -implicitDefEqProofs only [go_sem,↓reduceIte,intA,hlt,hw,hch.len,hch.idx hy,hl.len,hl.cells,hl.flat,hl.bound,← hls.1,← hall.1,hca,hcb]
    refine loop39i t xs ch hch hall j (by omega) (by omega) c.1 l _ j 0 (by omega) ?_ ?_
    ·intro hf
     simp -implicitDefEqProofs only [go_sem,↓reduceIte,intA]
     refine loop39l he ch j c.1 lxs l hl c.2 hls (ht.lines c hm) (ht.words c hm) (ht.size c hm) _ c.2.length 0 (by omega) ?_ ?_
     ·intro hg
      have hg' : c.2.all lineB = true := by unfold lnB at hg;simpa using hg
      simp -implicitDefEqProofs only [go_sem,↓reduceIte,intA,hw]
      subst hK
      simp -implicitDefEqProofs only [go_sem,↓reduceIte,trim_at,hch.flat,hch.bound,hch.cells]
      have hd' : chB t j = chB t (j + 1) := by rw [hd];unfold condC;rw [c1,c2,hf,hg'];rfl
      rw [hd'] at h1 h2
      exact ih (j + 1) (by omega) h1 h2
     ·intro hg tl HH htl
      have hg' : c.2.all lineB = false := by unfold lnB at hg;simpa using hg
      subst hK
      simp -implicitDefEqProofs only [go_sem,↓reduceIte]
      exact h2 (by rw [hd];unfold condC;rw [hg',Bool.and_false];rfl) tl HH htl
    ·intro hf tl HH htl
     subst hK
     simp -implicitDefEqProofs only [go_sem,↓reduceIte]
     exact h2 (by rw [hd];unfold condC;rw [c1,c2,hf];rfl) tl HH htl
theorem ans39 {e : Exts} (he : Quiet e) (t : Txt) (ht : Fits t) (x : AV) (hx : TextA t x) : Ans (Cx e) 56 [x] (.v (.bool (textB t))) := by
 obtain ⟨ch,rfl,xs,hch,hall⟩ := hx
 unfold Ans
 rw [fn_step (fn_56 e) (show Tryz.f56.body = some _ from rfl)]
 have hc := call43 he (t.length : Int) 1 6
 cases h1 : withinB 1 6 [(t.length : Int)]
 ·rw [h1] at hc
  simp -implicitDefEqProofs only [Tryz.f56,intA,go_sem,↓reduceIte,hch.len,hch.cells,hch.flat,hch.bound,← hall.1,hc]
  unfold textB;rw [h1];rfl
 ·rw [h1] at hc
  simp -implicitDefEqProofs only [Tryz.f56,intA,go_sem,↓reduceIte,hch.len,hch.cells,hch.flat,hch.bound,← hall.1,hc]
  refine loop39c he t ht xs ch hch ht.chs hall _ t.length 0 (by omega) ?_ ?_
  ·intro hf
   have hf' : okFrom t 0 t = true := by unfold chB at hf;simpa using hf
   simp -implicitDefEqProofs only [go_sem,↓reduceIte]
   unfold textB;rw [h1,hf'];rfl
  ·intro hf tl HH htl
   have hf' : okFrom t 0 t = false := by unfold chB at hf;simpa using hf
   simp -implicitDefEqProofs only [go_sem,↓reduceIte,htl]
   unfold textB;rw [h1,hf'];rfl
end Go.Ev
namespace Go.Ev
def Heap.plus (H : Heap) (E : List (Option AObj)) : Heap := { H with objs := H.objs ++ E }
theorem plus_size (H : Heap) (E : List (Option AObj)) : (H.plus E).size = H.size + E.length := by simp [Heap.plus,Heap.size]
theorem plus_lock (H : Heap) (E : List (Option AObj)) : (H.plus E).lock = H.lock := rfl
theorem plus_nil (H : Heap) : H.plus [] = H := by simp [Heap.plus]
theorem plus_plus (H : Heap) (E F : List (Option AObj)) : (H.plus E).plus F = H.plus (E ++ F) := by simp [Heap.plus]
theorem plus_get {H : Heap} {b : Nat} (E : List (Option AObj)) (h : b < H.size) : (H.plus E).get b = H.get b := by
 unfold Heap.get Heap.plus;simp only;rw [List.getElem?_append_left h]
theorem plus_get_hi {H : Heap} {b : Nat} (E : List (Option AObj)) (h : H.size ≤ b) : (H.plus E).get b = (E[b - H.size]?).join := by
 unfold Heap.get Heap.plus;simp only;rw [List.getElem?_append_right h];rfl
theorem plus_row {H : Heap} {b v : Nat} (E : List (Option AObj)) (h : b < H.size) : (H.plus E).row b v = H.row b v := by
 unfold Heap.row;rw [plus_get E h]
theorem sop_left {α : Type} (x : α) : ∀ (b : Nat) (l E : List α),b < l.length → setOrPush x b (l ++ E) = setOrPush x b l ++ E
 | _,[],_,h => by simp at h
 | 0,y :: r,E,_ => rfl
 | n + 1,y :: r,E,h => by simp only [List.cons_append,setOrPush];rw [sop_left x n r E (by simpa using h)]
theorem sop_right {α : Type} (x : α) : ∀ (b : Nat) (l E : List α),l.length ≤ b → setOrPush x b (l ++ E) = l ++ setOrPush x (b - l.length) E
 | b,[],E,_ => rfl
 | 0,y :: r,E,h => by simp at h
 | n + 1,y :: r,E,h => by
  simp only [List.cons_append,setOrPush];rw [sop_right x n r E (by simpa using h)];simp
theorem plus_put {H : Heap} {b : Nat} (E : List (Option AObj)) (o : AObj) (h : b < H.size) : (H.plus E).put b o = (H.put b o).plus E := by
 unfold Heap.put Heap.plus;simp only;rw [sop_left _ _ _ _ h]
theorem plus_put_hi {H : Heap} {b : Nat} (E : List (Option AObj)) (o : AObj) (h : H.size ≤ b) : (H.plus E).put b o = H.plus (setOrPush (some o) (b - H.size) E) := by
 unfold Heap.put Heap.plus;simp only;rw [sop_right _ _ _ _ h];rfl
theorem put_push {H : Heap} (o : AObj) : H.put H.size o = H.plus [some o] := by
 have h := plus_put_hi (H := H) (b := H.size) [] o (Nat.le_refl _)
 rw [plus_nil] at h
 rw [h,Nat.sub_self];rfl
theorem plus_push {H : Heap} (E : List (Option AObj)) (o : AObj) : (H.plus E).put (H.plus E).size o = H.plus (E ++ [some o]) := by rw [put_push,plus_plus]
theorem trim_plus {H : Heap} (E F : List (Option AObj)) (vs : List AV) (ms : List Nat) {n : Nat} (hn : n = H.size + E.length) : ∃ G,(H.plus (E ++ F)).trim n vs ms = H.plus (E ++ G) := by
 subst hn
 unfold Heap.trim
 split
 ·refine ⟨[], ?_⟩
  unfold Heap.plus Heap.size
  simp only [List.append_nil]
  congr 1
  rw [← List.append_assoc,List.take_append_of_le_length (by simp),List.take_of_length_le (by simp)]
 ·exact ⟨F,rfl⟩
theorem settle_plus {H : Heap} (E F : List (Option AObj)) {n : Nat} (hn : n = H.size + E.length) : ∃ G,settleH n (H.plus (E ++ F)) = H.plus (E ++ G) := by
 subst hn
 unfold settleH
 split
 ·refine ⟨[], ?_⟩
  unfold Heap.plus Heap.size
  simp only [List.append_nil]
  congr 1
  rw [← List.append_assoc,List.take_append_of_le_length (by simp),List.take_of_length_le (by simp)]
 ·exact ⟨F,rfl⟩
section
variable {C : Cfg} {me : FuncId}
def bodyK (l n : Nat) (K : Bool → Heap → Prop) : Post := fun e _ H3 =>
 ∃ r3 j,loopObj H3 l = some r3 ∧ jumpOf e = some j ∧ K j.isNone ((H3.put l (.loop { r3 with state := if j.isNone then .ready else .done,pending := j })).trim n [] [])
def asgK (C : Cfg) (l n : Nat) (r : ALoop) (K : Bool → Heap → Prop) : Post := fun e a1 H1 =>
 e = .normal ∧ ∃ r1,loopObj H1 l = some r1 ∧ r1.state = .ready ∧ Wp C r.fn (some l) r.body a1 (H1.put l (.loop { r1 with state := .busy })) (bodyK l n K)
theorem round_step {l : Nat} {args : List AV} {H : Heap} {r : ALoop} {K : Bool → Heap → Prop} (hr : loopObj H l = some r) (ha : args.length = r.params.size) (hl : H.lock ≤ l)
  (h : Wp C r.fn (some l) r.assign ⟨r.size,setTmps r.size r.tmps (r.params.toList.zip args),[]⟩ H (asgK C l H.size r K)) :
  ∃ b H',lim C (.round l args H) = some (.ret (.v (.bool b)) H') ∧ K b H' := by
 unfold Wp at h
 rw [bindO_iff] at h
 obtain ⟨⟨e1,a1,H1⟩,h1,he,r1,hr1,hs1,h2⟩ := h
 simp only at he h2 hr1
 subst he
 unfold Wp at h2
 rw [bindO_iff] at h2
 obtain ⟨⟨e2,a2,H3⟩,h3,r3,j,hr3,hj,hK⟩ := h2
 simp only at hr3 hj hK
 refine ⟨j.isNone,_, ?_,hK⟩
 rw [lim_eq]
 simp only [taskA,hr]
 rw [if_pos ⟨ha,hl⟩,h1]
 simp only [hr1,hs1,if_true,h3,hr3,hj]
structure Src (C : Cfg) (l : Nat) (S : Type) (hp : S → Heap) (stp : S → List AV → Bool × S) (ok : List AV → Prop) (live : S → Prop) (n : Nat) : Prop where
 size : ∀ s,(hp s).size = n
 lt : l < n
 lock : ∀ s,(hp s).lock ≤ l
 step : ∀ s x,live s → ok x → (stp s x).1 = true → live (stp s x).2
 round : ∀ s x E,live s → ok x → ∃ G,lim C (.round l x ((hp s).plus E)) = some (.ret (.v (.bool (stp s x).1)) ((hp (stp s x).2).plus (E ++ G)))
def runIt {S : Type} (stp : S → List AV → Bool × S) : List (List AV) → S → Bool × S
 | [],s => (true,s)
 | x :: r,s => if (stp s x).1 then runIt stp r (stp s x).2 else (false,(stp s x).2)
def Yields (C : Cfg) (f : FuncId) (cap : List AV) (items : List (List AV)) : Prop :=
 ∀ (l : Nat) (S : Type) (hp : S → Heap) (stp : S → List AV → Bool × S) (ok : List AV → Prop) (live : S → Prop) (n : Nat),Src C l S hp stp ok live n → (∀ x ∈ items,ok x) →
  ∀ s E,live s → ∃ G,lim C (.call f ([.yld l] ++ cap) ((hp s).plus E)) = some (.ret (.tup []) ((hp (runIt stp items s).2).plus (E ++ G)))
theorem runIt_live {C : Cfg} {l : Nat} {S : Type} {hp : S → Heap} {stp : S → List AV → Bool × S} {ok : List AV → Prop} {live : S → Prop} {n : Nat} (h : Src C l S hp stp ok live n) : ∀ (items : List (List AV)) (s : S),(∀ x ∈ items,ok x) → live s → (runIt stp items s).1 = true → live (runIt stp items s).2
 | [],s,_,hl,_ => hl
 | x :: r,s,ho,hl,hr => by
  unfold runIt at hr ⊢
  by_cases hs : (stp s x).1 = true
  ·simp only [hs,if_true] at hr ⊢
   exact runIt_live h r _ (fun y hy => ho y (List.mem_cons_of_mem _ hy)) (h.step s x hl (ho x List.mem_cons_self) hs) hr
  ·simp only [hs] at hr
   cases hr
theorem callB_yld {f : FuncId} {d : Option Tmp} {args : List AV} {l : Nat} (hy : AV.yld l ∈ args) {H H' : Heap} {v : AV} (h : lim C (.call f args H) = some (.ret v H')) : callB C (lim C) me f d args H = some (v,H'.trim H.size [v] []) := by
 have hb : Nat.beq (boundL args) 0 = false := by
  have h1 : ¬ boundL args ≤ 0 := fun hle => by
   have := boundL_le.1 hle _ hy
   simp [bound] at this
  cases hq : Nat.beq (boundL args) 0
  ·rfl
  ·exact absurd (Nat.le_of_eq (Nat.eq_of_beq_eq_true hq)) h1
 have hany : args.any isYld = true := List.any_eq_true.2 ⟨_,hy,rfl⟩
 have hk : callKind C me f d args = 0 := by
  unfold callKind;rw [hb,hany];split <;> rfl
 unfold callB;rw [hk];simp only [h]
theorem wp_range0 {g : Operand} {ps : Array Tmp} {asg body : Code} {a : AAct} {H : Heap} {K : Post} {f : FuncId} {first cap : List AV} (hg : a.eval g = some (.fn (.func f) first cap))
  {v : AV} {H2 : Heap} (hc : callB C (lim C) me f none (first ++ [.yld (H.size + 1)] ++ cap) ((H.put H.size .dfr).put (H.size + 1) (.loop { fn := me,state := .ready,pending := none,size := a.size,tmps := a.tmps,params := ps,assign := asg,body := body,dfr := H.size })) = some (v,H2))
  {r : ALoop} (hr : loopObj H2 (H.size + 1) = some r) (hs : r.state ≠ .busy) (hd : r.dfr = H.size)
  (hK : match r.pending with
   | none => AtK K .normal { a with marks := H.size :: a.marks } (H2.put (H.size + 1) .dead)
   | some .ret => AtK K .ret { a with marks := H.size :: a.marks } (H2.put (H.size + 1) .dead)
   | some (.exit id) => AtK K (.exit id) { a with marks := H.size :: a.marks } (H2.put (H.size + 1) .dead)
   | _ => False) : Wp C me none (.rangeFunc g ps asg body) a H K := by
 unfold Wp
 simp only [codeA,hg,hc,hr]
 rw [if_neg (by rintro (h | h);exact hs h;exact h hd)]
 split at hK
 ·rename_i hp;simp only [hp];exact hK
 ·rename_i hp;simp only [hp];exact hK
 ·rename_i hp;simp only [hp];exact hK
 ·exact hK.elim
end
end Go.Ev
namespace Go.Ev
theorem plus_mid_put {X : Heap} {n : Nat} (hn : X.size = n) (A B : List (Option AObj)) (o : Option AObj) (o' : AObj) : (X.plus (A ++ o :: B)).put (n + A.length) o' = X.plus (A ++ some o' :: B) := by
 subst hn
 rw [plus_put_hi _ _ (by omega)]
 congr 1
 rw [sop_right _ _ _ _ (by omega)]
 congr 1
 rw [show X.size + A.length - X.size - A.length = 0 by omega];rfl
theorem plus_mid_get {X : Heap} {n : Nat} (hn : X.size = n) (A B : List (Option AObj)) (o : Option AObj) : (X.plus (A ++ o :: B)).get (n + A.length) = o := by
 subst hn
 rw [plus_get_hi _ (by omega)]
 rw [show X.size + A.length - X.size = A.length by omega,List.getElem?_append_right (Nat.le_refl _),Nat.sub_self];rfl
theorem plus_put_end {X : Heap} {n : Nat} (hn : X.size = n) (E : List (Option AObj)) (o : AObj) : (X.plus E).put (n + E.length) o = X.plus (E ++ [some o]) := by
 subst hn;rw [← plus_size];exact plus_push E o
theorem plus_row_at {X : Heap} {n : Nat} (hn : X.size = n) (E G : List (Option AObj)) (v w m e sz g) (cs : List AV) : (X.plus (E ++ some (.cells w m e sz g cs) :: G)).row (n + E.length) v = if w = v then some (m,e,sz,g,cs) else none := by
 subst hn
 unfold Heap.row
 rw [plus_get_hi _ (by omega)]
 have : (E ++ some (AObj.cells w m e sz g cs) :: G)[X.size + E.length - X.size]? = some (some (.cells w m e sz g cs)) := by
  rw [show X.size + E.length - X.size = E.length by omega,List.getElem?_append_right (Nat.le_refl _),Nat.sub_self];rfl
 rw [this];rfl
theorem plus_store_end {X : Heap} {n : Nat} (hn : X.size = n) (hl : X.lock ≤ n) (E : List (Option AObj)) (v m e sz g) (cs : List AV) (off : Nat) (xs : List AV) :
  storeCells (X.plus (E ++ [some (.cells v m e sz g cs)])) (n + E.length) v off xs = if off + xs.length ≤ cs.length ∧ xs.all AV.flat = true then some (X.plus (E ++ [some (.cells v (Nat.max m (boundL xs)) e sz g (splice off xs cs))])) else none := by
 unfold storeCells
 rw [plus_row_at hn E [],if_pos rfl]
 simp only
 have hlk : (X.plus (E ++ [some (AObj.cells v m e sz g cs)])).lock ≤ n + E.length := by rw [plus_lock];omega
 simp only [hlk,true_and]
 split
 ·congr 1
  subst hn
  rw [plus_put_hi _ _ (by omega)]
  congr 1
  rw [sop_right _ _ _ _ (by omega)]
  congr 1
  rw [show X.size + E.length - X.size - E.length = 0 by omega];rfl
 ·rfl
theorem settle_end {X : Heap} {n : Nat} (hn : X.size = n) (E : List (Option AObj)) (o : AObj) : settleH (n + E.length) (X.plus (E ++ [some o])) = X.plus (E ++ [some o]) := by
 unfold settleH
 rw [if_neg]
 subst hn
 have : (X.plus (E ++ [some o])).objs.drop (X.size + E.length) = [some o] := by
  unfold Heap.plus Heap.size
  simp only
  rw [← List.append_assoc,List.drop_append_of_le_length (by simp),List.drop_of_length_le (by simp),List.nil_append]
 rw [this];simp
theorem settle_none {X : Heap} {n : Nat} (hn : X.size = n) (E : List (Option AObj)) : settleH (n + E.length) (X.plus E) = X.plus E := by
 subst hn;rw [← plus_size];exact settle_size _
theorem runIt_append {S : Type} (stp : S → List AV → Bool × S) : ∀ (a b : List (List AV)) (s : S),runIt stp (a ++ b) s = if (runIt stp a s).1 then runIt stp b (runIt stp a s).2 else runIt stp a s
 | [],b,s => rfl
 | x :: r,b,s => by
  simp only [List.cons_append,runIt]
  by_cases h : (stp s x).1 = true
  ·simp only [h,if_true];exact runIt_append stp r b _
  ·simp only [h,Bool.false_eq_true,if_false]
end Go.Ev
namespace Go.Ev
theorem at_trim {H : Heap} {E F : List (Option AObj)} {vs : List AV} {ms : List Nat} {n : Nat} (Q : Heap → Prop) (hn : n = H.size + E.length) (h : ∀ G,Q (H.plus (E ++ G))) : Q ((H.plus (E ++ F)).trim n vs ms) := by
 obtain ⟨G,hG⟩ := trim_plus E F vs ms hn
 rw [hG];exact h G
end Go.Ev
namespace Go.Ev
theorem plus_store_mid {X : Heap} {n : Nat} (hn : X.size = n) (hl : X.lock ≤ n) (A G : List (Option AObj)) (v m e sz g) (cs : List AV) (off : Nat) (xs : List AV) :
  storeCells (X.plus (A ++ some (.cells v m e sz g cs) :: G)) (n + A.length) v off xs = if off + xs.length ≤ cs.length ∧ xs.all AV.flat = true then some (X.plus (A ++ some (.cells v (Nat.max m (boundL xs)) e sz g (splice off xs cs)) :: G)) else none := by
 unfold storeCells
 rw [plus_row_at hn A G,if_pos rfl]
 simp only
 have hlk : (X.plus (A ++ some (AObj.cells v m e sz g cs) :: G)).lock ≤ n + A.length := by rw [plus_lock];omega
 simp only [hlk,true_and]
 split
 ·rw [plus_mid_put hn]
 ·rfl
section
variable {C : Cfg}
theorem asgK_mk {l n : Nat} {r r1 : ALoop} {K : Bool → Heap → Prop} {a1 : AAct} {H1 : Heap} (h1 : loopObj H1 l = some r1) (hs : r1.state = .ready) (h : Wp C r.fn (some l) r.body a1 (H1.put l (.loop { r1 with state := .busy })) (bodyK l n K)) : AtK (asgK C l n r K) .normal a1 H1 :=
 ⟨rfl,r1,h1,hs,h⟩
theorem bodyK_mk {l n : Nat} {K : Bool → Heap → Prop} {e : AExit} {a : AAct} {H3 : Heap} {r3 : ALoop} {j : Option Code} (h1 : loopObj H3 l = some r3) (hj : jumpOf e = some j) (h : K j.isNone ((H3.put l (.loop { r3 with state := if j.isNone then .ready else .done,pending := j })).trim n [] [])) : AtK (bodyK l n K) e a H3 :=
 ⟨r3,j,h1,hj,h⟩
def wBox (l t : Nat) : AObj := .cells 0 (l + 1) t 1 false [.yld l]
def hq {S : Type} (hp : S → Heap) (E : List (Option AObj)) (l t : Nat) (q : S × ALoop) : Heap := (hp q.1).plus (E ++ [some (wBox l t),some .dfr,some (.loop q.2)])
variable {l t n : Nat} {S : Type} {hp : S → Heap} {stp : S → List AV → Bool × S} {ok : List AV → Prop} {live : S → Prop}
theorem hq_size (h : Src C l S hp stp ok live n) (E : List (Option AObj)) (q : S × ALoop) : (hq hp E l t q).size = n + E.length + 3 := by
 unfold hq;rw [plus_size,h.size];simp;omega
theorem hq_lock (h : Src C l S hp stp ok live n) (E : List (Option AObj)) (q : S × ALoop) : (hq hp E l t q).lock ≤ n := by
 unfold hq;rw [plus_lock];have := h.lock q.1;have := h.lt;omega
theorem hq_row (h : Src C l S hp stp ok live n) (E : List (Option AObj)) (q : S × ALoop) (B : List (Option AObj)) : ((hq hp E l t q).plus B).row (n + E.length) 0 = some (l + 1,t,1,false,[.yld l]) := by
 unfold hq;rw [plus_plus,List.append_assoc]
 exact plus_row_at (h.size q.1) E _ 0 0 _ _ _ _ _
theorem hq_loop (h : Src C l S hp stp ok live n) (E : List (Option AObj)) (q : S × ALoop) (B : List (Option AObj)) : loopObj ((hq hp E l t q).plus B) (n + E.length + 2) = some q.2 := by
 unfold hq;rw [plus_plus]
 have := plus_mid_get (h.size q.1) (E ++ [some (wBox l t),some .dfr]) B (some (.loop q.2))
 have e : E ++ [some (wBox l t),some AObj.dfr,some (AObj.loop q.2)] ++ B = E ++ [some (wBox l t),some .dfr] ++ some (.loop q.2) :: B := by simp
 rw [e]
 unfold loopObj
 rw [show n + E.length + 2 = n + (E ++ [some (wBox l t),some AObj.dfr]).length by simp;omega,this]
theorem hq_put (h : Src C l S hp stp ok live n) (E : List (Option AObj)) (s : S) (L L' : ALoop) (B : List (Option AObj)) : ((hq hp E l t (s,L)).plus B).put (n + E.length + 2) (.loop L') = (hq hp E l t (s,L')).plus B := by
 unfold hq;rw [plus_plus,plus_plus]
 have := plus_mid_put (h.size s) (E ++ [some (wBox l t),some .dfr]) B (some (.loop L)) (.loop L')
 have e : ∀ L,E ++ [some (wBox l t),some AObj.dfr,some (AObj.loop L)] ++ B = E ++ [some (wBox l t),some .dfr] ++ some (.loop L) :: B := by intro L;simp
 rw [e,e,show n + E.length + 2 = n + (E ++ [some (wBox l t),some AObj.dfr]).length by simp;omega]
 exact this
theorem hq_round (h : Src C l S hp stp ok live n) (E : List (Option AObj)) (s : S) (L : ALoop) (B : List (Option AObj)) (x : List AV) (hl : live s) (hx : ok x) :
  ∃ G,lim C (.round l x ((hq hp E l t (s,L)).plus B)) = some (.ret (.v (.bool (stp s x).1)) ((hq hp E l t ((stp s x).2,L)).plus (B ++ G))) := by
 obtain ⟨G,hG⟩ := h.round s x (E ++ [some (wBox l t),some .dfr,some (.loop L)] ++ B) hl hx
 refine ⟨G, ?_⟩
 unfold hq
 rw [plus_plus,plus_plus,← List.append_assoc]
 exact hG
end
end Go.Ev
namespace Go.Ev
open Go.Proofs
def placeA (i k : Nat) (w : Int) : AV := .agg [intA i,intA k,intA w]
def slElems (x : AV) : List AV := match x with | .vs _ xs _ => xs | _ => []
theorem SlOf.elems {sz : Nat} {xs : List AV} {x : AV} (h : SlOf sz xs x) : slElems x = xs := by
 rcases h with ⟨rfl,rfl⟩ | ⟨cap,rfl⟩ <;> rfl
def linesOf (y : AV) : List AV := match y with | .agg [_,l] => slElems l | _ => []
def lineIts (i : Nat) : Nat → List AV → List (List AV)
 | _,[] => []
 | k,x :: r => [placeA i k 0,x] :: lineIts i (k + 1) r
def chapIts : Nat → List AV → List (List AV)
 | _,[] => []
 | i,y :: r => lineIts i 0 (linesOf y) ++ chapIts (i + 1) r
noncomputable def body88 (n : Nat) : Code := ((Tryz.f136.body.map loops).getD [])[n]?.getD .skip
theorem lineIts_drop (i : Nat) (xs : List AV) (j : Nat) (x : AV) (h : xs[j]? = some x) : lineIts i j (xs.drop j) = [placeA i j 0,x] :: lineIts i (j + 1) (xs.drop (j + 1)) := by
 obtain ⟨hj,rfl⟩ := List.getElem?_eq_some_iff.1 h
 rw [List.drop_eq_getElem_cons hj];rfl
theorem loop88b {e : Exts} (ch : AV) (xs lxs : List AV) (id : Int) (l0 : AV) (hl0 : SlOf 1 lxs l0) (hlc : ∀ x ∈ lxs,x.cells = [x]) (hlen : lxs.length < 2 ^ 63)
  (l : Nat) (S : Type) (hp : S → Heap) (stp : S → List AV → Bool × S) (ok : List AV → Prop) (live : S → Prop) (n : Nat) (hsrc : Src (Cx e) l S hp stp ok live n) (i b mm : Nat) (F : List (Option AObj))
  (hb : ∀ s G,((hp s).plus (F ++ G)).row b 0 = some (mm,112,1,false,[intA id,l0])) (hok : ∀ j x,lxs[j]? = some x → ok [placeA i j 0,x]) (K : Post) :
  ∀ m j s F',j + m = lxs.length → (∃ G,F' = F ++ G) → live s →
  ((runIt stp (lineIts i j (lxs.drop j)) s).1 = true → ∀ G,AtK K (.exit 2) ⟨34,[(0,.yld l),(1,.ro (.agg [ch]) 0),(8,ch),(9,intA xs.length),(10,intA i),(11,.v (.bool true)),(4,.ptr b 0 0),(3,intA i),(17,intA lxs.length),(18,intA lxs.length)],[]⟩ ((hp (runIt stp (lineIts i j (lxs.drop j)) s).2).plus (F ++ G))) →
  ((runIt stp (lineIts i j (lxs.drop j)) s).1 = false → ∀ G tl,AtK K .ret ⟨34,tl,[]⟩ ((hp (runIt stp (lineIts i j (lxs.drop j)) s).2).plus (F ++ G))) →
  Lp (Cx e) 136 none [0,1,8,9,10,11,4,3,17,18] (body88 1) ⟨34,[(0,.yld l),(1,.ro (.agg [ch]) 0),(8,ch),(9,intA xs.length),(10,intA i),(11,.v (.bool true)),(4,.ptr b 0 0),(3,intA i),(17,intA lxs.length),(18,intA j)],[]⟩ ((hp s).plus F') K := by
 have hn := hsrc.size
 intro m
 induction m with
 | zero =>
  intro j s F' hj hF hli h1 h2
  obtain ⟨G0,rfl⟩ := hF
  rw [Lp_step]
  generalize hK : loopK (Cx e) 136 none [0,1,8,9,10,11,4,3,17,18] (body88 1) _ K = KK
  unfold body88
  obtain rfl : j = lxs.length := by omega
  simp only [Tryz.f136,loops,Option.map_some,Option.getD_some,List.nil_append,List.append_nil,List.cons_append,List.getElem?_cons_zero,List.getElem?_cons_succ]
  simp -implicitDefEqProofs only [go_sem,↓reduceIte,intA,Int.lt_irrefl,plus_size,hn,settle_none (hn _)]
  subst hK
  simp -implicitDefEqProofs only [go_sem,↓reduceIte,plus_size,hn]
  rw [List.drop_of_length_le (Nat.le_refl _)] at h1 h2
  have : ((hp s).plus (F ++ G0)).trim (n + (F ++ G0).length) = fun vs ms => (hp s).plus (F ++ G0) := by
   funext vs ms
   rw [show n + (F ++ G0).length = ((hp s).plus (F ++ G0)).size by rw [plus_size,hn]];exact trim_size _ _ _
  rw [this]
  exact h1 rfl G0
 | succ m ih =>
  intro j s F' hj hF hli h1 h2
  obtain ⟨G0,hG0⟩ := hF
  have hrow : ∀ s,((hp s).plus F').row b 0 = some (mm,112,1,false,[.v (.int .i64 id),l0]) := fun s => by rw [hG0];exact hb s G0
  obtain ⟨x,hx⟩ := at_lt lxs j (by omega)
  have hxc := hlc x (List.mem_of_getElem? hx)
  have hdr := lineIts_drop i lxs j x hx
  obtain ⟨G1,hR⟩ := hsrc.round s [placeA i j 0,x] F' hli (hok j x hx)
  unfold placeA intA at hR
  have hlt : (j : Int) < ((lxs.length : Nat) : Int) := by omega
  have hw := wrap_succ j (by omega)
  rw [Lp_step]
  generalize hK : loopK (Cx e) 136 none [0,1,8,9,10,11,4,3,17,18] (body88 1) _ K = KK
  unfold body88
  simp only [Tryz.f136,loops,Option.map_some,Option.getD_some,List.nil_append,List.append_nil,List.cons_append,List.getElem?_cons_zero,List.getElem?_cons_succ]
  obtain ⟨G2,hS⟩ := settle_plus (H := hp (stp s [placeA i j 0,x]).2) F' G1 (n := n + F'.length) (by rw [hn])
  unfold placeA intA at hS
  rw [hdr] at h1 h2
  unfold runIt at h1 h2
  by_cases hst : (stp s [placeA i j 0,x]).1 = true
  ·have hlv := hsrc.step s _ hli (hok j x hx) hst
   rw [hst] at h1 h2
   simp only [if_true] at h1 h2
   unfold placeA intA at hst
   rw [hst] at hR
   simp -implicitDefEqProofs only [go_sem,↓reduceIte,intA,hlt,hw,plus_size,hn,settle_none (hn _),hrow,hl0.idx hx,hxc,hR,hS]
   subst hK
   simp -implicitDefEqProofs only [go_sem,↓reduceIte,plus_size,hn]
   refine at_trim (fun X => Lp _ _ _ _ _ _ X _) (by simp only [hn]) fun G3 => ?_
   exact ih (j + 1) _ (F' ++ G3) (by omega) ⟨G0 ++ G3,by rw [hG0,List.append_assoc]⟩ hlv h1 h2
  ·have hst' : (stp s [placeA i j 0,x]).1 = false := by simpa using hst
   rw [hst'] at h1 h2
   simp only [Bool.false_eq_true,if_false] at h1 h2
   unfold placeA intA at hst'
   rw [hst'] at hR
   simp -implicitDefEqProofs only [go_sem,↓reduceIte,intA,hlt,hw,plus_size,hn,settle_none (hn _),hrow,hl0.idx hx,hxc,hR,hS]
   subst hK
   simp -implicitDefEqProofs only [go_sem,↓reduceIte]
   rw [hG0,List.append_assoc]
   exact h2 trivial _ _
theorem lineIts_of (i : Nat) : ∀ (l : List AV) (k : Nat) (x : List AV),x ∈ lineIts i k l → ∃ j z,l[j]? = some z ∧ x = [placeA i (k + j) 0,z]
 | [],_,_,h => by simp [lineIts] at h
 | y :: r,k,x,h => by
  rcases List.mem_cons.1 h with rfl | h
  ·exact ⟨0,y,rfl,rfl⟩
  ·obtain ⟨j,z,h1,h2⟩ := lineIts_of i r (k + 1) x h
   exact ⟨j + 1,z,by simpa using h1,by rw [h2,show k + 1 + j = k + (j + 1) by omega]⟩
def OkCh (y : AV) : Prop := ∃ id l0 lxs,y = .agg [intA id,l0] ∧ SlOf 1 lxs l0 ∧ (∀ x ∈ lxs,x.cells = [x]) ∧ lxs.length < 2 ^ 63
theorem chapIts_drop (xs : List AV) (i : Nat) (y : AV) (h : xs[i]? = some y) : chapIts i (xs.drop i) = lineIts i 0 (linesOf y) ++ chapIts (i + 1) (xs.drop (i + 1)) := by
 obtain ⟨hj,rfl⟩ := List.getElem?_eq_some_iff.1 h
 rw [List.drop_eq_getElem_cons hj];rfl
theorem loop88a {e : Exts} (ch : AV) (xs : List AV) (hch : SlOf 2 xs ch) (hall : ∀ y ∈ xs,OkCh y) (hlen : xs.length < 2 ^ 63)
  (l : Nat) (S : Type) (hp : S → Heap) (stp : S → List AV → Bool × S) (ok : List AV → Prop) (live : S → Prop) (n : Nat) (hsrc : Src (Cx e) l S hp stp ok live n) (E : List (Option AObj))
  (hok : ∀ i y j x,xs[i]? = some y → (linesOf y)[j]? = some x → ok [placeA i j 0,x]) (K : Post) :
  ∀ m i s F,i + m = xs.length → (∃ G,F = E ++ G) → live s →
  ((runIt stp (chapIts i (xs.drop i)) s).1 = true → ∀ G,AtK K (.exit 0) ⟨34,[(0,.yld l),(1,.ro (.agg [ch]) 0),(8,ch),(9,intA xs.length),(10,intA xs.length)],[]⟩ ((hp (runIt stp (chapIts i (xs.drop i)) s).2).plus (E ++ G))) →
  ((runIt stp (chapIts i (xs.drop i)) s).1 = false → ∀ G tl,AtK K .ret ⟨34,tl,[]⟩ ((hp (runIt stp (chapIts i (xs.drop i)) s).2).plus (E ++ G))) →
  Lp (Cx e) 136 none [0,1,8,9,10] (body88 0) ⟨34,[(0,.yld l),(1,.ro (.agg [ch]) 0),(8,ch),(9,intA xs.length),(10,intA i)],[]⟩ ((hp s).plus F) K := by
 have hn := hsrc.size
 have hlk : ∀ s,(hp s).lock ≤ n := fun s => by have := hsrc.lock s;have := hsrc.lt;omega
 intro m
 induction m with
 | zero =>
  intro j s F' hj hF hli h1 h2
  obtain ⟨G0,rfl⟩ := hF
  rw [Lp_step]
  generalize hK : loopK (Cx e) 136 none [0,1,8,9,10] (body88 0) _ K = KK
  unfold body88
  obtain rfl : j = xs.length := by omega
  simp only [Tryz.f136,loops,Option.map_some,Option.getD_some,List.nil_append,List.append_nil,List.cons_append,List.getElem?_cons_zero,List.getElem?_cons_succ]
  simp -implicitDefEqProofs only [go_sem,↓reduceIte,intA,Int.lt_irrefl,plus_size,hn,settle_none (hn _)]
  subst hK
  simp -implicitDefEqProofs only [go_sem,↓reduceIte,plus_size,hn]
  rw [List.drop_of_length_le (Nat.le_refl _)] at h1 h2
  have : ((hp s).plus (E ++ G0)).trim (n + (E ++ G0).length) = fun vs ms => (hp s).plus (E ++ G0) := by
   funext vs ms
   rw [show n + (E ++ G0).length = ((hp s).plus (E ++ G0)).size by rw [plus_size,hn]];exact trim_size _ _ _
  rw [this]
  exact h1 rfl G0
 | succ m ih =>
  intro i s F hj hF hlv h1 h2
  obtain ⟨G0,hG0⟩ := hF
  obtain ⟨y,hy⟩ := at_lt xs i (by omega)
  have hdr := chapIts_drop xs i y hy
  obtain ⟨id,l0,lxs,rfl,hl0,hlc,hll⟩ := hall y (List.mem_of_getElem? hy)
  have hli : linesOf (.agg [intA id,l0]) = lxs := hl0.elems
  have hlt : (i : Int) < ((xs.length : Nat) : Int) := by omega
  have hw := wrap_succ i (by omega)
  rw [hdr,hli] at h1 h2
  rw [runIt_append] at h1 h2
  rw [Lp_step]
  generalize hK : loopK (Cx e) 136 none [0,1,8,9,10] (body88 0) _ K = KK
  unfold body88
  simp only [Tryz.f136,loops,Option.map_some,Option.getD_some,List.nil_append,List.append_nil,List.cons_append,List.getElem?_cons_zero,List.getElem?_cons_succ]
  simp -implicitDefEqProofs only [go_sem,↓reduceIte,intA,hlt,hw,hch.len,hch.idx hy,hl0.len,hl0.cells,hl0.flat,hl0.bound,plus_size,hn,settle_none (hn _),plus_put_end (hn _),plus_store_end (hn _) (hlk _),settle_end (hn _),plus_row_at (hn _)]
  refine loop88b ch xs lxs id l0 hl0 hlc hll l S hp stp ok live n hsrc i (n + F.length) 0 (F ++ [some (.cells 0 0 112 1 false [intA id,l0])]) ?_ ?_ _ lxs.length 0 s _ (by omega) ⟨[],by rw [List.append_nil];rfl⟩ hlv ?_ ?_
  ·intro s G
   rw [List.append_assoc]
   exact plus_row_at (hn s) F G 0 0 0 112 1 false [intA id,l0]
  ·intro j x hx
   exact hok i _ j x hy (by rw [hli];exact hx)
  ·intro hf G
   rw [List.drop_zero] at hf ⊢
   rw [hf] at h1 h2
   simp only [if_true] at h1 h2
   simp -implicitDefEqProofs only [go_sem,↓reduceIte,intA,hw,plus_size,hn,settle_none (hn _)]
   subst hK
   simp -implicitDefEqProofs only [go_sem,↓reduceIte,plus_size,hn]
   rw [List.append_assoc]
   have hlv2 : live (runIt stp (lineIts i 0 lxs) s).2 := runIt_live hsrc _ s (fun x hx => by
    obtain ⟨j,z,hz,rfl⟩ := lineIts_of i lxs 0 x hx
    rw [Nat.zero_add]
    exact hok i _ j z hy (by rw [hli];exact hz)) hlv hf
   refine at_trim (fun X => Lp _ _ _ _ _ _ X _) (by simp only [hn]) fun G3 => ?_
   exact ih (i + 1) _ (F ++ G3) (by omega) ⟨G0 ++ G3,by rw [hG0,List.append_assoc]⟩ hlv2 h1 h2
  ·intro hf G tl
   rw [List.drop_zero] at hf ⊢
   rw [hf] at h1 h2
   simp only [Bool.false_eq_true,if_false] at h1 h2
   subst hK
   simp -implicitDefEqProofs only [go_sem,↓reduceIte]
   rw [hG0,List.append_assoc,List.append_assoc]
   exact h2 hf _ _
theorem fn_ex {C : Cfg} {f : FuncId} {args : List AV} {H : Heap} {K : PostO} (h : Fn' C f args H K) : ∃ v H',lim C (.call f args H) = some (.ret v H') ∧ K v H' := by
 unfold Fn' at h
 rw [bindO_iff] at h
 obtain ⟨o,h1,h2⟩ := h
 cases o with
 | ret v H' => exact ⟨v,H',h1,h2⟩
 | go => exact h2.elim
theorem lineIts_mem (i : Nat) : ∀ (l : List AV) (k j : Nat) (x : AV),l[j]? = some x → [placeA i (k + j) 0,x] ∈ lineIts i k l
 | [],_,j,_,h => by simp at h
 | y :: r,k,0,x,h => by simp at h;subst h;simp [lineIts]
 | y :: r,k,j + 1,x,h => by
  have := lineIts_mem i r (k + 1) j x (by simpa using h)
  rw [show k + 1 + j = k + (j + 1) by omega] at this
  exact List.mem_cons_of_mem _ this
theorem chapIts_mem0 : ∀ (xs : List AV) (k i : Nat) (y : AV) (j : Nat) (x : AV),xs[i]? = some y → (linesOf y)[j]? = some x → [placeA (k + i) j 0,x] ∈ chapIts k xs
 | [],_,i,_,_,_,h,_ => by simp at h
 | z :: r,k,0,y,j,x,h,hx => by
  simp at h;subst h
  have := lineIts_mem k (linesOf z) 0 j x hx
  rw [Nat.zero_add] at this
  exact List.mem_append_left _ this
 | z :: r,k,i + 1,y,j,x,h,hx => by
  have := chapIts_mem0 r (k + 1) i y j x (by simpa using h) hx
  rw [show k + 1 + i = k + (i + 1) by omega] at this
  exact List.mem_append_right _ this
theorem chapIts_mem (xs : List AV) (i : Nat) (y : AV) (j : Nat) (x : AV) (h : xs[i]? = some y) (hx : (linesOf y)[j]? = some x) : [placeA i j 0,x] ∈ chapIts 0 xs := by
 have := chapIts_mem0 xs 0 i y j x h hx
 rwa [Nat.zero_add] at this
theorem yields88 {e : Exts} (ch : AV) (xs : List AV) (hch : SlOf 2 xs ch) (hall : ∀ y ∈ xs,OkCh y) (hlen : xs.length < 2 ^ 63) : Yields (Cx e) 136 [.ro (.agg [ch]) 0] (chapIts 0 xs) := by
 intro l S hp stp ok live n hsrc hok s E hlv
 have hn := hsrc.size
 have key : Fn' (Cx e) 136 [.yld l,.ro (.agg [ch]) 0] ((hp s).plus E) fun v H' => v = .tup [] ∧ ∃ G,H' = (hp (runIt stp (chapIts 0 xs) s).2).plus (E ++ G) := by
  rw [fn_step (fn_136 e) (show Tryz.f136.body = some _ from rfl)]
  simp -implicitDefEqProofs only [Tryz.f136,intA,go_sem,↓reduceIte,hch.len,hch.cells,plus_size,hn,settle_none (hn _)]
  refine loop88a ch xs hch hall hlen l S hp stp ok live n hsrc E ?_ _ xs.length 0 s E (by omega) ⟨[],(List.append_nil E).symm⟩ hlv ?_ ?_
  ·intro i y j x hy hx
   exact hok _ (chapIts_mem xs i y j x hy hx)
  ·intro hf G
   simp -implicitDefEqProofs only [go_sem,↓reduceIte]
   exact ⟨rfl,G,rfl⟩
  ·intro hf G tl
   simp -implicitDefEqProofs only [go_sem,↓reduceIte]
   exact ⟨rfl,G,rfl⟩
 obtain ⟨v,H',h1,rfl,G,rfl⟩ := fn_ex key
 exact ⟨G,h1⟩
end Go.Ev
namespace Go.Ev
open Go.Proofs
theorem freeze_cl {sz : Nat} {xs : List AV} {ch : AV} (h : SlOf sz xs ch) (f : FuncId) (t : TypeId) : freezeV ⟨[some (.cells 0 0 t 1 false [ch])],0⟩ 1000000 (.fn (.func f) [] [.ptr 0 0 0]) = some (.fn (.func f) [] [.ro (.agg [ch]) 0]) := by
 rcases h with ⟨rfl,rfl⟩ | ⟨cap,rfl⟩
 ·kernel_rfl
 ·kernel_rfl
theorem ans64 {e : Exts} (ch : AV) (xs : List AV) (hch : SlOf 2 xs ch) : Ans (Cx e) 118 [.agg [ch]] (.fn (.func 136) [] [.ro (.agg [ch]) 0]) := by
 unfold Ans
 rw [fn_step (fn_118 e) (show Tryz.f118.body = some _ from rfl)]
 simp -implicitDefEqProofs only [Tryz.f118,intA,go_sem,↓reduceIte,hch.cells,hch.flat,hch.bound,freeze_cl hch]
theorem ans41 {e : Exts} (ch : AV) (xs : List AV) (hch : SlOf 2 xs ch) : Ans (Cx e) 86 [.agg [ch]] (.fn (.func 117) [] [.ro (.agg [ch]) 0]) := by
 unfold Ans
 rw [fn_step (fn_86 e) (show Tryz.f86.body = some _ from rfl)]
 simp -implicitDefEqProofs only [Tryz.f86,intA,go_sem,↓reduceIte,hch.cells,hch.flat,hch.bound,freeze_cl hch]
theorem call64 {e : Exts} (he : Quiet e) (ch : AV) (xs : List AV) (hch : SlOf 2 xs ch) (me : FuncId) (d : Option Tmp) (H : Heap) : callA (Cx e) (lim (Cx e)) me 118 d [.agg [ch]] H = some (.fn (.func 136) [] [.ro (.agg [ch]) 0],H) :=
 (ans64 ch xs hch).call (ext_118 he) (pure_118 _ _ _) (by simp only [boundL_cons,bound_agg,hch.bound,boundL_nil];rfl) H
theorem call41 {e : Exts} (he : Quiet e) (ch : AV) (xs : List AV) (hch : SlOf 2 xs ch) (me : FuncId) (d : Option Tmp) (H : Heap) : callA (Cx e) (lim (Cx e)) me 86 d [.agg [ch]] H = some (.fn (.func 117) [] [.ro (.agg [ch]) 0],H) :=
 (ans41 ch xs hch).call (ext_86 he) (pure_86 _ _ _) (by simp only [boundL_cons,bound_agg,hch.bound,boundL_nil];rfl) H
noncomputable def body63 (n : Nat) : Code := ((Tryz.f117.body.map loops).getD [])[n]?.getD .skip
def rangeOf : Code → Option (Code × Code)
 | .rangeFunc _ _ a b => some (a,b)
 | .seq a b => (rangeOf a).orElse fun _ => rangeOf b
 | .block _ a => rangeOf a
 | .scope a => rangeOf a
 | _ => none
noncomputable def asg63 : Code := ((Tryz.f117.body.bind rangeOf).getD (.skip,.skip)).1
noncomputable def bdy63 : Code := ((Tryz.f117.body.bind rangeOf).getD (.skip,.skip)).2
def placeB (a b : AV) (w : Int) : AV := .agg [a,b,intA w]
def wIts (a b : AV) : Nat → List AV → List (List AV)
 | _,[] => []
 | w,x :: r => [placeB a b w,x] :: wIts a b (w + 1) r
theorem wIts_drop (a b : AV) (xs : List AV) (j : Nat) (x : AV) (h : xs[j]? = some x) : wIts a b j (xs.drop j) = [placeB a b j,x] :: wIts a b (j + 1) (xs.drop (j + 1)) := by
 obtain ⟨hj,rfl⟩ := List.getElem?_eq_some_iff.1 h
 rw [List.drop_eq_getElem_cons hj];rfl
theorem at_trim0 {H : Heap} {E : List (Option AObj)} {vs : List AV} {ms : List Nat} {n : Nat} (Q : Heap → Prop) (hn : n = H.size + E.length) (h : Q (H.plus E)) : Q ((H.plus E).trim n vs ms) := by
 subst hn;rw [← plus_size,trim_size];exact h
theorem settle_eq {X : Heap} {n m : Nat} (hn : X.size = n) {E : List (Option AObj)} (h : m = n + E.length) : settleH m (X.plus E) = X.plus E := by
 subst hn;rw [h,← plus_size];exact settle_size _
theorem loop63 {e : Exts} (ch lx : AV) (els : List AV) (hlx : SlOf 1 els lx) (hec : ∀ x ∈ els,x.cells = [x]) (hlen : els.length < 2 ^ 63) (rd : Option Nat)
  (l : Nat) (S : Type) (hp : S → Heap) (stp : S → List AV → Bool × S) (ok : List AV → Prop) (live : S → Prop) (n : Nat) (hsrc : Src (Cx e) l S hp stp ok live n) (E B : List (Option AObj)) (L : ALoop) (i k : Int) (p9 : AV)
  (hok : ∀ (j : Nat) x,els[j]? = some x → ok [placeB (intA i) (intA k) j,x]) (K : Post) :
  ∀ m j s G (w0 : Int),j + m = els.length → live s →
  ((runIt stp (wIts (intA i) (intA k) j (els.drop j)) s).1 = true → ∀ G w tl,AtK K (.exit 2) ⟨26,tl,[]⟩ ((hq hp E l 171 ((runIt stp (wIts (intA i) (intA k) j (els.drop j)) s).2,L)).plus (B ++ some (.cells 0 0 28 1 false [intA i,intA k,intA w]) :: G))) →
  ((runIt stp (wIts (intA i) (intA k) j (els.drop j)) s).1 = false → ∀ G w tl,AtK K .ret ⟨26,tl,[]⟩ ((hq hp E l 171 ((runIt stp (wIts (intA i) (intA k) j (els.drop j)) s).2,L)).plus (B ++ some (.cells 0 0 28 1 false [intA i,intA k,intA w]) :: G))) →
  Lp (Cx e) 117 rd [0,1,2,8,9,10,3,4,11,12,13] (body63 0) ⟨26,[(0,.yld l),(1,.ro (.agg [ch]) 0),(2,.ptr (n + E.length) 0 0),(8,.fn (.func 136) [] [.ro (.agg [ch]) 0]),(9,p9),(10,lx),(3,.ptr (n + E.length + 3 + B.length) 0 0),(4,lx),(11,lx),(12,intA els.length),(13,intA j)],[]⟩
   ((hq hp E l 171 (s,L)).plus (B ++ some (.cells 0 0 28 1 false [intA i,intA k,intA w0]) :: G)) K := by
 have hn : ∀ q,(hq hp E l 171 q).size = n + E.length + 3 := hq_size hsrc E
 have hlk : ∀ q,(hq hp E l 171 q).lock ≤ n + E.length + 3 := fun q => by have := hq_lock (t := 171) hsrc E q;omega
 have hrow := fun q B => hq_row (t := 171) hsrc E q B
 intro m
 induction m with
 | zero =>
  intro j s G w0 hj hli h1 h2
  rw [Lp_step]
  generalize hK : loopK (Cx e) 117 rd _ (body63 0) _ K = KK
  unfold body63
  obtain rfl : j = els.length := by omega
  simp only [Tryz.f117,loops,Option.map_some,Option.getD_some,List.nil_append,List.append_nil,List.cons_append,List.getElem?_cons_zero,List.getElem?_cons_succ]
  simp -implicitDefEqProofs only [go_sem,↓reduceIte,intA,Int.lt_irrefl,plus_size,hn,settle_none (hn _)]
  subst hK
  simp -implicitDefEqProofs only [go_sem,↓reduceIte,plus_size,hn]
  rw [List.drop_of_length_le (Nat.le_refl _)] at h1 h2
  refine at_trim0 (fun X => AtK _ _ _ X) (by simp only [hn,intA]) ?_
  exact h1 rfl G w0 _
 | succ m ih =>
  intro j s G w0 hj hli h1 h2
  obtain ⟨x,hx⟩ := at_lt els j (by omega)
  have hxc := hec x (List.mem_of_getElem? hx)
  have hdr := wIts_drop (intA i) (intA k) els j x hx
  obtain ⟨G1,hR⟩ := hq_round (t := 171) hsrc E s L (B ++ some (.cells 0 0 28 1 false [intA i,intA k,intA j]) :: G) [placeB (intA i) (intA k) j,x] hli (hok j x hx)
  have hlt : (j : Int) < ((els.length : Nat) : Int) := by omega
  have hw := wrap_succ j (by omega)
  rw [Lp_step]
  generalize hK : loopK (Cx e) 117 rd _ (body63 0) _ K = KK
  unfold body63
  simp only [Tryz.f117,loops,Option.map_some,Option.getD_some,List.nil_append,List.append_nil,List.cons_append,List.getElem?_cons_zero,List.getElem?_cons_succ]
  rw [hdr] at h1 h2
  unfold runIt at h1 h2
  obtain ⟨G2,hS⟩ := settle_plus (H := hq hp E l 171 ((stp s [placeB (intA i) (intA k) j,x]).2,L)) (B ++ some (.cells 0 0 28 1 false [intA i,intA k,intA j]) :: G) G1 (n := n + E.length + 3 + (B ++ some (.cells 0 0 28 1 false [intA i,intA k,intA j]) :: G).length) (by rw [hn])
  have hst0 := fun (w : Int) (xs : List AV) (off : Nat) => plus_store_mid (hn (s,L)) (hlk (s,L)) B G 0 0 28 1 false [.v (.int .i64 i),.v (.int .i64 k),.v (.int .i64 w)] off xs
  have hset : ∀ w w' : Int,settleH (n + E.length + 3 + (B ++ some (.cells 0 0 28 1 false [.v (.int .i64 i),.v (.int .i64 k),.v (.int .i64 w)]) :: G).length) ((hq hp E l 171 (s,L)).plus (B ++ some (.cells 0 0 28 1 false [.v (.int .i64 i),.v (.int .i64 k),.v (.int .i64 w')]) :: G)) = (hq hp E l 171 (s,L)).plus (B ++ some (.cells 0 0 28 1 false [.v (.int .i64 i),.v (.int .i64 k),.v (.int .i64 w')]) :: G) :=
   fun w w' => settle_eq (hn _) (by simp)
  have hrw := fun (w : Int) => plus_row_at (hn (s,L)) B G 0 0 0 28 1 false [.v (.int .i64 i),.v (.int .i64 k),.v (.int .i64 w)]
  by_cases hst : (stp s [placeB (intA i) (intA k) j,x]).1 = true
  ·rw [hst] at hR
   unfold placeB intA at hR hS
   simp -implicitDefEqProofs only [go_sem,↓reduceIte,intA,hlt,hw,plus_size,hn,hset,settle_none (hn _),hrow,hlx.idx hx,hxc,hst0,hrw,hR,hS,nmax]
   subst hK
   simp -implicitDefEqProofs only [go_sem,↓reduceIte,plus_size,hn]
   refine at_trim (fun X => Lp _ _ _ _ _ _ X _) (by simp only [hn];simp) fun G3 => ?_
   have hlv := hsrc.step s _ hli (hok j x hx) hst
   rw [hst] at h1 h2
   simp only [if_true] at h1 h2
   rw [List.append_assoc,List.cons_append]
   exact ih (j + 1) _ (G ++ G3) j (by omega) hlv h1 h2
  ·have hst' : (stp s [placeB (intA i) (intA k) j,x]).1 = false := by simpa using hst
   rw [hst'] at h1 h2 hR
   simp only [Bool.false_eq_true,if_false] at h1 h2
   unfold placeB intA at hR hS
   simp -implicitDefEqProofs only [go_sem,↓reduceIte,intA,hlt,hw,plus_size,hn,hset,settle_none (hn _),hrow,hlx.idx hx,hxc,hst0,hrw,hR,hS,nmax]
   subst hK
   simp -implicitDefEqProofs only [go_sem,↓reduceIte]
   rw [List.append_assoc,List.cons_append]
   exact h2 trivial _ _ _
end Go.Ev
namespace Go.Ev
open Go.Proofs
theorem setT_nil (n : Nat) (t : List (Tmp × AV)) : setTmps n t [] = t := rfl
theorem setT_cons (n : Nat) (t : List (Tmp × AV)) (d : Tmp) (v : AV) (r : List (Tmp × AV)) : setTmps n t ((d,v) :: r) = setTmps n (if d < n then setAssoc d v t else t) r := rfl
def lr63 (ch : AV) (l n d : Nat) (st : LoopState) (pd : Option Code) (a b : Code) : ALoop := { fn := 117,state := st,pending := pd,size := 26,tmps := [(0,.yld l),(1,.ro (.agg [ch]) 0),(2,.ptr n 0 0),(8,.fn (.func 136) [] [.ro (.agg [ch]) 0])],params := #[9,10],assign := a,body := b,dfr := d }
noncomputable def lp63 (ch : AV) (l n : Nat) (done : Bool) : ALoop := lr63 ch l n (n + 1) (if done then .done else .ready) (if done then some .ret else none) asg63 bdy63
noncomputable def hp63 {S : Type} (hp : S → Heap) (E : List (Option AObj)) (ch : AV) (l n : Nat) (q : S × Bool) : Heap := hq hp E l 171 (q.1,lp63 ch l (n + E.length) q.2)
def stp63 {S : Type} (stp : S → List AV → Bool × S) (q : S × Bool) (x : List AV) : Bool × (S × Bool) :=
 match x with
 | [.agg [a,b,_],lx] => ((runIt stp (wIts a b 0 (slElems lx)) q.1).1,((runIt stp (wIts a b 0 (slElems lx)) q.1).2, !(runIt stp (wIts a b 0 (slElems lx)) q.1).1))
 | _ => (true,q)
def ok63 (ok : List AV → Prop) (x : List AV) : Prop := ∃ (i k : Nat) (lx : AV) (els : List AV),x = [placeA i k 0,lx] ∧ SlOf 1 els lx ∧ (∀ z ∈ els,z.cells = [z]) ∧ els.length < 2 ^ 63 ∧ ∀ (j : Nat) z,els[j]? = some z → ok [placeB (intA i) (intA k) j,z]
theorem wIts_of (a b : AV) : ∀ (l : List AV) (k : Nat) (x : List AV),x ∈ wIts a b k l → ∃ j z,l[j]? = some z ∧ x = [placeB a b ((k + j : Nat) : Int),z]
 | [],_,_,h => by simp [wIts] at h
 | y :: r,k,x,h => by
  rcases List.mem_cons.1 h with rfl | h
  ·exact ⟨0,y,rfl,rfl⟩
  ·obtain ⟨j,z,h1,h2⟩ := wIts_of a b r (k + 1) x h
   exact ⟨j + 1,z,by simpa using h1,by rw [h2,show k + 1 + j = k + (j + 1) by omega]⟩
theorem src63 {e : Exts} (ch : AV) (l : Nat) (S : Type) (hp : S → Heap) (stp : S → List AV → Bool × S) (ok : List AV → Prop) (live : S → Prop) (n : Nat) (hsrc : Src (Cx e) l S hp stp ok live n) (E : List (Option AObj)) :
  Src (Cx e) (n + E.length + 2) (S × Bool) (hp63 hp E ch l n) (stp63 stp) (ok63 ok) (fun q => live q.1 ∧ q.2 = false) (n + E.length + 3) := by
 refine ⟨fun q => hq_size hsrc E _,by omega,fun q => by have := hq_lock (t := 171) hsrc E (q.1,lp63 ch l (n + E.length) q.2);unfold hp63;omega, ?_, ?_⟩
 ·rintro ⟨s,d⟩ x ⟨hl, -⟩ ⟨i,k,lx,els,rfl,hlx,hec,hlen,hok⟩ h
  simp only [stp63,placeA,hlx.elems] at h ⊢
  refine ⟨runIt_live hsrc _ s (fun y hy => ?_) hl h,by rw [h];rfl⟩
  obtain ⟨j,z,hz,rfl⟩ := wIts_of _ _ els 0 y hy
  rw [Nat.zero_add];exact hok j z hz
 ·rintro ⟨s,d⟩ x B ⟨hl,hd⟩ ⟨i,k,lx,els,rfl,hlx,hec,hlen,hok⟩
  simp only at hd hl
  subst hd
  have hn : ∀ q,(hq hp E l 171 q).size = n + E.length + 3 := hq_size hsrc E
  have hlk : ∀ q,(hq hp E l 171 q).lock ≤ n + E.length + 3 := fun q => by have := hq_lock (t := 171) hsrc E q;omega
  have key := round_step (C := Cx e) (l := n + E.length + 2) (args := [placeA i k 0,lx]) (H := (hp63 hp E ch l n (s,false)).plus B) (r := lp63 ch l (n + E.length) false)
   (K := fun b H' => b = (stp63 stp (s,false) [placeA i k 0,lx]).1 ∧ ∃ G,H' = (hp63 hp E ch l n (stp63 stp (s,false) [placeA i k 0,lx]).2).plus (B ++ G))
   (hq_loop hsrc E _ B) rfl (by unfold hp63;rw [plus_lock];have := hq_lock (t := 171) hsrc E (s,lp63 ch l (n + E.length) false);simp only;omega) ?_
  ·obtain ⟨b,H',h1,rfl,G,rfl⟩ := key
   exact ⟨G,h1⟩
  ·have hps := plus_put_end (hn (s,lp63 ch l (n + E.length) false)) B
   have hst := plus_store_end (hn (s,lp63 ch l (n + E.length) false)) (hlk _) B
   have hse := settle_end (hn (s,lp63 ch l (n + E.length) false)) B
   unfold hp63
   rw [plus_size,hn]
   show Wp (Cx e) 117 (some (n + E.length + 2)) asg63 ⟨26,setTmps 26 [(0,.yld l),(1,.ro (.agg [ch]) 0),(2,.ptr (n + E.length) 0 0),(8,.fn (.func 136) [] [.ro (.agg [ch]) 0])] ([9,10].zip [placeA i k 0,lx]),[]⟩ ((hq hp E l 171 (s,lp63 ch l (n + E.length) false)).plus B) _
   generalize hKK : asgK _ _ _ _ _ = KK
   unfold asg63
   simp only [Tryz.f117,rangeOf,Option.bind_some,Option.orElse_some,Option.orElse_none,Option.getD_some]
   simp -implicitDefEqProofs only [go_sem,↓reduceIte,intA,placeA,List.zip_cons_cons,List.zip_nil_right,List.zip_nil_left,setT_nil,setT_cons,plus_size,hn,hps,hst,hse,settle_none (hn _),nmax]
   subst hKK
   refine asgK_mk (hq_loop hsrc E _ _) rfl ?_
   rw [hq_put hsrc]
   show Wp (Cx e) 117 (some (n + E.length + 2)) bdy63 _ _ _
   generalize hKK : bodyK _ _ _ = KK
   unfold bdy63
   simp only [Tryz.f117,rangeOf,Option.bind_some,Option.orElse_some,Option.orElse_none,Option.getD_some]
   simp -implicitDefEqProofs only [go_sem,↓reduceIte,intA,hlx.len,plus_size,hn,settle_none (hn _)]
   refine loop63 ch lx els hlx hec hlen _ l S hp stp ok live n hsrc E B _ i k _ hok _ els.length 0 s [] 0 (by omega) hl ?_ ?_
   ·intro hf G w tl
    subst hKK
    simp -implicitDefEqProofs only [go_sem,↓reduceIte]
    rw [List.drop_zero] at hf
    refine bodyK_mk (hq_loop hsrc E _ _) rfl ?_
    rw [hq_put hsrc]
    have e1 : stp63 stp (s,false) [placeA i k 0,lx] = (true,((runIt stp (wIts (intA i) (intA k) 0 els) s).2,false)) := by
     simp only [stp63,placeA,hlx.elems,hf];rfl
    rw [e1]
    refine ⟨rfl, ?_⟩
    exact trim_plus (H := hq hp E l 171 _) B _ [] [] (by rw [hn])
   ·intro hf G w tl
    subst hKK
    simp -implicitDefEqProofs only [go_sem,↓reduceIte]
    rw [List.drop_zero] at hf
    refine bodyK_mk (hq_loop hsrc E _ _) rfl ?_
    rw [hq_put hsrc]
    have e1 : stp63 stp (s,false) [placeA i k 0,lx] = (false,((runIt stp (wIts (intA i) (intA k) 0 els) s).2,true)) := by
     simp only [stp63,placeA,hlx.elems,hf];rfl
    rw [e1]
    refine ⟨rfl, ?_⟩
    exact trim_plus (H := hq hp E l 171 _) B _ [] [] (by rw [hn])
end Go.Ev
namespace Go.Ev
open Go.Proofs
def expandL (x : List AV) : List (List AV) := match x with | [.agg [a,b,_],lx] => wIts a b 0 (slElems lx) | _ => []
def allIts (xs : List AV) : List (List AV) := (chapIts 0 xs).flatMap expandL
theorem runIt_cons {S : Type} (stp : S → List AV → Bool × S) (x : List AV) (r : List (List AV)) (s : S) : runIt stp (x :: r) s = if (stp s x).1 then runIt stp r (stp s x).2 else (false,(stp s x).2) := rfl
theorem run63 {S : Type} (stp : S → List AV → Bool × S) : ∀ (items : List (List AV)) (s : S),(∀ x ∈ items,∃ (i k : Nat) (lx : AV),x = [placeA i k 0,lx]) →
  runIt (stp63 stp) items (s,false) = ((runIt stp (items.flatMap expandL) s).1,((runIt stp (items.flatMap expandL) s).2, !(runIt stp (items.flatMap expandL) s).1))
 | [],s,_ => rfl
 | x :: r,s,h => by
  obtain ⟨i,k,lx,rfl⟩ := h x List.mem_cons_self
  have ih := run63 stp r
  rw [List.flatMap_cons,runIt_append]
  have e1 : expandL [placeA i k 0,lx] = wIts (intA i) (intA k) 0 (slElems lx) := rfl
  have e2 : stp63 stp (s,false) [placeA i k 0,lx] = ((runIt stp (wIts (intA i) (intA k) 0 (slElems lx)) s).1,((runIt stp (wIts (intA i) (intA k) 0 (slElems lx)) s).2, !(runIt stp (wIts (intA i) (intA k) 0 (slElems lx)) s).1)) := rfl
  rw [e1,runIt_cons,e2]
  by_cases hq : (runIt stp (wIts (intA i) (intA k) 0 (slElems lx)) s).1 = true
  ·simp only [hq,if_true,Bool.not_true]
   exact ih _ fun y hy => h y (List.mem_cons_of_mem _ hy)
  ·have hq' : (runIt stp (wIts (intA i) (intA k) 0 (slElems lx)) s).1 = false := by simpa using hq
   simp only [hq',Bool.false_eq_true,if_false,Bool.not_false]
def OkCh2 (y : AV) : Prop := ∃ id l0 lxs,y = .agg [intA id,l0] ∧ SlOf 1 lxs l0 ∧ lxs.length < 2 ^ 63 ∧ ∀ x ∈ lxs,∃ els,SlOf 1 els x ∧ (∀ z ∈ els,z.cells = [z]) ∧ els.length < 2 ^ 63
theorem OkCh2.ok {y : AV} (h : OkCh2 y) : OkCh y := by
 obtain ⟨id,l0,lxs,h1,h2,h3,h4⟩ := h
 exact ⟨id,l0,lxs,h1,h2,fun x hx => by obtain ⟨els,h5, -⟩ := h4 x hx;exact h5.cells,h3⟩
theorem chapIts_of : ∀ (xs : List AV) (k : Nat) (x : List AV),x ∈ chapIts k xs → ∃ i y j z,xs[i]? = some y ∧ (linesOf y)[j]? = some z ∧ x = [placeA (k + i) j 0,z]
 | [],_,_,h => by simp [chapIts] at h
 | y :: r,k,x,h => by
  rcases List.mem_append.1 h with h | h
  ·obtain ⟨j,z,h1,rfl⟩ := lineIts_of k _ 0 x h
   exact ⟨0,y,j,z,rfl,h1,by rw [Nat.zero_add];rfl⟩
  ·obtain ⟨i,y',j,z,h1,h2,rfl⟩ := chapIts_of r (k + 1) x h
   exact ⟨i + 1,y',j,z,by simpa using h1,h2,by rw [show k + 1 + i = k + (i + 1) by omega]⟩
theorem expand_mem {items : List (List AV)} {x y : List AV} (hx : x ∈ items) (hy : y ∈ expandL x) : y ∈ items.flatMap expandL := List.mem_flatMap.2 ⟨x,hx,hy⟩
theorem wIts_mem (a b : AV) : ∀ (l : List AV) (k j : Nat) (x : AV),l[j]? = some x → [placeB a b ((k + j : Nat) : Int),x] ∈ wIts a b k l
 | [],_,j,_,h => by simp at h
 | y :: r,k,0,x,h => by simp at h;subst h;simp [wIts]
 | y :: r,k,j + 1,x,h => by
  have := wIts_mem a b r (k + 1) j x (by simpa using h)
  rw [show k + 1 + j = k + (j + 1) by omega] at this
  exact List.mem_cons_of_mem _ this
theorem begin_loop {X : Heap} {n : Nat} (hn : X.size = n) (E : List (Option AObj)) (l t : Nat) (L : ALoop) : (((X.plus (E ++ [some (wBox l t)])).put (n + E.length + 1) .dfr).put (n + E.length + 2) (.loop L)) = X.plus (E ++ [some (wBox l t),some .dfr,some (.loop L)]) := by
 have h1 := plus_put_end hn (E ++ [some (wBox l t)]) .dfr
 rw [show n + (E ++ [some (wBox l t)]).length = n + E.length + 1 by simp;omega] at h1
 rw [h1]
 have h2 := plus_put_end hn (E ++ [some (wBox l t)] ++ [some .dfr]) (.loop L)
 rw [show n + (E ++ [some (wBox l t)] ++ [some AObj.dfr]).length = n + E.length + 2 by simp;omega] at h2
 rw [h2];simp
theorem yields63 {e : Exts} (he : Quiet e) (ch : AV) (xs : List AV) (hch : SlOf 2 xs ch) (hall : ∀ y ∈ xs,OkCh2 y) (hlen : xs.length < 2 ^ 63) : Yields (Cx e) 117 [.ro (.agg [ch]) 0] (allIts xs) := by
 intro l S hp stp ok live n hsrc hok s E hlv
 have hn := hsrc.size
 have hlk : ∀ s,(hp s).lock ≤ n := fun s => by have := hsrc.lock s;have := hsrc.lt;omega
 have hok63 : ∀ x ∈ chapIts 0 xs,ok63 ok x := by
  intro x hx
  obtain ⟨i,y,j,z,hy,hz,rfl⟩ := chapIts_of xs 0 x hx
  obtain ⟨id,l0,lxs,rfl,hl0, -,hlx⟩ := hall y (List.mem_of_getElem? hy)
  have hz' : lxs[j]? = some z := by rw [← hl0.elems];exact hz
  obtain ⟨els,h1,h2,h3⟩ := hlx z (List.mem_of_getElem? hz')
  rw [Nat.zero_add] at hx ⊢
  refine ⟨i,j,z,els,rfl,h1,h2,h3,fun w u hu => hok _ (expand_mem hx ?_)⟩
  show _ ∈ wIts (intA i) (intA j) 0 (slElems z)
  rw [h1.elems]
  have := wIts_mem (intA i) (intA j) els 0 w u hu
  rwa [Nat.zero_add] at this
 obtain ⟨G,hG⟩ := yields88 (e := e) ch xs hch (fun y hy => (hall y hy).ok) hlen (n + E.length + 2) (S × Bool) _ _ _ _ _ (src63 ch l S hp stp ok live n hsrc E) hok63 (s,false) [] ⟨hlv,rfl⟩
 rw [run63 stp _ s (fun x hx => by obtain ⟨i,k,lx,els,h1, -⟩ := hok63 x hx;exact ⟨i,k,lx,h1⟩)] at hG
 generalize hq0 : runIt stp ((chapIts 0 xs).flatMap expandL) s = q at hG
 have hcb := callB_yld (C := Cx e) (me := 117) (d := none) (l := n + E.length + 2) (by simp) hG
 obtain ⟨G',hG'⟩ := trim_plus (H := hp63 hp E ch l n (q.2, !q.1)) [] G [.tup []] [] (n := ((hp63 hp E ch l n (s,false)).plus []).size) (by rw [plus_size];unfold hp63;rw [hq_size hsrc,hq_size hsrc])
 rw [hG',List.nil_append] at hcb
 have key : Fn' (Cx e) 117 [.yld l,.ro (.agg [ch]) 0] ((hp s).plus E) fun v H' => v = .tup [] ∧ ∃ G,H' = (hp (runIt stp (allIts xs) s).2).plus (E ++ G) := by
  rw [fn_step (fn_117 e) (show Tryz.f117.body = some _ from rfl)]
  simp -implicitDefEqProofs only [Tryz.f117,intA,go_sem,↓reduceIte,hch.cells,hch.flat,hch.bound,plus_size,hn,settle_none (hn _),plus_put_end (hn _),settle_end (hn _),plus_row_at (hn _),call64 he ch xs hch]
  have hsz : ((hp s).plus (E ++ [some (AObj.cells 0 (bound (.yld l)) 171 1 false [.yld l])])).size = n + E.length + 1 := by rw [plus_size,hn];simp;omega
  have hbeg := begin_loop (hn s) E l 171
  have hq1 : (hp63 hp E ch l n (q.2, !q.1)).plus G' = (hq hp E l 171 (q.2,lp63 ch l (n + E.length) (!q.1))).plus G' := rfl
  have hend : ∃ G2,((((hp63 hp E ch l n (q.2, !q.1)).plus G').put (n + E.length + 2) .dead).put (n + E.length + 1) .dead) = (hp q.2).plus (E ++ G2) ∧ (((hp63 hp E ch l n (q.2, !q.1)).plus G').put (n + E.length + 2) .dead).get (n + E.length + 1) = some .dfr ∧ (((hp63 hp E ch l n (q.2, !q.1)).plus G').put (n + E.length + 2) .dead).lock ≤ n + E.length + 1 := by
   have hA : (hp63 hp E ch l n (q.2, !q.1)).plus G' = (hp q.2).plus ((E ++ [some (wBox l 171),some .dfr]) ++ some (.loop (lp63 ch l (n + E.length) (!q.1))) :: G') := by
    unfold hp63 hq;rw [plus_plus];simp
   have h1 := plus_mid_put (hn q.2) (E ++ [some (wBox l 171),some .dfr]) G' (some (.loop (lp63 ch l (n + E.length) (!q.1)))) .dead
   rw [show n + (E ++ [some (wBox l 171),some AObj.dfr]).length = n + E.length + 2 by simp;omega] at h1
   rw [hA,h1]
   have hB : (E ++ [some (wBox l 171),some AObj.dfr]) ++ some .dead :: G' = (E ++ [some (wBox l 171)]) ++ some .dfr :: some .dead :: G' := by simp
   have hl1 : n + (E ++ [some (wBox l 171)]).length = n + E.length + 1 := by simp;omega
   have h2 := plus_mid_put (hn q.2) (E ++ [some (wBox l 171)]) (some .dead :: G') (some .dfr) .dead
   have h3 := plus_mid_get (hn q.2) (E ++ [some (wBox l 171)]) (some .dead :: G') (some .dfr)
   rw [hl1] at h2 h3
   rw [hB,h2,h3]
   refine ⟨some (wBox l 171) :: some .dead :: some .dead :: G',by simp,rfl, ?_⟩
   rw [plus_lock];have := hlk q.2;omega
  obtain ⟨G2,he1,he2,he3⟩ := hend
  have hkill : killAll [n + E.length + 1] (((hp63 hp E ch l n (q.2, !q.1)).plus G').put (n + E.length + 2) .dead) = some ((hp q.2).plus (E ++ G2)) := by
   unfold killAll;rw [he2];simp only;rw [if_pos he3,he1];rfl
  refine wp_range0 (f := 136) (first := []) (cap := [.ro (.agg [ch]) 0]) rfl (v := .tup []) (H2 := (hp63 hp E ch l n (q.2, !q.1)).plus G') ?_ (r := lp63 ch l (n + E.length) (!q.1)) ?_ ?_ ?_ ?_
  ·rw [hsz]
   have hh : hp63 hp E ch l n (s,false) = (hp s).plus (E ++ [some (wBox l 171),some .dfr,some (.loop (lp63 ch l (n + E.length) false))]) := rfl
   rw [plus_nil,hh,← hbeg] at hcb
   exact hcb
  ·rw [hsz,hq1];exact hq_loop hsrc E _ G'
  ·unfold lp63 lr63;cases q.1 <;> simp
  ·rw [hsz];rfl
  ·rw [hsz]
   have hfin : ∀ (ex : AExit),ex = .normal ∨ ex = .ret → AtK (blkK 0 (finK (Cx e) [] fun v H' => v = .tup [] ∧ ∃ G,H' = (hp (runIt stp (allIts xs) s).2).plus (E ++ G))) ex ⟨26,[(0,.yld l),(1,.ro (.agg [ch]) 0),(2,.ptr (n + E.length) 0 0),(8,.fn (.func 136) [] [.ro (.agg [ch]) 0])],[n + E.length + 1]⟩ (((hp63 hp E ch l n (q.2, !q.1)).plus G').put (n + E.length + 2) .dead) := by
    rintro ex (rfl | rfl)
    ·simp -implicitDefEqProofs only [go_sem,↓reduceIte,hkill]
     exact ⟨rfl,G2,by unfold allIts;rw [hq0]⟩
    ·simp -implicitDefEqProofs only [go_sem,↓reduceIte,hkill]
     exact ⟨rfl,G2,by unfold allIts;rw [hq0]⟩
   cases hb : q.1
   ·rw [hb] at hfin;exact hfin .ret (Or.inr rfl)
   ·rw [hb] at hfin;exact hfin .normal (Or.inl rfl)
 obtain ⟨v,H',h1,rfl,G,rfl⟩ := fn_ex key
 exact ⟨G,h1⟩
end Go.Ev
namespace Go.Ev
open Go.Proofs
theorem call_k2 {C : Cfg} {me f : FuncId} {d : Option Tmp} {args : List AV} {H : Heap} {x : Value} (hx : C.ext f = none) (hp : C.pure me f d = true) (hb : Nat.beq (boundL args) 0 = false) (hy : args.any isYld = false)
  (h : Fn' C f args { H with lock := H.size } fun v _ => v = .v x) (hh : C.exh f = none := by rfl) : callA C (lim C) me f d args H = some (.v x,H) := by
 obtain ⟨v,H',h1,rfl⟩ := fn_ex h
 have hk : callKind C me f d args = 2 := by unfold callKind;rw [hp,hb,hy];rfl
 rw [callA_none hx hh]
 unfold callB;rw [hk];simp only [h1]
 rfl
theorem call_k0 {C : Cfg} {me f : FuncId} {d : Option Tmp} {args : List AV} {H : Heap} {x : Value} (hx : C.ext f = none) (hp : C.pure me f d = false)
  (h : Fn' C f args H fun v H' => v = .v x ∧ H' = H) (hh : C.exh f = none := by rfl) : callA C (lim C) me f d args H = some (.v x,H) := by
 obtain ⟨v,H',h1,rfl,rfl⟩ := fn_ex h
 have hk : callKind C me f d args = 0 := by unfold callKind;rw [hp];rfl
 rw [callA_none hx hh]
 unfold callB;rw [hk];simp only [h1,trim_size]
theorem ans51 {e : Exts} (he : Quiet e) (n : Int) : Ans (Cx e) 133 [intA n] (.v (.bool (withinB 0 9999 [n]))) := by
 unfold Ans
 rw [fn_step (fn_133 e) (show Tryz.f133.body = some _ from rfl)]
 have hc := call69 he 0 9999 [n] (by simp) (.vs 1 [.v (.int .i64 n)] (some 1)) (Or.inr ⟨_,rfl⟩)
 unfold intA at hc
 simp -implicitDefEqProofs only [Tryz.f133,intA,go_sem,↓reduceIte,hc]
theorem callI51 {e : Exts} (he : Quiet e) (n : Int) (me : FuncId) (d : Option Tmp) : callI (Cx e) me 133 d [.v (.int .i64 n)] = some (.v (.bool (withinB 0 9999 [n]))) :=
 (ans51 he n).callI (ext_133 he) (pure_133 _ _ _) rfl
theorem ans82 {e : Exts} (he : Quiet e) (n : Int) : Ans (Cx e) 139 [.vs 1 [intA n] (some 1)] (.v (.bool (withinB 1 10 [n]))) := by
 unfold Ans
 rw [fn_step (fn_139 e) (show Tryz.f139.body = some _ from rfl)]
 have hc := call69 he 1 10 [n] (by simp) (.vs 1 [.v (.int .i64 n)] (some 1)) (Or.inr ⟨_,rfl⟩)
 unfold intA at hc
 simp -implicitDefEqProofs only [Tryz.f139,intA,go_sem,↓reduceIte,hc]
theorem call82 {e : Exts} (he : Quiet e) (n : Int) (me : FuncId) (d : Option Tmp) (H : Heap) : callA (Cx e) (lim (Cx e)) me 139 d [.vs 1 [.v (.int .i64 n)] (some 1)] H = some (.v (.bool (withinB 1 10 [n])),H) :=
 (ans82 he n).call (ext_139 he) (pure_139 _ _ _) rfl H
def hId (id : Int) : Heap := ⟨[some (.cells 0 0 3 1 false [intA id])],0⟩
theorem call101 {e : Exts} (he : Quiet e) (id n : Int) (l : AV) (ls : List AV) (hl : SlOf 1 ls l) (me : FuncId) (d : Option Tmp) : callA (Cx e) (lim (Cx e)) me 160 d [.agg [.v (.int .i64 n),l],.ptr 0 0 0] (hId id) = some (.v (.bool (decide (n = id))),hId id) := by
 refine call_k2 (ext_160 he) (pure_160 _ _ _) (by simp only [boundL_cons,bound_agg,bound_ptr,bound_v,hl.bound,boundL_nil];rfl) rfl ?_
 rw [fn_step (fn_160 e) (show Tryz.f160.body = some _ from rfl)]
 simp -implicitDefEqProofs only [Tryz.f160,hId,intA,go_sem,↓reduceIte,hl.cells,hl.flat,hl.bound]
 rfl
noncomputable def body120 : Code := ((Tryz.f184.body.map loops).getD [])[0]?.getD .skip
theorem loop120 {e : Exts} (he : Quiet e) (id : Int) (t : Txt) (x : AV) (xs : List AV) (hx : SlOf 2 xs x) (hall : All2 ChapA t xs) (hn : t.length < 2 ^ 63) (K : Post) :
  ∀ m j : Nat,j + m = t.length → ((t.drop j).any (fun c => decide (c.1 = id)) = false → ∀ tl,AtK K (.exit 0) ⟨19,tl,[]⟩ (hId id)) → ((t.drop j).any (fun c => decide (c.1 = id)) = true → ∀ (n : Nat) tl,assoc 4 tl = some (intA n) → AtK K .ret ⟨19,tl,[]⟩ (hId id)) →
  Lp (Cx e) 184 none [0,1,4,7,8] body120 ⟨19,[(0,x),(1,.fn (.func 160) [] [.ptr 0 0 0]),(4,intA 0),(7,intA t.length),(8,intA j)],[]⟩ (hId id) K := by
 intro m
 induction m with
 | zero =>
  intro j hj h1 h2
  rw [Lp_step]
  generalize hK : loopK (Cx e) 184 none _ body120 _ K = KK
  unfold body120
  obtain rfl : j = t.length := by omega
  simp only [Tryz.f184,loops,Option.map_some,Option.getD_some,List.nil_append,List.append_nil,List.cons_append,List.getElem?_cons_zero,List.getElem?_cons_succ]
  simp -implicitDefEqProofs only [go_sem,↓reduceIte,intA,hId,Int.lt_irrefl]
  subst hK
  simp -implicitDefEqProofs only [go_sem,↓reduceIte,hId]
  exact h1 (by simp) _
 | succ m ih =>
  intro j hj h1 h2
  obtain ⟨c,hs⟩ := at_lt t j (by omega)
  obtain ⟨y,hy,l,rfl,ls,hl, -⟩ := hall.get hs
  have hd := drop_any (fun c : Chap => decide (c.1 = id)) t j c hs
  have hlt : (j : Int) < ((t.length : Nat) : Int) := by omega
  have hw := wrap_succ j (by omega)
  have hc := call101 he id c.1 l ls hl
  unfold hId intA at hc
  rw [Lp_step]
  generalize hK : loopK (Cx e) 184 none _ body120 _ K = KK
  unfold body120
  simp only [Tryz.f184,loops,Option.map_some,Option.getD_some,List.nil_append,List.append_nil,List.cons_append,List.getElem?_cons_zero,List.getElem?_cons_succ]
  by_cases c1 : c.1 = id
  ·simp only [c1,decide_true] at hc
   simp -implicitDefEqProofs only [go_sem,↓reduceIte,intA,hId,hlt,hw,hx.idx hy,hc,c1]
   subst hK
   simp -implicitDefEqProofs only [go_sem,↓reduceIte]
   exact h2 (by rw [hd];simp [c1]) j _ rfl
  ·simp only [c1,decide_false] at hc
   simp -implicitDefEqProofs only [go_sem,↓reduceIte,intA,hId,hlt,hw,hx.idx hy,hc]
   subst hK
   simp -implicitDefEqProofs only [go_sem,↓reduceIte,hId]
   rw [hd] at h1 h2
   simp only [c1,decide_false,Bool.false_or] at h1 h2
   exact ih (j + 1) (by omega) h1 h2
def hasIdB (t : Txt) (id : Int) : Bool := t.any fun c => decide (c.1 = id)
theorem pure120 (e : Exts) (h : FuncId) (d : Option Tmp) : (Cx e).pure h 184 d = false := by simp [Cx,pureF,impF,impC]
theorem pure100 (e : Exts) (h : FuncId) (d : Option Tmp) : (Cx e).pure h 159 d = false := by simp [Cx,pureF,impF,impC]
theorem fn120 {e : Exts} (he : Quiet e) (id : Int) (t : Txt) (x : AV) (xs : List AV) (hx : SlOf 2 xs x) (hall : All2 ChapA t xs) (hn : t.length < 2 ^ 63) :
  ∃ n : Int,decide (0 ≤ n) = hasIdB t id ∧ Fn' (Cx e) 184 [x,.fn (.func 160) [] [.ptr 0 0 0]] (hId id) fun v H' => v = intA n ∧ H' = hId id := by
 have key : Fn' (Cx e) 184 [x,.fn (.func 160) [] [.ptr 0 0 0]] (hId id) fun v H' => (∃ n : Int,decide (0 ≤ n) = hasIdB t id ∧ v = intA n) ∧ H' = hId id := by
  rw [fn_step (fn_184 e) (show Tryz.f184.body = some _ from rfl)]
  simp -implicitDefEqProofs only [Tryz.f184,hId,intA,go_sem,↓reduceIte,hx.len,← hall.1]
  refine loop120 he id t x xs hx hall hn _ t.length 0 (by omega) ?_ ?_
  ·intro hf tl
   simp -implicitDefEqProofs only [go_sem,↓reduceIte,hId]
   exact ⟨⟨-1,by unfold hasIdB;rw [List.drop_zero] at hf;rw [hf];rfl,rfl⟩,rfl⟩
  ·intro hf n tl htl
   simp -implicitDefEqProofs only [go_sem,↓reduceIte,htl]
   exact ⟨⟨n,by unfold hasIdB;rw [List.drop_zero] at hf;rw [hf];simp,rfl⟩,rfl⟩
 obtain ⟨v,H',h1,⟨n,hnn,rfl⟩,rfl⟩ := fn_ex key
 refine ⟨n,hnn, ?_⟩
 unfold Fn';rw [h1];exact ⟨rfl,rfl⟩
theorem call100 {e : Exts} (he : Quiet e) (id : Int) (t : Txt) (x : AV) (xs : List AV) (hx : SlOf 2 xs x) (hall : All2 ChapA t xs) (hn : t.length < 2 ^ 63) (me : FuncId) (d : Option Tmp) :
  callA (Cx e) (lim (Cx e)) me 159 d [x,.fn (.func 160) [] [.ptr 0 0 0]] (hId id) = some (.v (.bool (hasIdB t id)),hId id) := by
 refine call_k0 (ext_159 he) (pure100 _ _ _) ?_
 obtain ⟨n,hnn,hf⟩ := fn120 he id t x xs hx hall hn
 have hc := call_k0 (me := 159) (d := some 7) (ext_184 he) (pure120 e _ _) hf
 unfold hId intA at hc
 rw [fn_step (fn_159 e) (show Tryz.f159.body = some _ from rfl)]
 simp -implicitDefEqProofs only [Tryz.f159,hId,intA,go_sem,↓reduceIte,hc]
 exact ⟨by rw [hnn],rfl⟩
theorem ans86 {e : Exts} (he : Quiet e) (id : Int) (t : Txt) (x : AV) (xs : List AV) (hx : SlOf 2 xs x) (hall : All2 ChapA t xs) (hn : t.length < 2 ^ 63) : Ans (Cx e) 134 [x,intA id] (.v (.bool (hasIdB t id))) := by
 unfold Ans
 have hc := call100 he id t x xs hx hall hn 134 (some 7)
 unfold hId intA at hc
 rw [fn_step (fn_134 e) (show Tryz.f134.body = some _ from rfl)]
 simp -implicitDefEqProofs only [Tryz.f134,intA,go_sem,↓reduceIte,hc]
theorem callI86 {e : Exts} (he : Quiet e) (id : Int) (t : Txt) (x : AV) (xs : List AV) (hx : SlOf 2 xs x) (hall : All2 ChapA t xs) (hn : t.length < 2 ^ 63) (me : FuncId) (d : Option Tmp) : callI (Cx e) me 134 d [x,.v (.int .i64 id)] = some (.v (.bool (hasIdB t id))) :=
 (ans86 he id t x xs hx hall hn).callI (ext_134 he) (pure_134 _ _ _) (by simp only [boundL_cons,hx.bound,intA,bound_v,boundL_nil];rfl)
noncomputable def body87 (n : Nat) : Code := ((Tryz.f135.body.map loops).getD [])[n]?.getD .skip
def okUpto (ls : List Line) (j : Nat) : Nat := ((ls.take j).filter lineB).length
theorem okUpto_succ (ls : List Line) (j : Nat) (l : Line) (h : ls[j]? = some l) : okUpto ls (j + 1) = okUpto ls j + if lineB l then 1 else 0 := by
 obtain ⟨hj,rfl⟩ := List.getElem?_eq_some_iff.1 h
 unfold okUpto
 rw [List.take_succ_eq_append_getElem hj,List.filter_append,List.length_append]
 congr 1
 cases h : lineB ls[j] <;> simp [h]
theorem okUpto_le (ls : List Line) (j : Nat) : okUpto ls j ≤ j := by
 unfold okUpto
 exact Nat.le_trans (List.length_filter_le _ _) (by simp;omega)
theorem okUpto_all (ls : List Line) : (okUpto ls ls.length = ls.length) ↔ ls.all lineB = true := by
 unfold okUpto
 rw [List.take_of_length_le (Nat.le_refl _),List.length_filter_eq_length_iff,List.all_eq_true]
def allW (ws : Line) (j : Nat) : Bool := (ws.drop j).all wordB
theorem loop87w {e : Exts} (he : Quiet e) (x lx : AV) (r nl i : Nat) (ws : Line) (hlx : SlOf 1 (strs ws) lx) (hn : ws.length < 2 ^ 63) (hz : ∀ s ∈ ws,s.size < 2 ^ 63) (K : Post) :
  ∀ m j : Nat,j + m = ws.length → (allW ws j = true → ∀ k : Nat,AtK K (.exit 2) ⟨46,[(0,x),(2,.v (.bool false)),(12,.v (.bool false)),(3,intA r),(14,intA nl),(15,intA i),(16,.v (.bool true)),(4,intA i),(25,.v (.bool false)),(29,lx),(30,intA ws.length),(31,intA k)],[]⟩ ⟨[],0⟩) →
   (allW ws j = false → ∀ k : Nat,AtK K (.exit 1) ⟨46,[(0,x),(2,.v (.bool false)),(12,.v (.bool false)),(3,intA r),(14,intA nl),(15,intA i),(16,.v (.bool true)),(4,intA i),(25,.v (.bool false)),(29,lx),(30,intA ws.length),(31,intA k)],[]⟩ ⟨[],0⟩) →
  Lp (Cx e) 135 none [0,2,12,3,14,15,16,4,25,29,30,31] (body87 1) ⟨46,[(0,x),(2,.v (.bool false)),(12,.v (.bool false)),(3,intA r),(14,intA nl),(15,intA i),(16,.v (.bool true)),(4,intA i),(25,.v (.bool false)),(29,lx),(30,intA ws.length),(31,intA j)],[]⟩ ⟨[],0⟩ K := by
 intro m
 induction m with
 | zero =>
  intro j hj h1 h2
  rw [Lp_step]
  generalize hK : loopK (Cx e) 135 none _ (body87 1) _ K = KK
  unfold body87
  obtain rfl : j = ws.length := by omega
  simp only [Tryz.f135,loops,Option.map_some,Option.getD_some,List.nil_append,List.append_nil,List.cons_append,List.getElem?_cons_zero,List.getElem?_cons_succ]
  simp -implicitDefEqProofs only [go_sem,↓reduceIte,intA,Int.lt_irrefl]
  subst hK
  simp -implicitDefEqProofs only [go_sem,↓reduceIte]
  exact h1 (by unfold allW;rw [List.drop_of_length_le (Nat.le_refl _)];rfl) _
 | succ m ih =>
  intro j hj h1 h2
  obtain ⟨s,hs⟩ := at_lt ws j (by omega)
  have hd : allW ws j = (wordB s && allW ws (j + 1)) := drop_all _ ws j s hs
  have hlt : (j : Int) < ((ws.length : Nat) : Int) := by omega
  have hw := wrap_succ j (by omega)
  have hc := call49 he s (hz s (List.mem_of_getElem? hs))
  rw [Lp_step]
  generalize hK : loopK (Cx e) 135 none _ (body87 1) _ K = KK
  unfold body87
  simp only [Tryz.f135,loops,Option.map_some,Option.getD_some,List.nil_append,List.append_nil,List.cons_append,List.getElem?_cons_zero,List.getElem?_cons_succ]
  cases c1 : wordB s
  ·rw [c1] at hc
   simp -implicitDefEqProofs only [go_sem,↓reduceIte,intA,hlt,hw,hlx.idx (strs_get hs),hc]
   subst hK
   simp -implicitDefEqProofs only [go_sem,↓reduceIte]
   exact h2 (by rw [hd,c1];rfl) j
  ·rw [c1] at hc
   simp -implicitDefEqProofs only [go_sem,↓reduceIte,intA,hlt,hw,hlx.idx (strs_get hs),hc]
   subst hK
   simp -implicitDefEqProofs only [go_sem,↓reduceIte]
   rw [hd,c1,Bool.true_and] at h1 h2
   exact ih (j + 1) (by omega) h1 h2
theorem loop87l {e : Exts} (he : Quiet e) (x : AV) (lxs : List AV) (hx : SlOf 1 lxs x) (ls : List Line) (hls : All2 LineA ls lxs) (hn : ls.length < 2 ^ 63) (hnn : ∀ l ∈ ls,l.length < 2 ^ 63) (hz : ∀ l ∈ ls,∀ s ∈ l,s.size < 2 ^ 63) (K : Post)
  (hK0 : AtK K (.exit 0) ⟨46,[(0,x),(2,.v (.bool false)),(12,.v (.bool false)),(3,intA (okUpto ls ls.length)),(14,intA ls.length),(15,intA ls.length)],[]⟩ ⟨[],0⟩) :
  ∀ m j : Nat,j + m = ls.length →
  Lp (Cx e) 135 none [0,2,12,3,14,15] (body87 0) ⟨46,[(0,x),(2,.v (.bool false)),(12,.v (.bool false)),(3,intA (okUpto ls j)),(14,intA ls.length),(15,intA j)],[]⟩ ⟨[],0⟩ K := by
 intro m
 induction m with
 | zero =>
  intro j hj
  rw [Lp_step]
  generalize hK : loopK (Cx e) 135 none _ (body87 0) _ K = KK
  unfold body87
  obtain rfl : j = ls.length := by omega
  simp only [Tryz.f135,loops,Option.map_some,Option.getD_some,List.nil_append,List.append_nil,List.cons_append,List.getElem?_cons_zero,List.getElem?_cons_succ]
  simp -implicitDefEqProofs only [go_sem,↓reduceIte,intA,Int.lt_irrefl]
  subst hK
  simp -implicitDefEqProofs only [go_sem,↓reduceIte]
  exact hK0
 | succ m ih =>
  intro j hj
  obtain ⟨ws,hs⟩ := at_lt ls j (by omega)
  obtain ⟨lx,hy,hlx⟩ := hls.get hs
  have hlx : SlOf 1 (strs ws) lx := hlx
  have hm := List.mem_of_getElem? hs
  have hsu := okUpto_succ ls j ws hs
  have hle := okUpto_le ls j
  have hlt : (j : Int) < ((ls.length : Nat) : Int) := by omega
  have hw := wrap_succ j (by omega)
  have hw2 := wrap_succ (okUpto ls j) (by omega)
  have hc := call82 he (ws.length : Int)
  have hih := ih (j + 1) (by omega)
  rw [Lp_step]
  generalize hK : loopK (Cx e) 135 none _ (body87 0) _ K = KK
  unfold body87
  simp only [Tryz.f135,loops,Option.map_some,Option.getD_some,List.nil_append,List.append_nil,List.cons_append,List.getElem?_cons_zero,List.getElem?_cons_succ]
  cases c1 : withinB 1 10 [(ws.length : Int)]
  ·rw [c1] at hc
   have hb : lineB ws = false := by unfold lineB;rw [c1];rfl
   simp -implicitDefEqProofs only [go_sem,↓reduceIte,intA,hlt,hw,hx.idx hy,hlx.cells,hlx.len,strs_len,hc]
   subst hK
   simp -implicitDefEqProofs only [go_sem,↓reduceIte]
   rw [hsu,hb] at hih
   exact hih
  ·rw [c1] at hc
   simp -implicitDefEqProofs only [go_sem,↓reduceIte,intA,hlt,hw,hx.idx hy,hlx.cells,hlx.len,strs_len,hc]
   refine loop87w he x lx (okUpto ls j) ls.length j ws hlx (hnn ws hm) (hz ws hm) _ ws.length 0 (by omega) ?_ ?_
   ·intro hf k
    have hb : lineB ws = true := by unfold lineB;rw [c1];unfold allW at hf;rw [List.drop_zero] at hf;rw [hf];rfl
    simp -implicitDefEqProofs only [go_sem,↓reduceIte,intA,hw,hw2]
    subst hK
    simp -implicitDefEqProofs only [go_sem,↓reduceIte]
    rw [hsu,hb] at hih
    exact hih
   ·intro hf k
    have hb : lineB ws = false := by unfold lineB;unfold allW at hf;rw [List.drop_zero] at hf;rw [hf,Bool.and_false]
    simp -implicitDefEqProofs only [go_sem,↓reduceIte,intA,hw]
    subst hK
    simp -implicitDefEqProofs only [go_sem,↓reduceIte]
    rw [hsu,hb] at hih
    exact hih
def linesB (ls : List Line) : Bool := withinB 1 10 [(ls.length : Int)] && ls.all lineB
theorem ans87 {e : Exts} (he : Quiet e) (x : AV) (ls : List Line) (hx : LinesA ls x) (hn : ls.length < 2 ^ 63) (hnn : ∀ l ∈ ls,l.length < 2 ^ 63) (hz : ∀ l ∈ ls,∀ s ∈ l,s.size < 2 ^ 63) : Ans (Cx e) 135 [x] (.v (.bool (linesB ls))) := by
 obtain ⟨lxs,hx,hls⟩ := hx
 unfold Ans
 have hc := call69 he 1 10 [(ls.length : Int)] (by simp) (.vs 1 [.v (.int .i64 ls.length)] (some 1)) (Or.inr ⟨_,rfl⟩)
 unfold intA at hc
 rw [fn_step (fn_135 e) (show Tryz.f135.body = some _ from rfl)]
 cases c1 : withinB 1 10 [(ls.length : Int)]
 ·rw [c1] at hc
  simp -implicitDefEqProofs only [Tryz.f135,intA,go_sem,↓reduceIte,hx.len,← hls.1,hc]
  unfold linesB;rw [c1];rfl
 ·rw [c1] at hc
  simp -implicitDefEqProofs only [Tryz.f135,intA,go_sem,↓reduceIte,hx.len,← hls.1,hc]
  refine loop87l he x lxs hx ls hls hn hnn hz _ ?_ ls.length 0 (by omega)
  by_cases hall : ls.all lineB = true
  ·have h1 := (okUpto_all ls).2 hall
   simp -implicitDefEqProofs only [go_sem,↓reduceIte,intA,hx.len,← hls.1,h1]
   unfold linesB;rw [c1,hall];rfl
  ·have h1 : ¬ okUpto ls ls.length = ls.length := fun h => hall ((okUpto_all ls).1 h)
   have h2 : ¬ ((okUpto ls ls.length : Nat) : Int) = (ls.length : Int) := by omega
   simp -implicitDefEqProofs only [go_sem,↓reduceIte,intA,hx.len,← hls.1,h2]
   have h3 : ls.all lineB = false := by simpa using hall
   unfold linesB;rw [c1,h3];rfl
theorem callI87 {e : Exts} (he : Quiet e) (x : AV) (ls : List Line) (hx : LinesA ls x) (hn : ls.length < 2 ^ 63) (hnn : ∀ l ∈ ls,l.length < 2 ^ 63) (hz : ∀ l ∈ ls,∀ s ∈ l,s.size < 2 ^ 63) (me : FuncId) (d : Option Tmp) : callI (Cx e) me 135 d [x] = some (.v (.bool (linesB ls))) :=
 (ans87 he x ls hx hn hnn hz).callI (ext_135 he) (pure_135 _ _ _) (by obtain ⟨lxs,hx, -⟩ := hx;simp only [boundL_cons,hx.bound,boundL_nil];rfl)
end Go.Ev
namespace Go.Ev
open Go.Proofs
def condD (t : Txt) (i : Nat) (c : Chap) : Bool := withinB 0 9999 [c.1] && !hasIdB (t.take i) c.1 && linesB c.2
theorem condD_eq (t : Txt) (i : Nat) (c : Chap) : condD t i c = condC t i c := by
 unfold condD condC linesB hasIdB idB
 rw [List.drop_zero]
 cases withinB 0 9999 [c.1] <;> cases withinB 1 10 [(c.2.length : Int)] <;> cases (t.take i).any (fun c_1 => decide (c_1.1 = c.1)) <;> simp
noncomputable def body62 : Code := ((Tryz.f116.body.map loops).getD [])[0]?.getD .skip
theorem All2.take {α β : Type} {R : α → β → Prop} {l : List α} {m : List β} (h : All2 R l m) (n : Nat) : All2 R (l.take n) (m.take n) := by
 refine ⟨by simp [h.1],fun i a b ha hb => ?_⟩
 rw [List.getElem?_take] at ha hb
 split at ha
 ·rename_i hi;rw [if_pos hi] at hb;exact h.2 i a b ha hb
 ·cases ha
theorem loop62 {e : Exts} (he : Quiet e) (t : Txt) (ht : Fits t) (xs : List AV) (ch : AV) (hch : SlOf 2 xs ch) (hn : t.length < 2 ^ 63) (hall : All2 ChapA t xs) (K : Post) :
  ∀ m j : Nat,j + m = t.length → (chB t j = false → AtK K (.exit 0) ⟨40,[(0,.agg [ch]),(1,.ptr 0 0 0),(2,.v (.bool false)),(11,.v (.bool false)),(13,ch),(14,intA t.length),(15,intA (t.length : Nat))],[]⟩ ⟨[some (.cells 0 0 24 1 false [ch])],0⟩) → (chB t j = true → ∀ tl HH,assoc 2 tl = some (.v (.bool false)) → AtK K .ret ⟨40,tl,[]⟩ HH) →
  Lp (Cx e) 116 none [0,1,2,11,13,14,15] (body62) ⟨40,[(0,.agg [ch]),(1,.ptr 0 0 0),(2,.v (.bool false)),(11,.v (.bool false)),(13,ch),(14,intA t.length),(15,intA j)],[]⟩ ⟨[some (.cells 0 0 24 1 false [ch])],0⟩ K := by
 intro m
 induction m with
 | zero =>
  intro j hj h1 h2
  rw [Lp_step]
  generalize hK : loopK (Cx e) 116 none [0,1,2,11,13,14,15] (body62) _ K = KK
  unfold body62
  obtain rfl : j = t.length := by omega
  simp only [Tryz.f116,loops,Option.map_some,Option.getD_some,List.nil_append,List.append_nil,List.cons_append,List.getElem?_cons_zero,List.getElem?_cons_succ]
  simp -implicitDefEqProofs only [go_sem,↓reduceIte,intA,Int.lt_irrefl,hch.len,← hall.1]
  subst hK
  simp -implicitDefEqProofs only [go_sem,↓reduceIte]
  exact h1 (by unfold chB;rw [List.drop_of_length_le (by simp)];rfl)
 | succ m ih =>
  intro j hj h1 h2
  rw [Lp_step]
  generalize hK : loopK (Cx e) 116 none [0,1,2,11,13,14,15] (body62) _ K = KK
  unfold body62
  have hlt : (j : Int) < ((t.length : Nat) : Int) := by omega
  have hw := wrap_succ j (by omega)
  have hj0 : (0 : Int) ≤ (j : Int) := by omega
  simp only [Tryz.f116,loops,Option.map_some,Option.getD_some,List.nil_append,List.append_nil,List.cons_append,List.getElem?_cons_zero,List.getElem?_cons_succ]
  obtain ⟨c,hs⟩ := at_lt t j (by omega)
  obtain ⟨y,hy,l,rfl,hl'⟩ := hall.get hs
  obtain ⟨lxs,hl,hls⟩ := hl'
  have hd := chB_step t j c hs
  have hm := List.mem_of_getElem? hs
  have hca := callI51 he c.1
  obtain ⟨z,hz1,hz2⟩ := hch.slice und_22 size_112 j (by rw [← hall.1];omega)
  have hcb := callI86 he c.1 (t.take j) z _ hz2 (hall.take j) (by simp;omega)
  have hcc := callI87 he l c.2 ⟨lxs,hl,hls⟩ (ht.lines c hm) (ht.words c hm) (ht.size c hm)
  simp -implicitDefEqProofs only [go_sem,↓reduceIte,intA,hlt,hw,hch.len,hch.cells,hch.idx hy,hl.len,hl.cells,hl.flat,hl.bound]
  refine wp_draw (by kernel_rfl) ?_
  rw [← condD_eq] at hd
  cases c1 : withinB 0 9999 [c.1]
  ·rw [c1] at hca
   simp -implicitDefEqProofs only [go_sem,↓reduceIte,intA,hlt,hw,hca]
   subst hK
   simp -implicitDefEqProofs only [go_sem,↓reduceIte]
   exact h2 (by rw [hd];unfold condD;rw [c1];rfl) _ _ rfl
  ·rw [c1] at hca
   cases c2 : hasIdB (t.take j) c.1
   ·rw [c2] at hcb
    cases c3 : linesB c.2
    ·rw [c3] at hcc
     simp -implicitDefEqProofs only [go_sem,↓reduceIte,intA,hlt,hw,hca,hcb,hcc,hz1]
     subst hK
     simp -implicitDefEqProofs only [go_sem,↓reduceIte]
     exact h2 (by rw [hd];unfold condD;rw [c1,c2,c3];rfl) _ _ rfl
    ·rw [c3] at hcc
     simp -implicitDefEqProofs only [go_sem,↓reduceIte,intA,hlt,hw,hca,hcb,hcc,hz1]
     subst hK
     simp -implicitDefEqProofs only [go_sem,↓reduceIte,trim_at,hch.flat,hch.bound,hch.cells]
     have hd' : chB t j = chB t (j + 1) := by rw [hd];unfold condD;rw [c1,c2,c3];rfl
     rw [hd'] at h1 h2
     exact ih (j + 1) (by omega) h1 h2
   ·rw [c2] at hcb
    simp -implicitDefEqProofs only [go_sem,↓reduceIte,intA,hlt,hw,hca,hcb,hz1]
    subst hK
    simp -implicitDefEqProofs only [go_sem,↓reduceIte]
    exact h2 (by rw [hd];unfold condD;rw [c1,c2];rfl) _ _ rfl
theorem ans62 {e : Exts} (he : Quiet e) (t : Txt) (ht : Fits t) (x : AV) (hx : TextA t x) : Ans (Cx e) 116 [x] (.v (.bool (textB t))) := by
 obtain ⟨ch,rfl,xs,hch,hall⟩ := hx
 unfold Ans
 have hc := call69 he 1 6 [(t.length : Int)] (by simp) (.vs 1 [.v (.int .i64 t.length)] (some 1)) (Or.inr ⟨_,rfl⟩)
 unfold intA at hc
 rw [fn_step (fn_116 e) (show Tryz.f116.body = some _ from rfl)]
 cases h1 : withinB 1 6 [(t.length : Int)]
 ·rw [h1] at hc
  simp -implicitDefEqProofs only [Tryz.f116,intA,go_sem,↓reduceIte,hch.len,hch.cells,hch.flat,hch.bound,← hall.1,hc]
  unfold textB;rw [h1];rfl
 ·rw [h1] at hc
  simp -implicitDefEqProofs only [Tryz.f116,intA,go_sem,↓reduceIte,hch.len,hch.cells,hch.flat,hch.bound,← hall.1,hc]
  refine loop62 he t ht xs ch hch ht.chs hall _ t.length 0 (by omega) ?_ ?_
  ·intro hf
   have hf' : okFrom t 0 t = true := by unfold chB at hf;simpa using hf
   simp -implicitDefEqProofs only [go_sem,↓reduceIte]
   unfold textB;rw [h1,hf'];rfl
  ·intro hf tl HH htl
   have hf' : okFrom t 0 t = false := by unfold chB at hf;simpa using hf
   simp -implicitDefEqProofs only [go_sem,↓reduceIte,htl]
   unfold textB;rw [h1,hf'];rfl
theorem call62 {e : Exts} (he : Quiet e) (t : Txt) (ht : Fits t) (x : AV) (hx : TextA t x) (me : FuncId) (d : Option Tmp) (H : Heap) : callA (Cx e) (lim (Cx e)) me 116 d [x] H = some (.v (.bool (textB t)),H) :=
 (ans62 he t ht x hx).call (ext_116 he) (pure_116 _ _ _) (by obtain ⟨ch,rfl,xs,hch, -⟩ := hx;simp only [boundL_cons,bound_agg,hch.bound,boundL_nil];rfl) H
theorem ans40 {e : Exts} (he : Quiet e) (t : Txt) (ht : Fits t) (ch : AV) (hx : ChsA t ch) : Ans (Cx e) 85 [.agg [ch]] (if textB t then .tup [.agg [ch],intA 0] else .tup [.agg [.v (.slice none 0 0)],intA 10]) := by
 have hc := call62 he t ht _ ⟨ch,rfl,hx⟩ 85 (some 5)
 obtain ⟨xs,hch,hall⟩ := hx
 unfold Ans
 rw [fn_step (fn_85 e) (show Tryz.f85.body = some _ from rfl)]
 cases h1 : textB t
 ·rw [h1] at hc
  simp -implicitDefEqProofs only [Tryz.f85,intA,go_sem,↓reduceIte,hch.cells,hch.flat,hch.bound,hc]
  rcases hch with ⟨rfl,rfl⟩ | ⟨cap,rfl⟩
  ·kernel_rfl
  ·kernel_rfl
 ·rw [h1] at hc
  simp -implicitDefEqProofs only [Tryz.f85,intA,go_sem,↓reduceIte,hch.cells,hch.flat,hch.bound,hc]
  rcases hch with ⟨rfl,rfl⟩ | ⟨cap,rfl⟩
  ·kernel_rfl
  ·kernel_rfl
theorem call40 {e : Exts} (he : Quiet e) (t : Txt) (ht : Fits t) (ch : AV) (hx : ChsA t ch) (me : FuncId) (d : Option Tmp) (H : Heap) : callA (Cx e) (lim (Cx e)) me 85 d [.agg [ch]] H = some (if textB t then .tup [.agg [ch],intA 0] else .tup [.agg [.v (.slice none 0 0)],intA 10],H) :=
 (ans40 he t ht ch hx).call (ext_85 he) (pure_85 _ _ _) (by obtain ⟨xs,hch, -⟩ := hx;simp only [boundL_cons,bound_agg,hch.bound,boundL_nil];rfl) H
end Go.Ev
namespace Go.Ev
open Go.Proofs
theorem plus_store_lo {H : Heap} {b v k : Nat} {xs : List AV} (E : List (Option AObj)) (h : b < H.size) : storeCells (H.plus E) b v k xs = (storeCells H b v k xs).map (·.plus E) := by
 unfold storeCells
 rw [plus_row E h,plus_lock]
 cases H.row b v with
 | none => rfl
 | some r =>
  obtain ⟨m,e,sz,g,cs⟩ := r
  simp only
  split
  ·simp only [Option.map_some];rw [plus_put E _ h]
  ·rfl
theorem wrap_wrap (n : Int) : IntKind.i64.wrap (IntKind.i64.wrap n + 1) = IntKind.i64.wrap (n + 1) := by
 simp only [IntKind.wrap_i64];omega
noncomputable def bdy14 : Code := ((Tryz.f44.body.bind rangeOf).getD (.skip,.skip)).2
def lp14 (ch : AV) (st : LoopState) (b : Code) : ALoop := { fn := 44,state := st,pending := none,size := 22,tmps := [(0,.agg [ch]),(1,.ptr 0 0 0),(2,intA 0),(3,intA 0),(4,.ptr 1 0 0),(5,intA 0),(13,.v (.bool false)),(6,.ptr 2 0 0),(16,.fn (.func 117) [] [.ro (.agg [ch]) 0])],params := #[17,18],assign := .skip,body := b,dfr := 3 }
noncomputable def hv14 (ch : AV) (st : LoopState) (v : Int) : Heap := ⟨[some (.cells 0 0 24 1 false [ch]),some (.cells 0 0 140 1 false [ch]),some (.cells 0 0 3 1 false [intA v]),some .dfr,some (.loop (lp14 ch st bdy14))],0⟩
noncomputable def hp14 (ch : AV) (st : LoopState) (c : Nat) : Heap := hv14 ch st (IntKind.i64.wrap c)
theorem hp14_succ (ch : AV) (st : LoopState) (c : Nat) : hv14 ch st (IntKind.i64.wrap ((c : Int) + 1)) = hp14 ch st (c + 1) := by
 unfold hp14
 have : ((c + 1 : Nat) : Int) = (c : Int) + 1 := by omega
 rw [this]
theorem hv14_row (ch : AV) (st : LoopState) (v : Int) (E : List (Option AObj)) : ((hv14 ch st v).plus E).row 2 0 = some (0,3,1,false,[.v (.int .i64 v)]) := plus_row E (show 2 < 5 by omega)
theorem hv14_store (ch : AV) (st : LoopState) (v u : Int) (E : List (Option AObj)) : storeCells ((hv14 ch st v).plus E) 2 0 0 [.v (.int .i64 u)] = some ((hv14 ch st u).plus E) := by
 rw [plus_store_lo E (show 2 < 5 by omega)];rfl
theorem hv14_put (ch : AV) (st st' : LoopState) (v : Int) (E : List (Option AObj)) : ((hv14 ch st v).plus E).put 4 (.loop (lp14 ch st' bdy14)) = (hv14 ch st' v).plus E := rfl
theorem hp14_size (ch : AV) (st : LoopState) (c : Nat) : (hp14 ch st c).size = 5 := rfl
theorem src14 {e : Exts} (ch : AV) : Src (Cx e) 4 Nat (hp14 ch .ready) (fun c _ => (true,c + 1)) (fun x => x.length = 2) (fun _ => True) 5 := by
 refine ⟨fun _ => rfl,by omega,fun _ => Nat.zero_le _,fun _ _ _ _ _ => trivial,fun c x E _ hx => ?_⟩
 have key := round_step (C := Cx e) (l := 4) (args := x) (H := (hp14 ch .ready c).plus E) (r := lp14 ch .ready bdy14) (K := fun b H' => b = true ∧ ∃ G,H' = (hp14 ch .ready (c + 1)).plus (E ++ G)) rfl hx (Nat.zero_le _) ?_
 ·obtain ⟨b,H',h1,rfl,G,rfl⟩ := key
  exact ⟨G,h1⟩
 ·show Wp (Cx e) 44 (some 4) .skip _ _ _
  rw [wp_skip]
  refine asgK_mk (r1 := lp14 ch .ready bdy14) rfl rfl ?_
  have hp : ((hp14 ch .ready c).plus E).put 4 (.loop { lp14 ch .ready bdy14 with state := .busy }) = (hp14 ch .busy c).plus E := hv14_put ch .ready .busy _ E
  rw [hp]
  show Wp (Cx e) 44 (some 4) bdy14 ⟨22,setTmps 22 [(0,.agg [ch]),(1,.ptr 0 0 0),(2,intA 0),(3,intA 0),(4,.ptr 1 0 0),(5,intA 0),(13,.v (.bool false)),(6,.ptr 2 0 0),(16,.fn (.func 117) [] [.ro (.agg [ch]) 0])] ([17,18].zip x),[]⟩ _ _
  obtain ⟨x1,x2,rfl⟩ : ∃ a b,x = [a,b] := by
   match x,hx with
   | [a,b],_ => exact ⟨a,b,rfl⟩
  generalize hKK : bodyK _ _ _ = KK
  have hrow : ∀ E,((hp14 ch .busy c).plus E).row 2 0 = some (0,3,1,false,[.v (.int .i64 (IntKind.i64.wrap c))]) := fun E => hv14_row ch .busy _ E
  have hsto : ∀ (E : List (Option AObj)),storeCells ((hp14 ch .busy c).plus E) 2 0 0 [.v (.int .i64 (IntKind.i64.wrap ((c : Int) + 1)))] = some ((hp14 ch .busy (c + 1)).plus E) := fun E => by
   rw [← hp14_succ];exact hv14_store ch .busy _ _ E
  have hww := wrap_wrap (c : Int)
  unfold bdy14
  simp only [Tryz.f44,rangeOf,Option.bind_some,Option.orElse_some,Option.orElse_none,Option.getD_some]
  simp -implicitDefEqProofs only [go_sem,↓reduceIte,intA,List.zip_cons_cons,List.zip_nil_right,List.zip_nil_left,setT_nil,setT_cons,plus_size,hp14_size,settle_none (hp14_size _ _ _),hrow,hsto,hww]
  subst hKK
  refine bodyK_mk (r3 := lp14 ch .busy bdy14) (j := none) rfl rfl ⟨rfl, ?_⟩
  have hp2 : ((hp14 ch .busy (c + 1)).plus E).put 4 (.loop { lp14 ch .busy bdy14 with state := if (none : Option Code).isNone then .ready else .done,pending := none }) = (hp14 ch .ready (c + 1)).plus (E ++ []) := by rw [List.append_nil];exact hv14_put ch .busy .ready _ E
  rw [hp2]
  exact trim_plus (H := hp14 ch .ready (c + 1)) E [] [] [] (by rw [plus_size,hp14_size,hp14_size])
theorem run14 : ∀ (items : List (List AV)) (c : Nat),runIt (fun c _ => (true,c + 1)) items c = (true,c + items.length)
 | [],c => rfl
 | x :: r,c => by
  rw [runIt_cons];simp only [if_true];rw [run14 r];simp;omega
theorem allIts_two (xs : List AV) : ∀ x ∈ allIts xs,x.length = 2 := by
 intro x hx
 obtain ⟨y,hy,hx⟩ := List.mem_flatMap.1 hx
 obtain ⟨i,y',j,z, -, -,rfl⟩ := chapIts_of xs 0 y hy
 obtain ⟨w,u, -,rfl⟩ := wIts_of _ _ _ 0 x hx
 rfl
theorem okCh2_of {t : Txt} (ht : Fits t) {xs : List AV} (hall : All2 ChapA t xs) : ∀ y ∈ xs,OkCh2 y := by
 intro y hy
 obtain ⟨i,hi⟩ := List.getElem?_of_mem hy
 have hlt := (List.getElem?_eq_some_iff.1 hi).1
 obtain ⟨c,hc⟩ := at_lt t i (by rw [hall.1];exact hlt)
 obtain ⟨l,rfl,lxs,hl,hls⟩ := hall.2 i c y hc hi
 have hm := List.mem_of_getElem? hc
 refine ⟨c.1,l,lxs,rfl,hl,by rw [← hls.1];exact ht.lines c hm,fun x hx => ?_⟩
 obtain ⟨j,hj⟩ := List.getElem?_of_mem hx
 have hjl := (List.getElem?_eq_some_iff.1 hj).1
 obtain ⟨ws,hws⟩ := at_lt c.2 j (by rw [hls.1];exact hjl)
 have hlx : SlOf 1 (strs ws) x := hls.2 j ws x hws hj
 exact ⟨strs ws,hlx,fun z hz => by obtain ⟨s, -,rfl⟩ := List.mem_map.1 hz;rfl,by rw [strs_len];exact ht.words c hm ws (List.mem_of_getElem? hws)⟩
def hd14 (ch : AV) (v : Int) : Heap := ⟨[some (.cells 0 0 24 1 false [ch]),some (.cells 0 0 140 1 false [ch]),some (.cells 0 0 3 1 false [intA v]),some .dfr,some .dead],0⟩
theorem hd14_of (ch : AV) (v : Int) (G : List (Option AObj)) : ((hv14 ch .ready v).plus G).put 4 .dead = (hd14 ch v).plus G := rfl
theorem hd14_size (ch : AV) (v : Int) : (hd14 ch v).size = 5 := rfl
theorem hd14_row (ch : AV) (v : Int) (E : List (Option AObj)) : ((hd14 ch v).plus E).row 2 0 = some (0,3,1,false,[.v (.int .i64 v)]) := plus_row E (show 2 < 5 by omega)
def he14 (ch : AV) (v : Int) : Heap := ⟨[some (.cells 0 0 24 1 false [ch]),some (.cells 0 0 140 1 false [ch]),some (.cells 0 0 3 1 false [intA v]),some .dead,some .dead],0⟩
theorem hd14_kill (ch : AV) (v : Int) (E : List (Option AObj)) : killAll [3] ((hd14 ch v).plus E) = some ((he14 ch v).plus E) := rfl
theorem ansK_tup2 (v : AV) (a b : Value) (H : Heap) : AtO (ansK v) (.tup [.v a,.v b]) H = (some (AV.tup [.v a,.v b]) = some v) := rfl
theorem ans14 {e : Exts} (he : Quiet e) (t : Txt) (ht : Fits t) (ch : AV) (xs : List AV) (hch : SlOf 2 xs ch) (hall : All2 ChapA t xs) : Ans (Cx e) 44 [.agg [ch]] (if textB t then .tup [intA (IntKind.i64.wrap (allIts xs).length),intA 0] else .tup [intA 0,intA 10]) := by
 have hc := call40 he t ht ch ⟨xs,hch,hall⟩
 unfold Ans
 rw [fn_step (fn_44 e) (show Tryz.f44.body = some _ from rfl)]
 cases h1 : textB t
 ·rw [h1] at hc
  simp only [Bool.false_eq_true,if_false,intA] at hc
  simp -implicitDefEqProofs only [Tryz.f44,intA,go_sem,↓reduceIte,hch.cells,hch.flat,hch.bound,hc,call41 he ch xs hch]
  rfl
 ·rw [h1] at hc
  simp only [if_true,intA] at hc
  simp -implicitDefEqProofs only [Tryz.f44,intA,go_sem,↓reduceIte,hch.cells,hch.flat,hch.bound,hc,call41 he ch xs hch]
  obtain ⟨G,hG⟩ := yields63 he ch xs hch (okCh2_of ht hall) (by rw [← hall.1];exact ht.chs) 4 Nat _ _ _ _ _ (src14 (e := e) ch) (allIts_two xs) 0 [] trivial
  rw [run14,plus_nil,Nat.zero_add,List.nil_append] at hG
  have hcb := callB_yld (C := Cx e) (me := 44) (d := none) (l := 4) (by simp) hG
  obtain ⟨G',hG'⟩ := trim_plus (H := hp14 ch .ready (allIts xs).length) [] G [.tup []] [] (n := (hp14 ch .ready 0).size) (by rw [hp14_size,hp14_size];rfl)
  rw [List.nil_append] at hG'
  rw [hG',List.nil_append] at hcb
  refine wp_range0 (f := 117) (first := []) (cap := [.ro (.agg [ch]) 0]) rfl (v := .tup []) (H2 := (hp14 ch .ready (allIts xs).length).plus G') ?_ (r := lp14 ch .ready bdy14) rfl (by intro h;cases h) rfl ?_
  ·exact hcb
  ·have hd := hd14_of ch (IntKind.i64.wrap (allIts xs).length) G'
   show AtK _ .normal ⟨22,_,[3]⟩ (((hv14 ch .ready (IntKind.i64.wrap (allIts xs).length)).plus G').put 4 .dead)
   rw [hd]
   simp -implicitDefEqProofs only [go_sem,↓reduceIte,intA,plus_size,hd14_size,settle_none (hd14_size _ _),hd14_row,hd14_kill,ansK_tup2]
end Go.Ev
namespace Go.Ev
open Go.Proofs
theorem call38 {e : Exts} (he : Quiet e) (t : Txt) (ht : Fits t) (x : AV) (hx : TextA t x) (me : FuncId) (d : Option Tmp) (H : Heap) : callA (Cx e) (lim (Cx e)) me 15 d [x] H = some (.v (.bool (greatT t)),H) :=
 (ans38 t ht x hx).call (ext_15 he) (pure_15 _ _ _) (by obtain ⟨ch,rfl,xs,hch, -⟩ := hx;simp only [boundL_cons,bound_agg,hch.bound,boundL_nil];rfl) H
theorem call39 {e : Exts} (he : Quiet e) (t : Txt) (ht : Fits t) (x : AV) (hx : TextA t x) (me : FuncId) (d : Option Tmp) (H : Heap) : callA (Cx e) (lim (Cx e)) me 56 d [x] H = some (.v (.bool (textB t)),H) :=
 (ans39 he t ht x hx).call (ext_56 he) (pure_56 _ _ _) (by obtain ⟨ch,rfl,xs,hch, -⟩ := hx;simp only [boundL_cons,bound_agg,hch.bound,boundL_nil];rfl) H
def beforeB (a b : Int × Int × Int) : Bool := if a.1 ≠ b.1 then decide (a.1 < b.1) else if a.2.1 ≠ b.2.1 then decide (a.2.1 < b.2.1) else decide (a.2.2 < b.2.2)
end Go.Ev
namespace Go.Ev
def pend : AExit → Option Code
 | .normal => none
 | .ret => some .ret
 | .exit i => some (.exit i)
theorem jumpOf_pend (e : AExit) : jumpOf e = some (pend e) := by cases e <;> rfl
def isGo : AExit → Bool
 | .normal => true
 | _ => false
theorem pend_none (e : AExit) : (pend e).isNone = isGo e := by cases e <;> rfl
def foldE {S : Type} (stp : S → List AV → AExit × S) : List (List AV) → S → AExit × S
 | [],s => (.normal,s)
 | x :: r,s => match (stp s x).1 with | .normal => foldE stp r (stp s x).2 | e => (e,(stp s x).2)
theorem foldE_go {S : Type} {stp : S → List AV → AExit × S} {x : List AV} {r : List (List AV)} {s : S} (h : (stp s x).1 = .normal) : foldE stp (x :: r) s = foldE stp r (stp s x).2 := by
 simp only [foldE,h]
theorem foldE_out {S : Type} {stp : S → List AV → AExit × S} {x : List AV} {r : List (List AV)} {s : S} (h : (stp s x).1 ≠ .normal) : foldE stp (x :: r) s = stp s x := by
 simp only [foldE]
def busyL (me : FuncId) (n : Nat) (ts : List (Tmp × AV)) (ps : Array Tmp) (asg body : Code) (d : Nat) (st : LoopState) (p : Option Code) : ALoop := { fn := me,state := st,pending := p,size := n,tmps := ts,params := ps,assign := asg,body := body,dfr := d }
def stateOf (e : AExit) : LoopState := if (pend e).isNone then .ready else .done
def hpR {S : Type} (hb : S → Heap) (L : LoopState → Option Code → ALoop) (q : S × AExit) : Heap := (hb q.1).plus [some .dfr,some (.loop (L (stateOf q.2) (pend q.2)))]
def rngK {S : Type} (hb : S → Heap) (L : ALoop) (E : List (Option AObj)) (p : AExit × S) : Post := fun e _ H => e = p.1 ∧ ∃ G,H = (hb p.2).plus (some .dfr :: some (.loop L) :: (E ++ G))
theorem rngK_at {S : Type} (hb : S → Heap) (L : ALoop) (E : List (Option AObj)) (p : AExit × S) (e : AExit) (a : AAct) (H : Heap) : AtK (rngK hb L E p) e a H = (e = p.1 ∧ ∃ G,H = (hb p.2).plus (some .dfr :: some (.loop L) :: (E ++ G))) := rfl
def asK {S : Type} (C : Cfg) (me : FuncId) (l : Nat) (body : Code) (hb : S → Heap) (L L' : ALoop) (E : List (Option AObj)) (s : S) (p : AExit × S) : Post := fun e a H => e = .normal ∧ ∃ G,H = (hb s).plus (some .dfr :: some (.loop L) :: (E ++ G)) ∧ Wp C me (some l) body a ((hb s).plus (some .dfr :: some (.loop L') :: (E ++ G))) (rngK hb L' E p)
theorem asK_mk {S : Type} {C : Cfg} {me : FuncId} {l : Nat} {body : Code} {hb : S → Heap} {L L' : ALoop} {E : List (Option AObj)} {s : S} {p : AExit × S} {a : AAct} {H : Heap} (G : List (Option AObj)) (hH : H = (hb s).plus (some .dfr :: some (.loop L) :: (E ++ G))) (h : Wp C me (some l) body a ((hb s).plus (some .dfr :: some (.loop L') :: (E ++ G))) (rngK hb L' E p)) : AtK (asK C me l body hb L L' E s p) .normal a H := ⟨rfl,G,hH,h⟩
section
variable {C : Cfg} {me : FuncId} {S : Type} {hb : S → Heap} {stp : S → List AV → AExit × S} {lv : S → Prop} {ok : List AV → Prop} {n0 : Nat}
theorem hget_at {H : Heap} (hn : H.size = n0) (L : ALoop) (E : List (Option AObj)) : loopObj (H.plus (some .dfr :: some (.loop L) :: E)) (n0 + 1) = some L := by
 have := plus_mid_get hn [some .dfr] E (some (.loop L))
 unfold loopObj
 rw [show n0 + 1 = n0 + [some AObj.dfr].length from rfl,show some AObj.dfr :: some (.loop L) :: E = [some .dfr] ++ some (.loop L) :: E from rfl,this]
theorem hput_at {H : Heap} (hn : H.size = n0) (L : ALoop) (o : AObj) (E : List (Option AObj)) : (H.plus (some .dfr :: some (.loop L) :: E)).put (n0 + 1) o = H.plus (some .dfr :: some o :: E) :=
 plus_mid_put hn [some .dfr] E (some (.loop L)) o
theorem src_range {sz : Nat} {ts : List (Tmp × AV)} {ps : Array Tmp} {asg body : Code} (hsz : ∀ s,(hb s).size = n0) (hk : ∀ s,(hb s).lock ≤ n0)
  (hlv : ∀ s x,lv s → ok x → (stp s x).1 = .normal → lv (stp s x).2)
  (hbody : ∀ (L L' : ALoop) s x E,L'.dfr = n0 → lv s → ok x → x.length = ps.size → Wp C me (some (n0 + 1)) asg ⟨sz,setTmps sz ts (ps.toList.zip x),[]⟩ ((hb s).plus (some .dfr :: some (.loop L) :: E)) (asK C me (n0 + 1) body hb L L' E s (stp s x))) :
  Src C (n0 + 1) (S × AExit) (hpR hb (busyL me sz ts ps asg body n0)) (fun q x => (isGo (stp q.1 x).1,((stp q.1 x).2,(stp q.1 x).1))) (fun x => ok x ∧ x.length = ps.size) (fun q => lv q.1 ∧ q.2 = .normal) (n0 + 2) := by
 refine ⟨fun q => ?_,by omega,fun q => ?_,fun q x hl ho hs => ?_,fun q x E hl ho => ?_⟩
 ·unfold hpR;rw [plus_size,hsz];rfl
 ·have := hk q.1;show (hb q.1).lock ≤ n0 + 1;omega
 ·obtain ⟨s,e⟩ := q
  simp only at hl hs ⊢
  have he : (stp s x).1 = .normal := by
   cases h : (stp s x).1 <;> rw [h] at hs <;> first | rfl | cases hs
  exact ⟨hlv s x hl.1 ho.1 he,he⟩
 ·obtain ⟨s,e⟩ := q
  obtain ⟨hl1,rfl⟩ := hl
  simp only
  have hbeg : ∀ (s : S) (e : AExit) (E : List (Option AObj)),(hpR hb (busyL me sz ts ps asg body n0) (s,e)).plus E = (hb s).plus (some .dfr :: some (.loop (busyL me sz ts ps asg body n0 (stateOf e) (pend e))) :: E) := by
   intro s e E;unfold hpR;rw [plus_plus];rfl
  rw [hbeg]
  have key := round_step (C := C) (l := n0 + 1) (args := x) (H := (hb s).plus (some .dfr :: some (.loop (busyL me sz ts ps asg body n0 (stateOf .normal) (pend .normal))) :: E)) (r := busyL me sz ts ps asg body n0 .ready none) (K := fun b H' => b = isGo (stp s x).1 ∧ ∃ G,H' = (hpR hb (busyL me sz ts ps asg body n0) ((stp s x).2,(stp s x).1)).plus (E ++ G)) (hget_at (hsz s) _ _) ho.2 (by have := hk s;show (hb s).lock ≤ n0 + 1;omega) ?_
  ·obtain ⟨b,H',h1,rfl,G,rfl⟩ := key
   exact ⟨G,h1⟩
  ·refine Wp_mono (hbody (busyL me sz ts ps asg body n0 .ready none) (busyL me sz ts ps asg body n0 .busy none) s x E rfl hl1 ho.1 ho.2) ?_
   rintro e0 a0 H0 ⟨rfl,G0,rfl,hb0⟩
   refine asgK_mk (r1 := busyL me sz ts ps asg body n0 .ready none) (hget_at (hsz s) _ _) rfl ?_
   rw [hput_at (hsz s)]
   refine Wp_mono hb0 ?_
   rintro e1 a1 H1 ⟨rfl,G,rfl⟩
   refine bodyK_mk (r3 := busyL me sz ts ps asg body n0 .busy none) (j := pend (stp s x).1) (hget_at (hsz _) _ _) (jumpOf_pend _) ⟨pend_none _, ?_⟩
   have e1 : ({ busyL me sz ts ps asg body n0 .busy none with state := if (pend (stp s x).1).isNone then .ready else .done,pending := pend (stp s x).1 } : ALoop) = busyL me sz ts ps asg body n0 (stateOf (stp s x).1) (pend (stp s x).1) := rfl
   rw [e1,hput_at (hsz _),← hbeg]
   exact trim_plus E G [] [] (by unfold hpR;rw [plus_size,plus_size,hsz,hsz];simp;omega)
theorem run_range (stp : S → List AV → AExit × S) : ∀ (items : List (List AV)) (s : S),runIt (fun (q : S × AExit) x => (isGo (stp q.1 x).1,((stp q.1 x).2,(stp q.1 x).1))) items (s,.normal) = (isGo (foldE stp items s).1,((foldE stp items s).2,(foldE stp items s).1))
 | [],s => rfl
 | x :: r,s => by
  have ih := run_range stp r (stp s x).2
  unfold runIt
  simp only
  cases h : (stp s x).1 with
  | normal =>
   rw [if_pos (show isGo .normal = true from rfl),ih,foldE_go h]
  | exit i => rw [if_neg (show ¬ isGo (.exit i) = true from fun h => nomatch h),foldE_out (by rw [h];intro h;cases h),h];rfl
  | ret => rw [if_neg (show ¬ isGo .ret = true from fun h => nomatch h),foldE_out (by rw [h];intro h;cases h),h];rfl
theorem wp_rangeH {f : FuncId} {cap : List AV} {items : List (List AV)} (hy : Yields C f cap items) {g : Operand} {ps : Array Tmp} {asg body : Code} {a : AAct} {H : Heap} {K : Post} (hg : a.eval g = some (.fn (.func f) [] cap))
  (hb : S → Heap) (stp : S → List AV → AExit × S) (lv : S → Prop) (ok : List AV → Prop) {n0 : Nat} (hsz : ∀ s,(hb s).size = n0) (hk : ∀ s,(hb s).lock ≤ n0) (hok : ∀ x ∈ items,ok x ∧ x.length = ps.size)
  (hlv : ∀ s x,lv s → ok x → (stp s x).1 = .normal → lv (stp s x).2)
  (hbody : ∀ (L L' : ALoop) s x E,L'.dfr = n0 → lv s → ok x → x.length = ps.size → Wp C me (some (n0 + 1)) asg ⟨a.size,setTmps a.size a.tmps (ps.toList.zip x),[]⟩ ((hb s).plus (some .dfr :: some (.loop L) :: E)) (asK C me (n0 + 1) body hb L L' E s (stp s x)))
  (s0 : S) (h0 : lv s0) (hH : H = hb s0)
  (hK : ∀ G,AtK K (foldE stp items s0).1 ⟨a.size,a.tmps,n0 :: a.marks⟩ ((hb (foldE stp items s0).2).plus (some .dfr :: some .dead :: G))) :
  Wp C me none (.rangeFunc g ps asg body) a H K := by
 subst hH
 obtain ⟨G,hG⟩ := hy (n0 + 1) (S × AExit) _ _ _ _ _ (src_range (ps := ps) hsz hk hlv hbody) hok (s0,.normal) [] ⟨h0,rfl⟩
 rw [run_range,plus_nil,List.nil_append] at hG
 have hcb := callB_yld (C := C) (me := me) (d := none) (l := n0 + 1) (by simp) hG
 generalize hp : foldE stp items s0 = p at hcb hK
 obtain ⟨G',hG'⟩ := trim_plus (H := hpR hb (busyL me a.size a.tmps ps asg body n0) (p.2,p.1)) [] G [.tup []] [] (n := (hpR hb (busyL me a.size a.tmps ps asg body n0) (s0,.normal)).size) (by unfold hpR;rw [plus_size,plus_size,hsz,hsz];simp)
 rw [List.nil_append] at hG'
 rw [hG',List.nil_append] at hcb
 have hsize := hsz s0
 have hH2 : (hpR hb (busyL me a.size a.tmps ps asg body n0) (p.2,p.1)).plus G' = (hb p.2).plus (some .dfr :: some (.loop (busyL me a.size a.tmps ps asg body n0 (stateOf p.1) (pend p.1))) :: G') := by
  unfold hpR;rw [plus_plus];rfl
 have hfin : ((hpR hb (busyL me a.size a.tmps ps asg body n0) (p.2,p.1)).plus G').put (n0 + 1) .dead = (hb p.2).plus (some .dfr :: some .dead :: G') := by
  rw [hH2,hput_at (hsz p.2)]
 refine wp_range0 (f := f) (first := []) (cap := cap) hg (v := .tup []) (H2 := (hpR hb (busyL me a.size a.tmps ps asg body n0) (p.2,p.1)).plus G') ?_ (r := busyL me a.size a.tmps ps asg body n0 (stateOf p.1) (pend p.1)) ?_ ?_ ?_ ?_
 ·rw [hsize]
  have hh : hpR hb (busyL me a.size a.tmps ps asg body n0) (s0,.normal) = ((hb s0).put n0 .dfr).put (n0 + 1) (.loop { fn := me,state := .ready,pending := none,size := a.size,tmps := a.tmps,params := ps,assign := asg,body := body,dfr := n0 }) := by
   have h1 : (hb s0).put n0 .dfr = (hb s0).plus [some .dfr] := by rw [← hsz s0];exact put_push _
   have h2 := plus_put_end (hsz s0) [some .dfr] (.loop (busyL me a.size a.tmps ps asg body n0 .ready none))
   rw [h1]
   exact h2.symm
  rw [← hh];exact hcb
 ·rw [hsize,hH2];exact hget_at (hsz _) _ _
 ·unfold busyL stateOf;cases p.1 <;> simp [pend]
 ·rw [hsize];rfl
 ·rw [hsize]
  have := hK G'
  rw [← hfin] at this
  obtain ⟨e,s⟩ := p
  cases e with
  | normal => exact this
  | ret => exact this
  | exit i => exact this
def lh {S : Type} (hb : S → List (Option AObj)) (k : Nat) (s : S) : Heap := ⟨hb s,k⟩
theorem wp_rangeS {f : FuncId} {cap : List AV} {items : List (List AV)} (hy : Yields C f cap items) {g : Operand} {ps : Array Tmp} {asg body : Code} {a : AAct} {H : Heap} {K : Post} (hg : a.eval g = some (.fn (.func f) [] cap))
  (hb : S → List (Option AObj)) (stp : S → List AV → AExit × S) (lv : S → Prop) (ok : List AV → Prop) {n0 k : Nat} (hsz : ∀ s,(hb s).length = n0) (hk : k ≤ n0) (hok : ∀ x ∈ items,ok x ∧ x.length = ps.size)
  (hlv : ∀ s x,lv s → ok x → (stp s x).1 = .normal → lv (stp s x).2)
  (hbody : ∀ (L L' : ALoop) s x E,L'.dfr = n0 → lv s → ok x → x.length = ps.size → Wp C me (some (n0 + 1)) asg ⟨a.size,setTmps a.size a.tmps (ps.toList.zip x),[]⟩ ⟨hb s ++ some .dfr :: some (.loop L) :: E,k⟩ (asK C me (n0 + 1) body (lh hb k) L L' E s (stp s x)))
  (s0 : S) (h0 : lv s0) (hH : H = ⟨hb s0,k⟩)
  (hK : ∀ G,AtK K (foldE stp items s0).1 ⟨a.size,a.tmps,n0 :: a.marks⟩ ⟨hb (foldE stp items s0).2 ++ some .dfr :: some .dead :: G,k⟩) :
  Wp C me none (.rangeFunc g ps asg body) a H K :=
 wp_rangeH hy hg (lh hb k) stp lv ok (n0 := n0) hsz (fun _ => hk) hok hlv hbody s0 h0 hH hK
end
@[go_sem] theorem sop_end {α : Type} (x : α) (E : List α) : setOrPush x E.length E = E ++ [x] := by
 have := sop_right x E.length E [] (Nat.le_refl _)
 rw [List.append_nil,Nat.sub_self] at this
 exact this
@[go_sem] theorem sop_end0 {α : Type} (x : α) (E l : List α) : setOrPush x E.length (E ++ l) = E ++ setOrPush x 0 l := by
 rw [sop_right x E.length E l (Nat.le_refl _),Nat.sub_self]
@[go_sem] theorem get_end0 {α : Type} (E l : List α) : (E ++ l)[E.length]? = l[0]? := by
 rw [List.getElem?_append_right (Nat.le_refl _),Nat.sub_self]
@[go_sem] theorem drop_end0 {α : Type} (E l : List α) : (E ++ l).drop E.length = l := by simp
end Go.Ev
namespace Go.Ev
section
variable {C : Cfg} {me : FuncId} {rd : Option Nat}
abbrev Inv := Nat → AAct → Heap → Prop
def Again (P : Inv) (m : Nat) (a : AAct) (H : Heap) : Prop := ∃ m',m' < m ∧ P m' a H
@[congr] theorem Again_congr {P : Inv} {m : Nat} {a a' : AAct} {H H' : Heap} (ha : a = a') (hH : H = H') : Again P m a H = Again P m a' H' := by rw [ha,hH]
def itK (P : Inv) (m : Nat) (ks : List Tmp) (n : Nat) (K : Post) : Post := fun e a H =>
 match e with
 | .normal => Again P m (a.only ks) (H.trim n ((a.only ks).tmps.map (·.2)) (a.only ks).marks)
 | .exit i => AtK K (.exit i) (a.only ks) (H.trim n ((a.only ks).tmps.map (·.2)) (a.only ks).marks)
 | .ret => AtK K .ret a H
@[go_sem ↓] theorem itK_normal (P : Inv) (m : Nat) (ks : List Tmp) (n : Nat) (K : Post) (s : Nat) (l : List (Tmp × AV)) (ms : List Nat) (H : Heap) : AtK (itK P m ks n K) .normal ⟨s,l,ms⟩ H = bindO (nf (ks.filterMap fun k => (assoc k l).map fun v => (k,v))) fun l' => bindO (nf (H.trim n (l'.map (·.2)) ms)) fun H' => Again P m ⟨s,l',ms⟩ H' := rfl
@[go_sem ↓] theorem itK_exit (P : Inv) (m : Nat) (ks : List Tmp) (n i : Nat) (K : Post) (s : Nat) (l : List (Tmp × AV)) (ms : List Nat) (H : Heap) : AtK (itK P m ks n K) (.exit i) ⟨s,l,ms⟩ H = bindO (nf (ks.filterMap fun k => (assoc k l).map fun v => (k,v))) fun l' => bindO (nf (H.trim n (l'.map (·.2)) ms)) fun H' => AtK K (.exit i) ⟨s,l',ms⟩ H' := rfl
@[go_sem ↓] theorem itK_ret (P : Inv) (m : Nat) (ks : List Tmp) (n : Nat) (K : Post) (a : AAct) (H : Heap) : AtK (itK P m ks n K) .ret a H = AtK K .ret a H := rfl
theorem Lp_rule {ks : List Tmp} {c : Code} {K : Post} (P : Inv) (hstep : ∀ m a H,P m a H → Wp C me rd c a H (itK P m ks H.size K)) : ∀ m a H,P m a H → Lp C me rd ks c a H K := by
 intro m
 induction m using Nat.strongRecOn with
 | _ m ih =>
  intro a H hp
  rw [Lp_step]
  refine Wp_mono (hstep m a H hp) ?_
  intro e a' H' h
  cases e with
  | normal =>
   obtain ⟨m',hm,hp'⟩ := h
   exact ih m' hm _ _ hp'
  | exit i => exact h
  | ret => exact h
theorem Lp_ruleQ {ks : List Tmp} {c : Code} {K : Post} (P : Inv) (hstep : ∀ (Q : Inv) (KK : Post),(∀ m a H,P m a H → Q m a H) → (∀ e a H,AtK K e a H → AtK KK e a H) → ∀ m a H,P m a H → Wp C me rd c a H (itK Q m ks H.size KK)) : ∀ m a H,P m a H → Lp C me rd ks c a H K :=
 Lp_rule P (hstep P K (fun _ _ _ h => h) (fun _ _ _ h => h))
theorem Again.mk' {P : Inv} {m : Nat} {a : AAct} {H : Heap} (m' : Nat) (h : m' < m) (hp : P m' a H) : Again P m a H := ⟨m',h,hp⟩
end
theorem take_len {α : Type} (l : List α) : l.take l.length = l := List.take_length
theorem drop_len {α : Type} (l : List α) : l.drop l.length = [] := List.drop_length
attribute [go_sem] take_len drop_len
def killO (o : Option AObj) (r : List Nat) (b : Nat) (l : List (Option AObj)) (k : Nat) : Option Heap := match o with | some .dfr => if k ≤ b then killAll r ⟨setOrPush (some .dead) b l,k⟩ else none | _ => none
@[go_sem] theorem kill_cons (b : Nat) (r : List Nat) (l : List (Option AObj)) (k : Nat) : killAll (b :: r) ⟨l,k⟩ = killO (l[b]?).join r b l k := by
 unfold killO
 rw [killAll]
 unfold Heap.get
 rcases (l[b]?).join with _ | o
 ·rfl
 ·cases o <;> rfl
@[go_sem] theorem killO_dfr (r : List Nat) (b : Nat) (l : List (Option AObj)) (k : Nat) : killO (some .dfr) r b l k = if k ≤ b then killAll r ⟨setOrPush (some .dead) b l,k⟩ else none := rfl
end Go.Ev
namespace Go.Ev
open Go.Proofs
abbrev Plc := Nat × Nat × Nat
def plN (p : Plc) : AV := .agg [intA p.1,intA p.2.1,intA p.2.2]
def wordsL (i j : Nat) : Nat → Line → List (Plc × ByteArray)
 | _,[] => []
 | k,s :: r => ((i,j,k),s) :: wordsL i j (k + 1) r
def wordsC (i : Nat) : Nat → List Line → List (Plc × ByteArray)
 | _,[] => []
 | j,l :: r => wordsL i j 0 l ++ wordsC i (j + 1) r
def wordsT : Nat → Txt → List (Plc × ByteArray)
 | _,[] => []
 | i,c :: r => wordsC i 0 c.2 ++ wordsT (i + 1) r
def itW (x : Plc × ByteArray) : List AV := [plN x.1,.v (.string x.2)]
theorem its_line (i j : Nat) : ∀ (ws : Line) (k : Nat),wIts (intA i) (intA j) k (strs ws) = (wordsL i j k ws).map itW
 | [],_ => rfl
 | s :: r,k => by
  have ih := its_line i j r (k + 1)
  simp only [strs,List.map_cons] at ih ⊢
  simp only [wIts,wordsL,List.map_cons,ih]
  rfl
theorem All2.cons {α β : Type} {R : α → β → Prop} {a : α} {l : List α} {m : List β} (h : All2 R (a :: l) m) : ∃ b m',m = b :: m' ∧ R a b ∧ All2 R l m' := by
 cases m with
 | nil => have := h.1;simp at this
 | cons b m' => exact ⟨b,m',rfl,h.2 0 a b rfl rfl,by simpa using h.1,fun i x y hx hy => h.2 (i + 1) x y (by simpa using hx) (by simpa using hy)⟩
theorem All2.nilI {α β : Type} {R : α → β → Prop} {m : List β} (h : All2 R [] m) : m = [] := by
 cases m with
 | nil => rfl
 | cons b m' => have := h.1;simp at this
theorem expand_line (i j : Nat) (ws : Line) (x : AV) (hx : SlOf 1 (strs ws) x) : expandL [placeA i j 0,x] = (wordsL i j 0 ws).map itW := by
 show wIts (intA i) (intA j) 0 (slElems x) = _
 rw [hx.elems,its_line]
theorem expand_lines (i : Nat) : ∀ (ls : List Line) (xs : List AV) (j : Nat),All2 LineA ls xs → (lineIts i j xs).flatMap expandL = (wordsC i j ls).map itW
 | [],xs,j,h => by rw [h.nilI];rfl
 | l :: r,xs,j,h => by
  obtain ⟨x,xs',rfl,hx,hr⟩ := h.cons
  simp only [lineIts,List.flatMap_cons,wordsC,List.map_append]
  rw [expand_line i j l x hx,expand_lines i r xs' (j + 1) hr]
theorem expand_chaps : ∀ (t : Txt) (xs : List AV) (i : Nat),All2 ChapA t xs → (chapIts i xs).flatMap expandL = (wordsT i t).map itW
 | [],xs,i,h => by rw [h.nilI];rfl
 | c :: r,xs,i,h => by
  obtain ⟨x,xs',rfl,⟨l,rfl,lxs,hl,hls⟩,hr⟩ := h.cons
  simp only [chapIts,linesOf,List.flatMap_append,wordsT,List.map_append]
  rw [hl.elems,expand_lines i c.2 lxs 0 hls,expand_chaps r xs' (i + 1) hr]
theorem allIts_eq {t : Txt} {xs : List AV} (h : All2 ChapA t xs) : allIts xs = (wordsT 0 t).map itW := expand_chaps t xs 0 h
theorem wordsL_mem (i j : Nat) : ∀ (ws : Line) (k : Nat) (x : Plc × ByteArray),x ∈ wordsL i j k ws ↔ ∃ w,x.1 = (i,j,k + w) ∧ ws[w]? = some x.2
 | [],k,x => by simp [wordsL]
 | s :: r,k,x => by
  simp only [wordsL,List.mem_cons,wordsL_mem i j r (k + 1)]
  constructor
  ·rintro (rfl | ⟨w,h1,h2⟩)
   ·exact ⟨0,rfl,rfl⟩
   ·exact ⟨w + 1,by rw [h1,show k + 1 + w = k + (w + 1) by omega],by simpa using h2⟩
  ·rintro ⟨w,h1,h2⟩
   cases w with
   | zero => left;obtain ⟨a,b⟩ := x;simp at h1 h2;rw [h1,h2]
   | succ w => right;exact ⟨w,by rw [h1,show k + 1 + w = k + (w + 1) by omega],by simpa using h2⟩
theorem wordsC_mem (i : Nat) : ∀ (ls : List Line) (j : Nat) (x : Plc × ByteArray),x ∈ wordsC i j ls ↔ ∃ n w l,x.1 = (i,j + n,w) ∧ ls[n]? = some l ∧ l[w]? = some x.2
 | [],j,x => by simp [wordsC]
 | l :: r,j,x => by
  simp only [wordsC,List.mem_append,wordsL_mem,wordsC_mem i r (j + 1)]
  constructor
  ·rintro (⟨w,h1,h2⟩ | ⟨n,w,l',h1,h2,h3⟩)
   ·exact ⟨0,w,l,by rw [h1];simp,rfl,h2⟩
   ·exact ⟨n + 1,w,l',by rw [h1,show j + 1 + n = j + (n + 1) by omega],by simpa using h2,h3⟩
  ·rintro ⟨n,w,l',h1,h2,h3⟩
   cases n with
   | zero => left;simp at h2;subst h2;exact ⟨w,by rw [h1];simp,h3⟩
   | succ n => right;exact ⟨n,w,l',by rw [h1,show j + 1 + n = j + (n + 1) by omega],by simpa using h2,h3⟩
theorem wordsT_mem : ∀ (t : Txt) (i : Nat) (x : Plc × ByteArray),x ∈ wordsT i t ↔ ∃ m n w c l,x.1 = (i + m,n,w) ∧ t[m]? = some c ∧ c.2[n]? = some l ∧ l[w]? = some x.2
 | [],i,x => by simp [wordsT]
 | c :: r,i,x => by
  simp only [wordsT,List.mem_append,wordsC_mem,wordsT_mem r (i + 1)]
  constructor
  ·rintro (⟨n,w,l,h1,h2,h3⟩ | ⟨m,n,w,c',l,h1,h2,h3,h4⟩)
   ·exact ⟨0,n,w,c,l,by rw [h1];simp,rfl,h2,h3⟩
   ·exact ⟨m + 1,n,w,c',l,by rw [h1,show i + 1 + m = i + (m + 1) by omega],by simpa using h2,h3,h4⟩
  ·rintro ⟨m,n,w,c',l,h1,h2,h3,h4⟩
   cases m with
   | zero => left;simp at h2;subst h2;exact ⟨n,w,l,by rw [h1];simp,h3,h4⟩
   | succ m => right;exact ⟨m,n,w,c',l,by rw [h1,show i + 1 + m = i + (m + 1) by omega],by simpa using h2,h3,h4⟩
end Go.Ev
namespace Go.Ev
open Go.Proofs
theorem okFrom_mem : ∀ (t t' : Txt) (j : Nat),okFrom t j t' = true → ∀ c ∈ t',withinB 1 10 [(c.2.length : Int)] = true ∧ c.2.all lineB = true
 | t,[],j,_,c,hc => by cases hc
 | t,c' :: r,j,h,c,hc => by
  simp only [okFrom,Bool.and_eq_true,condC] at h
  rcases List.mem_cons.1 hc with rfl | hc
  ·exact ⟨h.1.1.1.2,h.1.2⟩
  ·exact okFrom_mem t r (j + 1) h.2 c hc
structure Small (t : Txt) : Prop where
 chs : 1 ≤ t.length ∧ t.length ≤ 6
 lines : ∀ c ∈ t,1 ≤ c.2.length ∧ c.2.length ≤ 10
 words : ∀ c ∈ t,∀ l ∈ c.2,1 ≤ l.length ∧ l.length ≤ 10
 word : ∀ c ∈ t,∀ l ∈ c.2,∀ s ∈ l,wordB s = true
theorem small_of {t : Txt} (h : textB t = true) : Small t := by
 unfold textB at h
 simp only [Bool.and_eq_true] at h
 obtain ⟨h1,h2⟩ := h
 have hl : ∀ c ∈ t,∀ l ∈ c.2,lineB l = true := fun c hc l hl => List.all_eq_true.1 (okFrom_mem t t 0 h2 c hc).2 l hl
 refine ⟨?_,fun c hc => ?_,fun c hc l hlm => ?_,fun c hc l hlm s hs => ?_⟩
 ·rw [range1] at h1;simp at h1;omega
 ·have := (okFrom_mem t t 0 h2 c hc).1
  rw [range1] at this;simp at this;omega
 ·have := hl c hc l hlm
  unfold lineB at this
  rw [range1] at this;simp at this;omega
 ·have := hl c hc l hlm
  unfold lineB at this
  simp only [Bool.and_eq_true] at this
  exact List.all_eq_true.1 this.2 s hs
theorem wordsL_len (i j : Nat) : ∀ (ws : Line) (k : Nat),(wordsL i j k ws).length = ws.length
 | [],_ => rfl
 | _ :: r,k => by simp [wordsL,wordsL_len i j r]
theorem wordsC_len (i : Nat) : ∀ (ls : List Line) (j : Nat),(∀ l ∈ ls,l.length ≤ 10) → (wordsC i j ls).length ≤ 10 * ls.length
 | [],_,_ => Nat.le_refl _
 | l :: r,j,h => by
  have := wordsC_len i r (j + 1) fun l hl => h l (List.mem_cons_of_mem _ hl)
  have := h l List.mem_cons_self
  simp [wordsC,wordsL_len];omega
theorem wordsT_len : ∀ (t : Txt) (i : Nat),(∀ c ∈ t,c.2.length ≤ 10 ∧ ∀ l ∈ c.2,l.length ≤ 10) → (wordsT i t).length ≤ 100 * t.length
 | [],_,_ => Nat.le_refl _
 | c :: r,i,h => by
  have h1 := wordsT_len r (i + 1) fun c hc => h c (List.mem_cons_of_mem _ hc)
  have h2 := h c List.mem_cons_self
  have h3 := wordsC_len i c.2 0 h2.2
  simp [wordsT];omega
theorem wordsT_small {t : Txt} (h : Small t) : 1 ≤ (wordsT 0 t).length ∧ (wordsT 0 t).length ≤ 600 := by
 have h1 := wordsT_len t 0 fun c hc => ⟨(h.lines c hc).2,fun l hl => (h.words c hc l hl).2⟩
 have := h.chs
 refine ⟨?_,by omega⟩
 obtain ⟨c,hc⟩ := at_lt t 0 (by omega)
 have hcm := List.mem_of_getElem? hc
 obtain ⟨l,hl⟩ := at_lt c.2 0 (h.lines c hcm).1
 obtain ⟨s,hs⟩ := at_lt l 0 (h.words c hcm l (List.mem_of_getElem? hl)).1
 have := (wordsT_mem t 0 ((0,0,0),s)).2 ⟨0,0,0,c,l,rfl,hc,hl,hs⟩
 exact List.length_pos_of_mem this
def zeroP : Plc := (0,0,0)
def plOf (x : List AV) : Plc := match x with | [.agg [.v (.int _ a),.v (.int _ b),.v (.int _ c)],_] => (a.toNat,b.toNat,c.toNat) | _ => zeroP
theorem plOf_it (x : Plc × ByteArray) : plOf (itW x) = x.1 := by simp [plOf,itW,plN,intA]
def okW (x : List AV) : Prop := ∃ p s,x = itW (p,s)
theorem okW_all (t : Txt) (i : Nat) : ∀ x ∈ (wordsT i t).map itW,okW x ∧ x.length = 2 := by
 intro x hx
 obtain ⟨y, -,rfl⟩ := List.mem_map.1 hx
 exact ⟨⟨y.1,y.2,rfl⟩,rfl⟩
theorem wrap_wrap' (n : Nat) : IntKind.i64.wrap (IntKind.i64.wrap n + 1) = IntKind.i64.wrap ((n + 1 : Nat) : Int) := by
 rw [wrap_wrap];rfl
theorem wrap_nat (n : Nat) (h : n < 2 ^ 62) : IntKind.i64.wrap (n : Int) = (n : Int) := wrap_in _ (by omega) (by omega)
def stpF (q : Nat → Plc → Bool) (s : Nat × Plc) (x : List AV) : AExit × (Nat × Plc) := if q s.1 (plOf x) then (.ret,(s.1,plOf x)) else (.normal,(s.1 + 1,s.2))
theorem foldF (q : Nat → Plc → Bool) : ∀ (l : List (Plc × ByteArray)) (c : Nat),(∃ k x,l[k]? = some x ∧ q (c + k) x.1 = true ∧ (∀ j y,j < k → l[j]? = some y → q (c + j) y.1 = false) ∧ foldE (stpF q) (l.map itW) (c,zeroP) = (.ret,(c + k,x.1))) ∨
  ((∀ j y,l[j]? = some y → q (c + j) y.1 = false) ∧ foldE (stpF q) (l.map itW) (c,zeroP) = (.normal,(c + l.length,zeroP)))
 | [],c => Or.inr ⟨fun j y h => by simp at h,rfl⟩
 | x :: r,c => by
  cases hq : q c x.1
  ·have hs : stpF q (c,zeroP) (itW x) = (.normal,(c + 1,zeroP)) := by unfold stpF;rw [plOf_it,hq];rfl
   rw [List.map_cons,foldE_go (by rw [hs]),hs]
   rcases foldF q r (c + 1) with ⟨k,y,h1,h2,h3,h4⟩ | ⟨h1,h2⟩
   ·refine Or.inl ⟨k + 1,y,by simpa using h1,by rw [show c + (k + 1) = c + 1 + k by omega];exact h2,fun j z hj hz => ?_,by rw [h4,show c + (k + 1) = c + 1 + k by omega]⟩
    cases j with
    | zero => simp at hz;subst hz;exact hq
    | succ j => rw [show c + (j + 1) = c + 1 + j by omega];exact h3 j z (by omega) (by simpa using hz)
   ·refine Or.inr ⟨fun j z hz => ?_,by rw [h2];simp;omega⟩
    cases j with
    | zero => simp at hz;subst hz;exact hq
    | succ j => rw [show c + (j + 1) = c + 1 + j by omega];exact h1 j z (by simpa using hz)
  ·have hs : stpF q (c,zeroP) (itW x) = (.ret,(c,x.1)) := by unfold stpF;rw [plOf_it,hq];rfl
   refine Or.inl ⟨0,x,rfl,hq,fun j z hj _ => by omega, ?_⟩
   rw [List.map_cons,foldE_out (by rw [hs];intro h;cases h),hs];rfl
end Go.Ev
namespace Go.Ev
open Go.Proofs
def hb15 (ch : AV) (n : Int) (s : Nat × Plc) : List (Option AObj) := [some (.cells 0 0 24 1 false [ch]),some (.cells 0 0 3 1 false [intA n]),some (.cells 0 0 28 1 false [intA s.2.1,intA s.2.2.1,intA s.2.2.2]),some (.cells 0 0 36 1 false [intA 0]),some (.cells 0 0 140 1 false [ch]),some (.cells 0 0 3 1 false [intA (IntKind.i64.wrap s.1)])]
def q15 (n : Int) (c : Nat) (_ : Plc) : Bool := decide (IntKind.i64.wrap c = n)
def placeR (l : List (Plc × ByteArray)) (n : Int) : AV := if 0 ≤ n ∧ n < l.length then .tup [plN ((l.map (·.1)).getD n.toNat zeroP),intA 0] else .tup [plN zeroP,intA 2]
def placeOfR (t : Txt) (n : Int) : AV := if textB t then placeR (wordsT 0 t) n else .tup [plN zeroP,intA 10]
theorem ans15 {e : Exts} (he : Quiet e) (t : Txt) (ht : Fits t) (ch : AV) (xs : List AV) (hch : SlOf 2 xs ch) (hall : All2 ChapA t xs) (n : Int) : Ans (Cx e) 45 [.agg [ch],intA n] (placeOfR t n) := by
 have hc := call40 he t ht ch ⟨xs,hch,hall⟩
 have hy := yields63 he ch xs hch (okCh2_of ht hall) (by rw [← hall.1];exact ht.chs)
 rw [allIts_eq hall] at hy
 unfold Ans placeOfR
 rw [fn_step (fn_45 e) (show Tryz.f45.body = some _ from rfl)]
 cases h1 : textB t
 ·rw [h1] at hc
  simp only [Bool.false_eq_true,if_false,intA] at hc
  simp -implicitDefEqProofs only [Tryz.f45,go_sem,↓reduceIte,Int.reduceEq,Int.reduceLT,Int.reduceLE,List.zip_cons_cons,List.zip_nil_right,List.zip_nil_left,setT_nil,setT_cons,intA,hch.cells,hch.flat,hch.bound,hc]
  rfl
 ·rw [h1] at hc
  simp only [if_true,intA] at hc
  simp -implicitDefEqProofs only [Tryz.f45,go_sem,↓reduceIte,Int.reduceEq,Int.reduceLT,Int.reduceLE,List.zip_cons_cons,List.zip_nil_right,List.zip_nil_left,setT_nil,setT_cons,intA,hch.cells,hch.flat,hch.bound,hc,call41 he ch xs hch]
  refine wp_rangeS hy rfl (hb15 ch n) (stpF (q15 n)) (fun _ => True) okW (n0 := 6) (k := 0) (fun _ => rfl) (by omega) (okW_all t 0) (fun _ _ _ _ _ => trivial) ?_ (0,zeroP) trivial rfl ?_
  ·rintro L L' s x E - - ⟨p,w,rfl⟩ -
   have hs : stpF (q15 n) s (itW (p,w)) = if decide (IntKind.i64.wrap s.1 = n) = true then (.ret,(s.1,p)) else (.normal,(s.1 + 1,s.2)) := by unfold stpF q15;rw [plOf_it]
   rw [hs]
   simp -implicitDefEqProofs only [go_sem,↓reduceIte,Int.reduceEq,Int.reduceLT,Int.reduceLE,List.zip_cons_cons,List.zip_nil_right,List.zip_nil_left,setT_nil,setT_cons,intA,hb15,itW,plN]
   refine asK_mk [some (.cells 0 0 28 1 false [intA p.1,intA p.2.1,intA p.2.2])] rfl ?_
   simp only [lh,Heap.plus]
   cases hn : decide (IntKind.i64.wrap s.1 = n)
   ·simp -implicitDefEqProofs only [go_sem,↓reduceIte,Int.reduceEq,Int.reduceLT,Int.reduceLE,List.zip_cons_cons,List.zip_nil_right,List.zip_nil_left,setT_nil,setT_cons,intA,hb15,hn]
    simp only [rngK_at,true_and,wrap_wrap']
    exact ⟨[some (.cells 0 0 28 1 false [intA p.1,intA p.2.1,intA p.2.2])],rfl⟩
   ·simp -implicitDefEqProofs only [go_sem,↓reduceIte,Int.reduceEq,Int.reduceLT,Int.reduceLE,List.zip_cons_cons,List.zip_nil_right,List.zip_nil_left,setT_nil,setT_cons,intA,hb15,hn]
    simp only [rngK_at,true_and]
    exact ⟨[some (.cells 0 0 28 1 false [intA p.1,intA p.2.1,intA p.2.2])],rfl⟩
  ·intro G
   have hlen := wordsT_small (small_of h1)
   rcases foldF (q15 n) (wordsT 0 t) 0 with ⟨k,x,hk,hq, -,hf⟩ | ⟨hq,hf⟩
   ·rw [hf]
    have hkl := (List.getElem?_eq_some_iff.1 hk).1
    unfold q15 at hq
    rw [wrap_nat _ (by omega),decide_eq_true_eq] at hq
    simp -implicitDefEqProofs only [go_sem,↓reduceIte,Int.reduceEq,Int.reduceLT,Int.reduceLE,List.zip_cons_cons,List.zip_nil_right,List.zip_nil_left,setT_nil,setT_cons,intA,hb15]
    unfold placeR
    rw [if_pos (by omega),← hq]
    simp [hk,plN,intA]
    rfl
   ·rw [hf]
    simp -implicitDefEqProofs only [go_sem,↓reduceIte,Int.reduceEq,Int.reduceLT,Int.reduceLE,List.zip_cons_cons,List.zip_nil_right,List.zip_nil_left,setT_nil,setT_cons,intA,hb15]
    have hno : ¬ (0 ≤ n ∧ n < ((wordsT 0 t).length : Int)) := by
     rintro ⟨h2,h3⟩
     obtain ⟨x,hx⟩ := at_lt (wordsT 0 t) n.toNat (by omega)
     have := hq _ _ hx
     unfold q15 at this
     rw [wrap_nat _ (by omega)] at this
     simp at this;omega
    unfold placeR
    rw [if_neg hno]
    rfl
end Go.Ev
namespace Go.Ev
section
variable {P : Program}
theorem rp_bind {α β : Type} : ∀ (s : Sem α) (f : α → Sem β),runPure P (s >>= f) = (runPure P s).bind fun x => runPure P (f x) := by
 intro s f
 show runPure P (s.bind f) = _
 induction s with
 | pure a => rfl
 | program k ih => exact ih P
 | mark m k ih => exact ih
 | _ => rfl
theorem rp_pure {α : Type} (x : α) : runPure P (pure x : Sem α) = some x := rfl
theorem rp_program : runPure P program = some P := rfl
theorem rp_underlying {t : TypeId} {d : TypeDesc} (h : P.underlying t = some d) : runPure P (underlying t) = some d := by
 unfold underlying
 rw [rp_bind,rp_program,Option.bind_some,h];rfl
theorem rp_ite {α : Type} (c : Prop) [Decidable c] (x y : Sem α) : runPure P (if c then x else y) = if c then runPure P x else runPure P y := by split <;> rfl
theorem rp_struct {t : TypeId} {fs : Array Field} (hu : P.underlying t = some (.struct fs)) (hst : P.stoodInHeld t = false) (xs ys : Array Value) (d : Nat) : runPure P (Op.equalIn (d + 1) t (.agg xs) (.agg ys)) = runPure P (Op.eqFields d xs ys fs.toList) := by
 unfold Op.equalIn
 simp only [rp_bind,rp_underlying hu,Option.bind_some,rp_program,hst]
 simp only [Bool.false_eq_true,if_false,rp_bind]
 rw [← Array.forIn_toList]
 induction fs.toList with
 | nil => simp [Op.eqFields,rp_pure]
 | cons f r ih =>
  simp only [List.forIn_cons,Op.eqFields,rp_bind,rp_ite]
  split
  ·cases runPure P (part f.type xs f.offset) with
   | none => rfl
   | some a =>
    simp only [Option.bind_some]
    cases runPure P (part f.type ys f.offset) with
    | none => rfl
    | some b =>
     simp only [Option.bind_some]
     cases runPure P (Op.equalIn d f.type a b) with
     | none => rfl
     | some r =>
      cases r
      ·simp only [Option.bind_some,Bool.not_false,if_true,rp_pure]
      ·simp only [Option.bind_some,Bool.not_true,Bool.false_eq_true,if_false,rp_pure]
       exact ih
  ·simp only [rp_pure,Option.bind_some]
   exact ih
theorem rp_int {t : TypeId} {k' : IntKind} (hu : P.underlying t = some (.int k')) (k : IntKind) (a b : Int) (d : Nat) : runPure P (Op.equalIn (d + 1) t (.int k a) (.int k b)) = some (decide (a = b)) := by
 unfold Op.equalIn
 simp only [rp_bind,rp_underlying hu,Option.bind_some,if_true]
 have : (a == b) = decide (a = b) := rfl
 rw [this];rfl
theorem rp_bool {t : TypeId} (hu : P.underlying t = some .bool) (a b : Bool) (d : Nat) : runPure P (Op.equalIn (d + 1) t (.bool a) (.bool b)) = some (a == b) := by
 unfold Op.equalIn
 simp only [rp_bind,rp_underlying hu,Option.bind_some]
 rfl
theorem beqB (a b : ByteArray) : (a == b) = decide (a = b) := by
 obtain ⟨⟨x⟩⟩ := a
 obtain ⟨⟨y⟩⟩ := b
 show ((⟨x⟩ : Array UInt8) == ⟨y⟩) = _
 by_cases h : x = y
 ·subst h;simp
 ·simp [h]
theorem rp_string {t : TypeId} (hu : P.underlying t = some .string) (a b : ByteArray) (d : Nat) : runPure P (Op.equalIn (d + 1) t (.string a) (.string b)) = some (decide (a = b)) := by
 unfold Op.equalIn
 simp only [rp_bind,rp_underlying hu,Option.bind_some]
 rw [beqB];rfl
def eqCell : Value → Value → Bool
 | .int _ m,.int _ n => decide (m = n)
 | .string a,.string b => decide (a = b)
 | .bool a,.bool b => a == b
 | _,_ => false
def eqCells : List Value → List Value → Bool
 | [],[] => true
 | x :: r,y :: s => eqCell x y && eqCells r s
 | _,_ => false
theorem eqCells_append : ∀ (a b c d : List Value),a.length = b.length → eqCells (a ++ c) (b ++ d) = (eqCells a b && eqCells c d)
 | [],[],c,d,_ => by simp [eqCells]
 | [],_ :: _,c,d,h => by simp at h
 | _ :: _,[],c,d,h => by simp at h
 | x :: a,y :: b,c,d,h => by simp only [List.cons_append,eqCells,eqCells_append a b c d (by simpa using h),Bool.and_assoc]
def tiledE (P : Program) : Nat → List Field → Nat → Bool
 | k,[],e => k == e
 | k,f :: r,e => f.offset == k && f.name != "_" && tiledE P (k + P.cellsOf f.type) r e
def eqOk (P : Program) : Nat → TypeId → List Value → List Value → Bool
 | 0,_,_,_ => false
 | n + 1,t,us,ws => (P.info? t).isSome &&
  match P.underlying t with
  | some .bool => match us,ws with | [.bool _],[.bool _] => true | _,_ => false
  | some (.int _) => match us,ws with | [.int k _],[.int k' _] => decide (k = k') | _,_ => false
  | some .string => match us,ws with | [.string _],[.string _] => true | _,_ => false
  | some (.struct fs) => !P.stoodInHeld t && tiledE P 0 fs.toList us.length && us.length == ws.length && P.cellsOf t == us.length && fs.toList.all fun f => eqOk P n f.type ((us.drop f.offset).take (P.cellsOf f.type)) ((ws.drop f.offset).take (P.cellsOf f.type))
  | _ => false
def isStr (P : Program) (t : TypeId) : Bool := match P.underlying t with | some (.struct _) => true | _ => false
def valOf (P : Program) (t : TypeId) (us : List Value) : Value := if isStr P t then .agg us.toArray else us.headD (.bool false)
theorem rp_info {t : TypeId} {i : TypeInfo} (h : P.info? t = some i) : runPure P (typeInfo t) = some i := by
 unfold typeInfo
 rw [rp_bind,rp_program,Option.bind_some,h];rfl
theorem rp_isAgg {t : TypeId} {d : TypeDesc} (h : P.underlying t = some d) : runPure P (isAgg t) = some (match d with | .struct _ | .array _ _ => true | _ => false) := by
 unfold isAgg
 rw [rp_bind,rp_underlying h,Option.bind_some]
 cases d <;> rfl
theorem rp_part_one {t : TypeId} {d : TypeDesc} (hu : P.underlying t = some d) (hd : (match d with | .struct _ | .array _ _ => true | _ => false) = false) {xs : List Value} {k c : Nat} {u : Value} (hx : (xs.drop k).take c = [u]) : runPure P (part t xs.toArray k) = some u := by
 unfold part
 rw [rp_bind,rp_isAgg hu,Option.bind_some,hd]
 have h0 : xs.toArray[k]? = some u := Go.getElem?_of_chunk (c := c) (by simpa using hx)
 simp only [Bool.false_eq_true,if_false,h0]
 rfl
theorem rp_part_agg {t : TypeId} {fs : Array Field} (hu : P.underlying t = some (.struct fs)) {i : TypeInfo} (hi : P.info? t = some i) (xs : List Value) (k : Nat) : runPure P (part t xs.toArray k) = some (.agg ((xs.drop k).take (P.cellsOf t)).toArray) := by
 unfold part
 rw [rp_bind,rp_isAgg hu,Option.bind_some]
 simp only [if_true]
 unfold sizeOf
 simp only [rp_bind,rp_info hi,Option.bind_some,rp_pure]
 unfold Program.cellsOf
 rw [hi]
 simp [List.extract_toArray]
theorem eqOk_len {n t : Nat} {us ws : List Value} (h : eqOk P n t us ws = true) : us.length = ws.length := by
 cases n with
 | zero => cases h
 | succ n =>
  unfold eqOk at h
  simp only [Bool.and_eq_true] at h
  replace h := h.2
  split at h
  ·split at h <;> first | rfl | cases h
  ·split at h <;> first | rfl | cases h
  ·split at h <;> first | rfl | cases h
  ·simp only [Bool.and_eq_true,beq_iff_eq] at h;exact h.1.1.2
  ·cases h
theorem rp_eq : ∀ (n : Nat) (t : TypeId) (us ws : List Value),eqOk P n t us ws = true → ∀ K,n ≤ K → (∀ (xs : List Value) (k : Nat),(xs.drop k).take (P.cellsOf t) = us → runPure P (part t xs.toArray k) = some (valOf P t us)) ∧ (∀ (xs : List Value) (k : Nat),(xs.drop k).take (P.cellsOf t) = ws → runPure P (part t xs.toArray k) = some (valOf P t ws)) ∧ runPure P (Op.equalIn K t (valOf P t us) (valOf P t ws)) = some (eqCells us ws)
 | 0,_,_,_,h,_,_ => by cases h
 | n + 1,t,us,ws,h,0,hK => by omega
 | n + 1,t,us,ws,h,K + 1,hK => by
  unfold eqOk at h
  simp only [Bool.and_eq_true] at h
  obtain ⟨hi,h⟩ := h
  obtain ⟨i,hi⟩ := Option.isSome_iff_exists.1 hi
  cases hu : P.underlying t with
  | none => rw [hu] at h;cases h
  | some d =>
   rw [hu] at h
   have hv : ∀ l,valOf P t l = if (match d with | .struct _ => true | _ => false) then .agg l.toArray else l.headD (.bool false) := by
    intro l;unfold valOf isStr;rw [hu];cases d <;> rfl
   cases d <;> try (cases h;done)
   case bool =>
    simp only at h
    split at h
    ·rw [hv,hv]
     exact ⟨fun xs k hx => rp_part_one hu rfl hx,fun xs k hx => rp_part_one hu rfl hx,(rp_bool hu _ _ K).trans (congrArg some (Bool.and_true _).symm)⟩
    ·cases h
   case int =>
    simp only at h
    split at h
    ·rename_i k a k' b
     simp only [decide_eq_true_eq] at h
     subst h
     rw [hv,hv]
     exact ⟨fun xs k hx => rp_part_one hu rfl hx,fun xs k hx => rp_part_one hu rfl hx,(rp_int hu _ _ _ K).trans (congrArg some (Bool.and_true _).symm)⟩
    ·cases h
   case string =>
    simp only at h
    split at h
    ·rw [hv,hv]
     exact ⟨fun xs k hx => rp_part_one hu rfl hx,fun xs k hx => rp_part_one hu rfl hx,(rp_string hu _ _ K).trans (congrArg some (Bool.and_true _).symm)⟩
    ·cases h
   case struct fs =>
    simp only [Bool.and_eq_true,Bool.not_eq_true',beq_iff_eq] at h
    obtain ⟨⟨⟨⟨hst,htl⟩,hlen⟩,hc⟩,hall⟩ := h
    rw [hv,hv]
    simp only [if_true]
    refine ⟨fun xs k hx => by rw [rp_part_agg hu hi,hx],fun xs k hx => by rw [rp_part_agg hu hi,hx], ?_⟩
    rw [rp_struct hu hst]
    have hall' : ∀ f ∈ fs.toList,eqOk P n f.type ((us.drop f.offset).take (P.cellsOf f.type)) ((ws.drop f.offset).take (P.cellsOf f.type)) = true := fun f hf => List.all_eq_true.1 hall f (by simpa using hf)
    have key : ∀ (l : List Field) (k : Nat),(∀ f ∈ l,f ∈ fs.toList) → tiledE P k l us.length = true → runPure P (Op.eqFields K us.toArray ws.toArray l) = some (eqCells (us.drop k) (ws.drop k)) := by
     intro l
     induction l with
     | nil =>
      intro k _ ht
      have : k = us.length := by unfold tiledE at ht;simpa using ht
      subst this
      rw [List.drop_of_length_le (Nat.le_refl _),List.drop_of_length_le (by omega)]
      rfl
     | cons f r ih =>
      intro k hm ht
      unfold tiledE at ht
      simp only [Bool.and_eq_true,beq_iff_eq,bne_iff_ne,ne_eq] at ht
      obtain ⟨⟨ho,hn⟩,ht⟩ := ht
      have hf := hall' f (hm f List.mem_cons_self)
      obtain ⟨h1,h2,h3⟩ := rp_eq n f.type _ _ hf K (by omega)
      have ihr := ih (k + P.cellsOf f.type) (fun g hg => hm g (List.mem_cons_of_mem _ hg)) ht
      unfold Op.eqFields
      rw [if_pos (by simpa using hn)]
      simp only [rp_bind,rp_ite]
      rw [h1 us f.offset rfl,h2 ws f.offset rfl]
      simp only [Option.bind_some,h3,rp_pure,ihr]
      rw [ho]
      have hl := eqOk_len hf
      rw [ho] at hl
      have e1 : us.drop k = (us.drop k).take (P.cellsOf f.type) ++ us.drop (k + P.cellsOf f.type) := by
       rw [← List.drop_drop,List.take_append_drop]
      have e2 : ws.drop k = (ws.drop k).take (P.cellsOf f.type) ++ ws.drop (k + P.cellsOf f.type) := by
       rw [← List.drop_drop,List.take_append_drop]
      have e3 := eqCells_append _ _ (us.drop (k + P.cellsOf f.type)) (ws.drop (k + P.cellsOf f.type)) hl
      rw [← e1,← e2] at e3
      rw [e3]
      cases eqCells ((us.drop k).take (P.cellsOf f.type)) ((ws.drop k).take (P.cellsOf f.type)) <;> rfl
    have := key fs.toList 0 (fun _ h => h) htl
    simpa using this
theorem bin_struct {t : TypeId} {us ws : List Value} {n : Nat} (hok : eqOk P n t us ws = true) (hn : n ≤ 10000) (hs : isStr P t = true) (hg : P.eqGuardType P.depth t = false) (x y : Operand) :
  binA P .eql t x y (.agg (us.map .v)) (.agg (ws.map .v)) = some (.v (.bool (eqCells us ws))) ∧ binA P .neq t x y (.agg (us.map .v)) (.agg (ws.map .v)) = some (.v (.bool (!eqCells us ws))) := by
 have ha : ∀ l : List Value,toAtoms (l.map .v) = some l := by
  intro l;induction l with
  | nil => rfl
  | cons a r ih => simp only [List.map_cons,toAtoms,ih,Option.map_some]
 have hv : ∀ l : List Value,toValue (.agg (l.map .v)) = some (.agg l.toArray) := by
  intro l;simp only [toValue,ha,Option.map_some]
 have h := (rp_eq n t us ws hok 10000 hn).2.2
 have hvv : ∀ l,valOf P t l = .agg l.toArray := by intro l;unfold valOf;rw [hs];rfl
 rw [hvv,hvv] at h
 have h' : runPure P (Op.equal t (.agg us.toArray) (.agg ws.toArray)) = some (eqCells us ws) := h
 constructor
 ·unfold binA
  simp only [hv,isEq,hg,Bool.not_false,Bool.and_true,if_true]
  show atomA (runPure P (do pure (.bool (← Op.equal t (.agg us.toArray) (.agg ws.toArray))))) = _
  rw [rp_bind,h'];rfl
 ·unfold binA
  simp only [hv,isEq,hg,Bool.not_false,Bool.and_true,if_true]
  show atomA (runPure P (do pure (.bool (!(← Op.equal t (.agg us.toArray) (.agg ws.toArray)))))) = _
  rw [rp_bind,h'];rfl
end
end Go.Ev
namespace Go.Ev
open Go.Proofs
def eqP (a b c a' b' c' : Int) : Bool := decide (a = a') && (decide (b = b') && decide (c = c'))
theorem eqP_cells (a b c a' b' c' : Int) : eqCells [.int .i64 a,.int .i64 b,.int .i64 c] [.int .i64 a',.int .i64 b',.int .i64 c'] = eqP a b c a' b' c' := by
 simp [eqCells,eqCell,eqP]
theorem eq32 (x y : Operand) (a b c a' b' c' : Int) : binA Tryz.prog .eql 28 x y (.agg [.v (.int .i64 a),.v (.int .i64 b),.v (.int .i64 c)]) (.agg [.v (.int .i64 a'),.v (.int .i64 b'),.v (.int .i64 c')]) = some (.v (.bool (eqP a b c a' b' c'))) := by
 have := (bin_struct (P := Tryz.prog) (t := 28) (us := [.int .i64 a,.int .i64 b,.int .i64 c]) (ws := [.int .i64 a',.int .i64 b',.int .i64 c']) (n := 3) (by kernel_rfl) (by decide) (by kernel_rfl) (by kernel_rfl) x y).1
 rw [eqP_cells] at this
 exact this
def q16 (q : Plc) (_ : Nat) (p : Plc) : Bool := eqP p.1 p.2.1 p.2.2 q.1 q.2.1 q.2.2
end Go.Ev
namespace Go.Ev
open Go.Proofs
attribute [local irreducible] Wp WpS
def lineAt (t : Txt) (a b : Int) : Option Line := if 0 ≤ a ∧ 0 ≤ b then (t[a.toNat]?).bind fun c => c.2[b.toNat]? else none
def LineO (o : Option Line) (x : AV) : Prop := match o with | some l => LineA l x | none => x = .v (.slice none 0 0)
theorem within_len (a : Int) (n : Nat) : withinB 0 ((n : Int) - 1) [a] = decide (0 ≤ a ∧ a < n) := by
 rw [range1]
 by_cases h : 0 ≤ a <;> by_cases h2 : a < n <;> simp [h,h2] <;> omega
theorem ans42 {e : Exts} (he : Quiet e) (t : Txt) (ht : Fits t) (ch : AV) (xs : List AV) (hch : SlOf 2 xs ch) (hall : All2 ChapA t xs) (a b c : Int) : ∃ x,LineO (lineAt t a b) x ∧ Ans (Cx e) 97 [.agg [ch],.agg [intA a,intA b,intA c]] (.tup [x,.v (.bool (lineAt t a b).isSome)]) := by
 have hw1 : IntKind.i64.wrap ((t.length : Int) - 1) = (t.length : Int) - 1 := wrap_in _ (by omega) (by have := ht.chs;omega)
 have hc1 := callI43 he a 0 ((t.length : Int) - 1)
 rw [within_len] at hc1
 by_cases h1 : 0 ≤ a ∧ a < t.length
 ·obtain ⟨i,rfl⟩ : ∃ i : Nat,a = i := ⟨a.toNat,by omega⟩
  obtain ⟨cp,hs⟩ := at_lt t i (by omega)
  obtain ⟨y,hy,l,rfl,lxs,hl,hls⟩ := hall.get hs
  have hm := List.mem_of_getElem? hs
  have hll := ht.lines cp hm
  have hw2 : IntKind.i64.wrap ((cp.2.length : Int) - 1) = (cp.2.length : Int) - 1 := wrap_in _ (by omega) (by omega)
  have hc2 := callI43 he b 0 ((cp.2.length : Int) - 1)
  rw [within_len] at hc2
  rw [decide_eq_true h1] at hc1
  by_cases h2 : 0 ≤ b ∧ b < cp.2.length
  ·obtain ⟨j,rfl⟩ : ∃ j : Nat,b = j := ⟨b.toNat,by omega⟩
   obtain ⟨ln,hn⟩ := at_lt cp.2 j (by omega)
   obtain ⟨lx,hx,hlx⟩ := hls.get hn
   have hlx : SlOf 1 (strs ln) lx := hlx
   rw [decide_eq_true h2] at hc2
   have hL : lineAt t i j = some ln := by unfold lineAt;rw [if_pos (by omega)];simp [hs,hn]
   rw [hL]
   refine ⟨lx,hlx, ?_⟩
   unfold Ans
   rw [fn_step (fn_97 e) (show Tryz.f97.body = some _ from rfl)]
   simp -implicitDefEqProofs only [Tryz.f97,go_sem,↓reduceIte,Int.reduceEq,Int.reduceLT,Int.reduceLE,List.zip_cons_cons,List.zip_nil_right,List.zip_nil_left,setT_nil,setT_cons,intA,hch.cells,hch.flat,hch.bound]
   refine wp_draw (by kernel_rfl) ?_
   simp -implicitDefEqProofs only [go_sem,↓reduceIte,Int.reduceEq,Int.reduceLT,Int.reduceLE,List.zip_cons_cons,List.zip_nil_right,List.zip_nil_left,setT_nil,setT_cons,intA,hch.cells,hch.flat,hch.bound,hch.len,hch.lenI,← hall.1,hw1,hc1,hch.idx hy,hl.len,hl.cells,hl.lenI,← hls.1,hw2,hc2]
   refine wp_draw (by kernel_rfl) ?_
   simp -implicitDefEqProofs only [go_sem,↓reduceIte,Int.reduceEq,Int.reduceLT,Int.reduceLE,List.zip_cons_cons,List.zip_nil_right,List.zip_nil_left,setT_nil,setT_cons,intA,hch.cells,hch.flat,hch.bound,hch.len,hch.lenI,← hall.1,hw1,hc1,hch.idx hy,hl.len,hl.cells,hl.idx hx,hlx.cells]
   rcases hlx with ⟨rfl, -⟩ | ⟨cap,rfl⟩ <;> rfl
  ·rw [decide_eq_false h2] at hc2
   have hL : lineAt t i b = none := by
    unfold lineAt
    split
    ·simp only [Int.toNat_natCast,hs,Option.bind_some]
     rw [List.getElem?_eq_none_iff];omega
    ·rfl
   rw [hL]
   refine ⟨_,rfl, ?_⟩
   unfold Ans
   rw [fn_step (fn_97 e) (show Tryz.f97.body = some _ from rfl)]
   simp -implicitDefEqProofs only [Tryz.f97,go_sem,↓reduceIte,Int.reduceEq,Int.reduceLT,Int.reduceLE,List.zip_cons_cons,List.zip_nil_right,List.zip_nil_left,setT_nil,setT_cons,intA,hch.cells,hch.flat,hch.bound]
   refine wp_draw (by kernel_rfl) ?_
   simp -implicitDefEqProofs only [go_sem,↓reduceIte,Int.reduceEq,Int.reduceLT,Int.reduceLE,List.zip_cons_cons,List.zip_nil_right,List.zip_nil_left,setT_nil,setT_cons,intA,hch.cells,hch.flat,hch.bound,hch.len,hch.lenI,← hall.1,hw1,hc1,hch.idx hy,hl.len,hl.cells,hl.lenI,← hls.1,hw2,hc2]
   rfl
 ·rw [decide_eq_false h1] at hc1
  have hL : lineAt t a b = none := by
   unfold lineAt
   split
   ·have : t[a.toNat]? = none := by rw [List.getElem?_eq_none_iff];omega
    rw [this];rfl
   ·rfl
  rw [hL]
  refine ⟨_,rfl, ?_⟩
  unfold Ans
  rw [fn_step (fn_97 e) (show Tryz.f97.body = some _ from rfl)]
  simp -implicitDefEqProofs only [Tryz.f97,go_sem,↓reduceIte,Int.reduceEq,Int.reduceLT,Int.reduceLE,List.zip_cons_cons,List.zip_nil_right,List.zip_nil_left,setT_nil,setT_cons,intA,hch.cells,hch.flat,hch.bound]
  refine wp_draw (by kernel_rfl) ?_
  simp -implicitDefEqProofs only [go_sem,↓reduceIte,Int.reduceEq,Int.reduceLT,Int.reduceLE,List.zip_cons_cons,List.zip_nil_right,List.zip_nil_left,setT_nil,setT_cons,intA,hch.cells,hch.flat,hch.bound,hch.len,hch.lenI,← hall.1,hw1,hc1]
  rfl
theorem call42 {e : Exts} (he : Quiet e) (t : Txt) (ht : Fits t) (ch : AV) (xs : List AV) (hch : SlOf 2 xs ch) (hall : All2 ChapA t xs) (a b c : Int) : ∃ x,LineO (lineAt t a b) x ∧ ∀ (me : FuncId) (d : Option Tmp) (H : Heap),callA (Cx e) (lim (Cx e)) me 97 d [.agg [ch],.agg [.v (.int .i64 a),.v (.int .i64 b),.v (.int .i64 c)]] H = some (.tup [x,.v (.bool (lineAt t a b).isSome)],H) := by
 obtain ⟨x,hx,h⟩ := ans42 he t ht ch xs hch hall a b c
 exact ⟨x,hx,fun me d H => h.call (ext_97 he) (pure_97 _ _ _) (by simp only [boundL_cons,bound_agg,hch.bound,boundL_nil,intA,bound_v];rfl) H⟩
def placeB' (t : Txt) (a b c : Int) : Bool := match lineAt t a b with | some l => decide (0 ≤ c ∧ c < l.length) | none => false
theorem lineAt_mem {t : Txt} {a b : Int} {l : Line} (h : lineAt t a b = some l) : ∃ c ∈ t,l ∈ c.2 := by
 unfold lineAt at h
 split at h
 ·obtain ⟨c,h1,h2⟩ := Option.bind_eq_some_iff.1 h
  exact ⟨c,List.mem_of_getElem? h1,List.mem_of_getElem? h2⟩
 ·cases h
theorem ans17 {e : Exts} (he : Quiet e) (t : Txt) (ht : Fits t) (ch : AV) (xs : List AV) (hch : SlOf 2 xs ch) (hall : All2 ChapA t xs) (a b c : Int) : Ans (Cx e) 62 [.agg [ch],.agg [intA a,intA b,intA c]] (.v (.bool (placeB' t a b c))) := by
 obtain ⟨x,hx,hc⟩ := call42 he t ht ch xs hch hall a b c
 unfold placeB' Ans
 rw [fn_step (fn_62 e) (show Tryz.f62.body = some _ from rfl)]
 cases hL : lineAt t a b with
 | none =>
  rw [hL] at hx hc
  simp only [LineO] at hx
  subst hx
  simp only [Option.isSome_none] at hc
  simp -implicitDefEqProofs only [Tryz.f62,go_sem,↓reduceIte,Int.reduceEq,Int.reduceLT,Int.reduceLE,List.zip_cons_cons,List.zip_nil_right,List.zip_nil_left,setT_nil,setT_cons,intA,hch.cells,hch.flat,hch.bound,hc]
 | some l =>
  rw [hL] at hx hc
  have hx : SlOf 1 (strs l) x := hx
  obtain ⟨cp,hcm,hlm⟩ := lineAt_mem hL
  have hll := ht.words cp hcm l hlm
  simp only [Option.isSome_some] at hc
  have hw1 : IntKind.i64.wrap ((l.length : Int) - 1) = (l.length : Int) - 1 := wrap_in _ (by omega) (by omega)
  have hc1 := call43 he c 0 ((l.length : Int) - 1)
  rw [within_len] at hc1
  simp -implicitDefEqProofs only [Tryz.f62,go_sem,↓reduceIte,Int.reduceEq,Int.reduceLT,Int.reduceLE,List.zip_cons_cons,List.zip_nil_right,List.zip_nil_left,setT_nil,setT_cons,intA,hch.cells,hch.flat,hch.bound,hc,hx.len,strs_len,hw1,hc1]
end Go.Ev
namespace Go.Ev
theorem cmp_bytes : ∀ (a b : List UInt8),Lib.compareBytes a b = if bytesLt a b then -1 else if bytesLt b a then 1 else 0
 | [],[] => by simp [Lib.compareBytes,bytesLt]
 | [],_ :: _ => by simp [Lib.compareBytes,bytesLt]
 | _ :: _,[] => by simp [Lib.compareBytes,bytesLt]
 | x :: a,y :: b => by
  have ih := cmp_bytes a b
  unfold Lib.compareBytes bytesLt
  simp only [UInt8.lt_iff_toNat_lt]
  by_cases h1 : x.toNat < y.toNat
  ·have e1 : Nat.blt x.toNat y.toNat = true := Nat.ble_eq_true_of_le h1
   simp [h1,e1]
  ·have e1 : Nat.blt x.toNat y.toNat = false := by
    cases hb : Nat.blt x.toNat y.toNat
    ·rfl
    ·exact absurd (Nat.le_of_ble_eq_true hb) h1
   by_cases h2 : y.toNat < x.toNat
   ·have e2 : Nat.blt y.toNat x.toNat = true := Nat.ble_eq_true_of_le h2
    have e3 : (x.toNat == y.toNat) = false := by simp;omega
    simp [h1,h2,e1,e2,e3]
   ·have e2 : Nat.blt y.toNat x.toNat = false := by
     cases hb : Nat.blt y.toNat x.toNat
     ·rfl
     ·exact absurd (Nat.le_of_ble_eq_true hb) h2
    have e3 : x.toNat = y.toNat := by omega
    simp [e3,ih]
theorem ext_cmp {P : Program} {f : FuncId} {fn : Func} (hf : P.funcs[f]? = some fn) (hb : fn.body = none) (hn : (fn.name == "runtime.NumGoroutine") = false) (h1 : (Extern.findNext fn).isNone = true) (h2 : Extern.find fn = some Extern.BytealgCompare.compare)
  {args : List AV} {v : AV} (h : cmpStr args = some v) (Z : Fzn) (ρ : Pls) (H : Heap) (w : World) (vals : List Value) (hs : Sim Z ρ H w) (hl : RepL Z ρ args vals) : FnMeets P f vals w (After Z ρ H w v H) := by
 unfold cmpStr at h
 split at h
 ·rename_i a b
  obtain ⟨v1,ws,rfl,hv1,hl⟩ := hl.uncons
  obtain ⟨v2,ws,rfl,hv2,hl⟩ := hl.uncons
  have : ws = [] := by have := hl.1;exact List.length_eq_zero_iff.1 this.symm
  subst this
  obtain ⟨rfl, -⟩ := hv1.v_inv
  obtain ⟨rfl, -⟩ := hv2.v_inv
  simp only [Option.some.injEq] at h
  subst h
  refine Or.inl ⟨.int .i64 (Lib.compareBytes a.data.toList b.data.toList),w, ?_,Z,ρ, ?_,hs,Ext.refl _ _ _ _⟩
  ·have hfn : Extern.findNext fn = none := Option.isNone_iff_eq_none.1 h1
   have := Lib.run_compareString (P := P) a b w
   have hn' : ¬ fn.name = "runtime.NumGoroutine" := by
    intro e;rw [e] at hn;simp at hn
   simp [callFunc,hf,hn',hb,hfn,h2,this]
  ·rw [cmp_bytes];exact .v rfl
 ·cases h
theorem ext_of_ans {C : Cfg} (hgo : NoGo C.P) (hm : C.P.follows .mixedOrders = true) (hext : ExtOK C) {f : FuncId} {args : List AV} {v : AV} (h : Ans C f args v) (hb : boundL args = 0)
  (Z : Fzn) (ρ : Pls) (H : Heap) (w : World) (vals : List Value) (hs : Sim Z ρ H w) (hl : RepL Z ρ args vals) : FnMeets C.P f vals w (After Z ρ H w v H) := by
 obtain ⟨x,H',h1,h2⟩ := Ans.iff.1 h
 obtain ⟨n,hn⟩ := lim_iff.1 h1
 have hrec : RecOK C.P (evT C n) := (ev_sound hgo hext (draw_ok hm hext) n).1
 let D : Cfg := { C with pure := fun _ _ _ => true }
 have hk : callKind D f f none args = 1 := by unfold callKind;rw [hb];rfl
 have hB : callB D (evT C n) f f none args H = some (v,H) := by
  unfold callB;rw [hk];simp only [hn,h2,Option.map_some]
 obtain ⟨hbody,hc⟩ := callB_sound (C := D) hrec hs hl hB
 exact Or.inr ⟨hbody.run _ _,hc⟩
def moreExt (e : FuncId → Option (List AV → Option AV)) (f : FuncId) (g : List AV → Option AV) : FuncId → Option (List AV → Option AV) := fun f' => if Nat.beq f' f then some g else e f'
theorem extOK_more {C C' : Cfg} (hP : C'.P = C.P) {f : FuncId} {g : List AV → Option AV} (hg : ∀ args v,g args = some v → ∀ (Z : Fzn) (ρ : Pls) (H : Heap) (w : World) (vals : List Value),Sim Z ρ H w → RepL Z ρ args vals → FnMeets C.P f vals w (After Z ρ H w v H))
  (hext : ExtOK C) (he : C'.ext = moreExt C.ext f g) (hlay : C'.lay = C.lay := by rfl) (hexh : C'.exh = C.exh := by rfl) : ExtOK C' := by
 refine ⟨fun f' g' hf' args v hv Z ρ H w vals hs hl => ?_,fun f' g' hf' => by rw [hP];rw [hlay] at hf';exact hext.lay f' g' hf',fun f' g' hf' => by rw [hP];rw [hexh] at hf';exact hext.exh f' g' hf'⟩
 rw [hP]
 rw [he] at hf'
 unfold moreExt at hf'
 split at hf'
 ·rename_i hb
  have := Nat.eq_of_beq_eq_true hb
  subst this
  simp only [Option.some.injEq] at hf'
  subst hf'
  exact hg args v hv Z ρ H w vals hs hl
 ·exact hext.ext f' g' hf' args v hv Z ρ H w vals hs hl
def eqV : Value → Value → Bool
 | .int k n,.int k' n' => decide (k = k') && decide (n = n')
 | .bool a,.bool b => a == b
 | .string a,.string b => bytesEq a.data.toList b.data.toList
 | .slice none 0 0,.slice none 0 0 => true
 | _,_ => false
theorem eqV_eq {x y : Value} (h : eqV x y = true) : x = y := by
 unfold eqV at h
 split at h
 ·simp at h;rw [h.1,h.2]
 ·simp at h;rw [h]
 ·rw [bytesEq_iff,decide_eq_true_eq,← str_ext] at h;rw [h]
 ·rfl
 ·cases h
def listEq (f : AV → AV → Bool) : List AV → List AV → Bool
 | [],[] => true
 | x :: r,y :: s => f x y && listEq f r s
 | _,_ => false
theorem listEq_eq {f : AV → AV → Bool} (hf : ∀ x y,f x y = true → x = y) : ∀ {l m : List AV},listEq f l m = true → l = m
 | [],[],_ => rfl
 | [],_ :: _,h => by simp [listEq] at h
 | _ :: _,[],h => by simp [listEq] at h
 | x :: r,y :: s,h => by
  simp only [listEq,Bool.and_eq_true] at h
  rw [hf _ _ h.1,listEq_eq hf h.2]
def capEq : Option Nat → Option Nat → Bool
 | none,none => true
 | some k,some k' => Nat.beq k k'
 | _,_ => false
theorem capEq_eq {c c' : Option Nat} (h : capEq c c' = true) : c = c' := by
 unfold capEq at h
 split at h
 ·rfl
 ·rw [Nat.eq_of_beq_eq_true h]
 ·cases h
def eqStep (rec : AV → AV → Bool) (x y : AV) : Bool :=
 match x,y with
 | .v x,.v y => eqV x y
 | .agg a,.agg b => listEq rec a b
 | .vs s a c,.vs s' a' c' => Nat.beq s s' && listEq rec a a' && capEq c c'
 | _,_ => false
def eqA (n : Nat) : AV → AV → Bool := Nat.rec (fun _ _ => false) (fun _ rec => eqStep rec) n
theorem eqA_eq : ∀ (n : Nat) (x y : AV),eqA n x y = true → x = y
 | 0,_,_,h => by cases h
 | n + 1,x,y,h => by
  have h' : eqStep (eqA n) x y = true := h
  unfold eqStep at h'
  split at h'
  ·rw [eqV_eq h']
  ·rw [listEq_eq (eqA_eq n) h']
  ·simp only [Bool.and_eq_true] at h'
   obtain ⟨⟨h1,h2⟩,h3⟩ := h'
   rw [Nat.eq_of_beq_eq_true h1,listEq_eq (eqA_eq n) h2,capEq_eq h3]
  ·cases h'
def atArgs (K : List AV) (R : AV) : List AV → Option AV := fun args => if listEq (eqA 30) args K then some R else none
theorem atArgs_some {K : List AV} {R : AV} {args : List AV} {v : AV} (h : atArgs K R args = some v) : args = K ∧ v = R := by
 unfold atArgs at h
 split at h
 ·rename_i hq
  exact ⟨listEq_eq (eqA_eq 30) hq,by simpa using h.symm⟩
 ·cases h
end Go.Ev
namespace Go.Ev
open Go.Proofs
attribute [local irreducible] Wp WpS
theorem conv_u16 (n : Int) : convA Tryz.prog 76 3 (.v (.int .u16 n)) = some (.v (.int .i64 (IntKind.i64.wrap n))) := by kernel_rfl
theorem bin_rem {P : Program} {t : TypeId} {k : IntKind} (x y : Operand) (m n : Int) (hn : n ≠ 0) : binA P .rem t x y (.v (.int k m)) (.v (.int k n)) = some (.v (.int k (Int.tmod m n))) := by
 unfold binA
 simp only [binOp,Op.intDiv,ne_eq,not_true_eq_false,if_false,hn]
 rfl
theorem call14 {e : Exts} (he : Quiet e) (t : Txt) (ht : Fits t) (ch : AV) (xs : List AV) (hch : SlOf 2 xs ch) (hall : All2 ChapA t xs) (h1 : textB t = true) (me : FuncId) (d : Option Tmp) (H : Heap) : callA (Cx e) (lim (Cx e)) me 44 d [.agg [ch]] H = some (.tup [.v (.int .i64 (wordsT 0 t).length),.v (.int .i64 0)],H) := by
 have h := ans14 he t ht ch xs hch hall
 have hn := wordsT_small (small_of h1)
 rw [h1,if_pos rfl,allIts_eq hall,List.length_map,wrap_nat _ (by omega)] at h
 exact h.call (ext_44 he) (pure_44 _ _ _) (by simp only [boundL_cons,bound_agg,hch.bound,boundL_nil];rfl) H
theorem placeOf_in {t : Txt} (h1 : textB t = true) {n : Nat} {x : Plc × ByteArray} (hx : (wordsT 0 t)[n]? = some x) : placeOfR t n = .tup [.agg [.v (.int .i64 x.1.1),.v (.int .i64 x.1.2.1),.v (.int .i64 x.1.2.2)],.v (.int .i64 0)] := by
 have hl := (List.getElem?_eq_some_iff.1 hx).1
 unfold placeOfR placeR
 rw [h1,if_pos rfl,if_pos (by omega)]
 simp [hx,plN,intA]
theorem place_in {t : Txt} {n : Nat} {x : Plc × ByteArray} (hx : (wordsT 0 t)[n]? = some x) : placeB' t x.1.1 x.1.2.1 x.1.2.2 = true := by
 obtain ⟨m,k,w,c,l,h1,h2,h3,h4⟩ := (wordsT_mem t 0 x).1 (List.mem_of_getElem? hx)
 have hw := (List.getElem?_eq_some_iff.1 h4).1
 rw [h1]
 unfold placeB' lineAt
 rw [if_pos (by constructor <;> omega)]
 simp only [Int.toNat_natCast,Nat.zero_add,h2,Option.bind_some,h3]
 simpa using hw
end Go.Ev
