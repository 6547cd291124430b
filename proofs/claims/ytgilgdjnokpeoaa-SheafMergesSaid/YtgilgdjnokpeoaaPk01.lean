/- What the proof of this claim stands on, part 2: an evaluator of the model, proved right, and what it answers for functions of the program. -/
import Derived.Test.YtgilgdjnokpeoaaPk00
import Derived.TacticsIn
import Derived.LoopNIn
import Derived.RangeFuncLeaves
set_option maxHeartbeats 8000000
set_option maxRecDepth 1000000
set_option linter.unusedSimpArgs false
namespace Go.Ev
variable {P : Program} {Z : Fzn} {ρ : Pls} {H : Heap} {w : World}
def FR (rb : Option Nat) : Fence := { Fence.wide with round := rb }
def AnsRep (Z : Fzn) (ρ : Pls) (r : Option AV) (x : Value) : Prop :=
 match r with
 | some v => Rep Z ρ v x
 | none => x = undef
def OpMeets (P : Program) (rb : Option Nat) (o : Oper) (a : Act) (w : World) (Z : Fzn) (ρ : Pls) (H : Heap) (r : Option AV) (H' : Heap) : Prop :=
 ∀ (next : Act → World → Prop) (Q : Exit → Act → World → Prop),(∀ x w' Z' ρ',AnsRep Z' ρ' r x → Sim Z' ρ' H' w' → Ext Z ρ H w Z' ρ' H' w' → next (a.put o.dst x) w') → o.wpIn (FR rb) 0 P a w next Q
theorem op_value {rb : Option Nat} {o : Oper} {a : Act} {s : Sem Value} {v : AV} {H' : Heap} (hd : ∀ c,o.op ≠ .defer c) (he : execOp a.eval o = do pure (.value (← s))) (h : Does P Z ρ H w s v H') : OpMeets P rb o a w Z ρ H (some v) H' := by
 intro next Q hn
 obtain ⟨x,w',Z',ρ',h1,h2,h3,h4⟩ := h
 refine ⟨fun _ _ => trivial, ?_⟩
 rw [Oper.semAt_eq _ _ _ hd,he]
 simp only [Sem.run_bind,h1,Result.andThen_ok,Sem.run_pure,Oper.uponIn_value]
 exact hn x w' Z' ρ' h2 h3 h4
theorem op_unit {rb : Option Nat} {o : Oper} {a : Act} {s : Sem Unit} {H' : Heap} (hd : ∀ c,o.op ≠ .defer c) (he : execOp a.eval o = do s;pure .skip) (h : DoesU P Z ρ H w s H') : OpMeets P rb o a w Z ρ H none H' := by
 intro next Q hn
 obtain ⟨w',Z',ρ',h1,h3,h4⟩ := h
 refine ⟨fun _ _ => trivial, ?_⟩
 rw [Oper.semAt_eq _ _ _ hd,he]
 simp only [Sem.run_bind,h1,Result.andThen_ok,Sem.run_pure,Oper.uponIn_skip]
 exact hn undef w' Z' ρ' rfl h3 h4
theorem op_same {rb : Option Nat} {o : Oper} {a : Act} {x : Value} {v : AV} (hs : Sim Z ρ H w) (hd : ∀ c,o.op ≠ .defer c) (he : (execOp a.eval o).run P w = .ok (.value x) w) (hr : Rep Z ρ v x) : OpMeets P rb o a w Z ρ H (some v) H := by
 intro next Q hn
 refine ⟨fun _ _ => trivial, ?_⟩
 rw [Oper.semAt_eq _ _ _ hd,he]
 simp only [Oper.uponIn_value]
 exact hn x w Z ρ hr hs (.refl _ _ _ _)
theorem optRep_map {A : AAct} {a : Act} (h : SimA Z ρ A a) {b : Option Operand} {r : Option AV} (hb : (match b with | none => some none | some y => (A.eval y).map some : Option (Option AV)) = some r) : OptRep Z ρ r (b.map a.eval) := by
 cases b with
 | none => simp at hb;subst hb;trivial
 | some y =>
  simp at hb
  obtain ⟨v,h1,rfl⟩ := hb
  exact h.eval h1
theorem opA_plain {C : Cfg} {rec : Task → Option Out} {me : FuncId} {rb : Option Nat} {o : Oper} {A : AAct} {a : Act} {H' : Heap} {slot : Nat} {r : Option AV} (hs : Sim Z ρ H w) (ha : SimA Z ρ A a) (hf : Free H slot) (hc : ∀ c,o.op ≠ .call c)
  (h : opA C rec me o A H slot = some (r,H')) : OpMeets C.P rb o a w Z ρ H r H' := by
 unfold opA at h
 cases ho : o.op <;> rw [ho] at h <;> simp only [] at h
 case move x =>
  simp only [Option.map_eq_some_iff,Prod.mk.injEq] at h
  obtain ⟨v,hv,rfl,rfl⟩ := h
  exact op_same hs (by rw [ho];intro c hc;cases hc) (x := a.eval x) (by simp [execOp,ho]) (ha.eval hv)
 case assign x =>
  simp only [Option.map_eq_some_iff,Prod.mk.injEq] at h
  obtain ⟨v,hv,rfl,rfl⟩ := h
  exact op_same hs (by rw [ho];intro c hc;cases hc) (x := a.eval x) (by simp [execOp,ho]) (ha.eval hv)
 case pick c x y =>
  split at h
  ·rename_i b hb
   simp only [Option.map_eq_some_iff,Prod.mk.injEq] at h
   obtain ⟨v,hv,rfl,rfl⟩ := h
   have hcb := (ha.eval hb).v_inv.1
   refine op_same hs (by rw [ho];intro c hc;cases hc) (x := if b then a.eval x else a.eval y) (by simp [execOp,ho,hcb,asBool]) ?_
   cases b <;> exact ha.eval hv
  ·cases h
 case alloc e =>
  split at h
  ·rename_i z hz
   split at h
   ·cases h
   ·rename_i hfl
    simp at h;obtain ⟨rfl,rfl⟩ := h
    exact op_value (by rw [ho];intro c hc;cases hc) (by simp [execOp,ho]) (alloc_does hs hf hz (by cases hx : z.cells.all AV.flat <;> simp_all))
  ·cases h
 case box e x =>
  split at h
  ·rename_i v hv
   split at h
   ·cases h
   ·rename_i hfl
    simp at h;obtain ⟨rfl,rfl⟩ := h
    exact op_value (by rw [ho];intro c hc;cases hc) (by simp [execOp,ho]) (box_does hs hf (ha.eval hv) (by cases hx : v.cells.all AV.flat <;> simp_all))
  ·cases h
 case build t ps =>
  split at h
  ·rename_i l hl
   simp only [Option.map_eq_some_iff,Prod.mk.injEq] at h
   obtain ⟨v,hv,rfl,rfl⟩ := h
   refine op_value (by rw [ho];intro c hc;cases hc) (by simp only [execOp,ho]) (build_does (vals := ps.map fun p => (p.1,a.eval p.2)) hs ?_ hv)
   simpa using ha.parts hl
  ·cases h
 case buildSlice t n ps =>
  split at h
  ·rename_i l hl
   simp only [Option.map_eq_some_iff,Prod.mk.injEq] at h
   obtain ⟨v,hv,rfl,rfl⟩ := h
   refine op_value (by rw [ho];intro c hc;cases hc) (by simp only [execOp,ho]) (buildSlice_does (vals := ps.map fun p => (p.1,a.eval p.2)) hs hf ?_ hv)
   simpa using ha.parts hl
  ·cases h
 case load t x =>
  split at h
  ·rename_i p hp
   simp only [Option.map_eq_some_iff,Prod.mk.injEq] at h
   obtain ⟨v,hv,rfl,rfl⟩ := h
   exact op_value (by rw [ho];intro c hc;cases hc) (by simp only [execOp,ho]) (load_does hs (ha.eval hp) hv)
  ·cases h
 case store t x y =>
  split at h
  ·rename_i p v hp hv
   simp only [Option.map_eq_some_iff,Prod.mk.injEq] at h
   obtain ⟨H1,h1,rfl,rfl⟩ := h
   exact op_unit (by rw [ho];intro c hc;cases hc) (by simp only [execOp,ho]) (store_does hs (ha.eval hp) (ha.eval hv) h1)
  ·cases h
 case nilCheck x =>
  split at h <;> rename_i hx <;> simp at h <;> (try (obtain ⟨rfl,rfl⟩ := h))
  all_goals (
   have hr := ha.eval hx
   have hr2 := hr
   generalize hu : a.eval x = u at hr hr2
   refine op_same hs (by rw [ho];intro c hc;cases hc) (x := u) ?_ hr
   cases hr2
   simp [execOp,ho,hu])
 case binOp op t x y p =>
  split at h
  ·rename_i u v hu hv
   simp only [Option.map_eq_some_iff,Prod.mk.injEq] at h
   obtain ⟨v,hv',rfl,rfl⟩ := h
   exact op_value (by rw [ho];intro c hc;cases hc) (by simp only [execOp,ho]) (bin_does hs (ha.eval hu) (ha.eval hv) hv')
  ·cases h
 case unOp op t x =>
  split at h
  ·rename_i u hu
   simp only [Option.map_eq_some_iff,Prod.mk.injEq] at h
   obtain ⟨v,hv,rfl,rfl⟩ := h
   obtain ⟨y,h1,rfl,h3⟩ := atomA_some hv
   have := (ha.eval hu).v_inv.1
   exact op_same hs (by rw [ho];intro c hc;cases hc) (x := y) (by simp [execOp,ho,this,runPure_run h1 w]) (.v h3)
  ·cases h
 case convert src dst x =>
  split at h
  ·rename_i k n hu
   simp only [Option.map_eq_some_iff,Prod.mk.injEq] at h
   obtain ⟨v,hv,rfl,rfl⟩ := h
   obtain ⟨y,h1,rfl,h3⟩ := atomA_some hv
   have := (ha.eval hu).v_inv.1
   exact op_same hs (by rw [ho];intro c hc;cases hc) (x := y) (by simp [execOp,ho,this,runPure_run h1 w]) (.v h3)
  ·rename_i s hu
   split at h
   ·rename_i d hsrc hdst
    simp at h;obtain ⟨rfl,rfl⟩ := h
    have := (ha.eval hu).v_inv.1
    exact op_same hs (by rw [ho];intro c hc;cases hc) (x := .string s) (by simp [execOp,ho,this,convert,underlying_run hsrc,underlying_run hdst]) (.v rfl)
   ·cases h
  ·rename_i sz xs cap hu
   split at h
   ·rename_i e hsrc hdst
    split at h
    ·rename_i b l he hb
     simp at h;obtain ⟨rfl,rfl⟩ := h
     obtain ⟨q,c,hq,hld⟩ := vsBytes (P := C.P) hs (ha.eval hu) hb
     rw [List.length_cons] at hq hld
     exact op_same hs (by rw [ho];intro c hc;cases hc) (x := .string ⟨(b :: l).toArray⟩) (by simp [execOp,ho,hq,convert,underlying_run hsrc,underlying_run hdst,underlying_run he,hld]) (.v rfl)
    ·cases h
   ·cases h
  ·cases h
 case makeInterface t x =>
  split at h
  ·cases h
  ·rename_i v d hnot hv hd
   simp at h;obtain ⟨rfl,rfl⟩ := h
   refine op_same hs (by rw [ho];intro c hc;cases hc) (x := .iface t (a.eval x)) ?_ (.ifc (ha.eval hv))
   cases d <;> first | (exact absurd rfl (hnot _)) | simp [execOp,ho,Instr.makeInterface,underlying_run hd]
  ·cases h
 case makeFunc f s t =>
  split at h
  ·rename_i us vs h1 h2
   split at h
   ·rename_i hn
    simp at h;obtain ⟨rfl,rfl⟩ := h
    have e1 := ha.evals h1
    have e2 := ha.evals h2
    cases f <;> simp [isNormalFn] at hn
    rename_i f
    refine op_same hs (by rw [ho];intro c hc;cases hc) (x := .func (.func f) (s.map a.eval) (t.map a.eval)) (by simp [execOp,ho,Instr.makeFunc]) ?_
    have := Rep.fn (f := f) e1.1 e2.1 e1.2 e2.2
    rwa [show (s.toList.map a.eval).toArray = s.map a.eval from by rw [← Array.toList_map],show (t.toList.map a.eval).toArray = t.map a.eval from by rw [← Array.toList_map]] at this
   ·cases h
  ·cases h
 case makeMap t r =>
  cases r with
  | some y => cases h
  | none =>
   simp at h;obtain ⟨rfl,rfl⟩ := h
   exact op_value (by rw [ho];intro c hc;cases hc) (by simp [execOp,ho]) (makeMap_does hs hf t)
 case makeSlice t l c =>
  split at h
  ·rename_i u v h1 h2
   simp only [Option.map_eq_some_iff,Prod.mk.injEq] at h
   obtain ⟨v,hv,rfl,rfl⟩ := h
   exact op_value (by rw [ho];intro c hc;cases hc) (by simp only [execOp,ho]) (makeSlice_does hs hf (ha.eval h1) (ha.eval h2) hv)
  ·cases h
 case slice t x lo hi mx =>
  split at h
  ·rename_i v l u m h1 h2 h3 h4
   simp only [Option.map_eq_some_iff,Prod.mk.injEq] at h
   obtain ⟨v,hv,rfl,rfl⟩ := h
   exact op_value (by rw [ho];intro c hc;cases hc) (by simp only [execOp,ho]) (slice_does hs (ha.eval h1) (optRep_map ha h2) (optRep_map ha h3) (optRep_map ha h4) hv)
  ·cases h
 case fieldAddr s x i =>
  split at h
  ·rename_i p hp
   simp only [Option.map_eq_some_iff,Prod.mk.injEq] at h
   obtain ⟨v,hv,rfl,rfl⟩ := h
   exact op_value (by rw [ho];intro c hc;cases hc) (by simp only [execOp,ho]) (fieldAddr_does hs (ha.eval hp) hv)
  ·cases h
 case field s x i =>
  split at h
  ·rename_i p hp
   simp only [Option.map_eq_some_iff,Prod.mk.injEq] at h
   obtain ⟨v,hv,rfl,rfl⟩ := h
   exact op_value (by rw [ho];intro c hc;cases hc) (by simp only [execOp,ho]) (field_does hs (ha.eval hp) hv)
  ·cases h
 case indexAddr t x i =>
  split at h
  ·rename_i p q hp hq
   simp only [Option.map_eq_some_iff,Prod.mk.injEq] at h
   obtain ⟨v,hv,rfl,rfl⟩ := h
   exact op_value (by rw [ho];intro c hc;cases hc) (by simp only [execOp,ho]) (indexAddr_does hs (ha.eval hp) (ha.eval hq) hv)
  ·cases h
 case index t x i =>
  split at h
  ·rename_i p q hp hq
   simp only [Option.map_eq_some_iff,Prod.mk.injEq] at h
   obtain ⟨v,hv,rfl,rfl⟩ := h
   exact op_value (by rw [ho];intro c hc;cases hc) (by simp only [execOp,ho]) (index_does hs (ha.eval hp) (ha.eval hq) hv)
  ·cases h
 case lookup t m k ok =>
  split at h
  ·rename_i p q hp hq
   simp only [Option.map_eq_some_iff,Prod.mk.injEq] at h
   obtain ⟨v,hv,rfl,rfl⟩ := h
   exact op_value (by rw [ho];intro c hc;cases hc) (by simp only [execOp,ho]) (lookup_does hs (ha.eval hp) (ha.eval hq) hv)
  ·cases h
 case mapUpdate t m k v =>
  split at h
  ·rename_i p q r hp hq hr
   simp only [Option.map_eq_some_iff,Prod.mk.injEq] at h
   obtain ⟨v,hv,rfl,rfl⟩ := h
   exact op_unit (by rw [ho];intro c hc;cases hc) (by simp only [execOp,ho]) (update_does hs (ha.eval hp) (ha.eval hq) (ha.eval hr) hv)
  ·cases h
 case insert t m k v =>
  split at h
  ·rename_i p q r hp hq hr
   simp only [Option.map_eq_some_iff,Prod.mk.injEq] at h
   obtain ⟨v,hv,rfl,rfl⟩ := h
   exact op_unit (by rw [ho];intro c hc;cases hc) (by simp only [execOp,ho]) (update_does hs (ha.eval hp) (ha.eval hq) (ha.eval hr) hv)
  ·cases h
 case extract x i =>
  split at h
  ·rename_i cs hx
   simp only [Option.map_eq_some_iff,Prod.mk.injEq] at h
   obtain ⟨v,hv,rfl,rfl⟩ := h
   obtain ⟨vs,he,hl⟩ := (ha.eval hx).tup_inv
   obtain ⟨y,h1,h2⟩ := hl.get hv
   exact op_same hs (by rw [ho];intro c hc;cases hc) (x := y) (by simp [execOp,ho,he,Instr.extract,h1]) h2
  ·cases h
 case range t x =>
  split at h
  ·rename_i m hm
   simp only [Option.map_eq_some_iff,Prod.mk.injEq] at h
   obtain ⟨⟨v,H2⟩,hv,rfl,rfl⟩ := h
   exact op_value (by rw [ho];intro c hc;cases hc) (by simp only [execOp,ho]) (range_does hs hf (ha.eval hm) hv)
  ·cases h
 case next x s =>
  split at h
  ·rename_i it hit
   simp only [Option.map_eq_some_iff,Prod.mk.injEq] at h
   obtain ⟨⟨v,H2⟩,hv,rfl,rfl⟩ := h
   exact op_value (by rw [ho];intro c hc;cases hc) (by simp only [execOp,ho]) (next_does (ty := o.type) hs (ha.eval hit) hv)
  ·rename_i it hit
   simp only [Option.map_eq_some_iff,Prod.mk.injEq] at h
   obtain ⟨⟨v,H2⟩,hv,rfl,rfl⟩ := h
   exact op_value (by rw [ho];intro c hc;cases hc) (by simp only [execOp,ho]) (nextS_does (ty := o.type) hs (ha.eval hit) hv)
  ·cases h
 case entry x =>
  split at h
  ·rename_i it hit
   simp only [Option.map_eq_some_iff,Prod.mk.injEq] at h
   obtain ⟨v,hv,rfl,rfl⟩ := h
   exact op_value (by rw [ho];intro c hc;cases hc) (by simp only [execOp,ho]) (entry_does hs (ha.eval hit) hv)
  ·cases h
 case call c => exact absurd ho (hc c)
 all_goals cases h
end Go.Ev
namespace Go.Ev
variable {P : Program} {Z : Fzn} {ρ : Pls} {H : Heap} {w : World}
theorem freeze_len (H : Heap) : ∀ n (l m : List AV),freezeL H n l = some m → m.length = l.length
 | 0,l,m,h => by simp [freezeL] at h
 | n + 1,[],m,h => by simp [freezeL] at h;subst h;rfl
 | n + 1,x :: r,m,h => by
  simp only [freezeL] at h
  split at h
  ·rename_i y ys h1 h2
   simp at h;subst h
   simp [freeze_len H n r ys h2]
  ·cases h
theorem freeze_flat1 (H : Heap) (n : Nat) (x y : AV) (h : freezeV H n x = some y) (hf : x.flat = true) : y.flat = true := by
 cases n with
 | zero => simp [freezeV] at h
 | succ n =>
  cases x <;> simp only [freezeV] at h
  case v => simp at h;subst h;rfl
  case ro => simp at h;subst h;rfl
  case vs => simp at h;subst h;rfl
  case agg => simp [AV.flat] at hf
  case tup => simp [AV.flat] at hf
  case ptr =>
   split at h
   ·simp at h;subst h;rfl
   ·split at h
    ·split at h
     ·split at h
      ·simp at h;subst h;rfl
      ·cases h
     ·cases h
    ·cases h
  case sl =>
   split at h
   ·simp at h;subst h;rfl
   ·split at h
    ·split at h
     ·split at h
      ·simp at h;subst h;rfl
      ·split at h
       ·split at h
        ·simp at h;subst h;rfl
        ·cases h
       ·cases h
     ·cases h
    ·cases h
  case mp => split at h <;> simp at h;subst h;rfl
  case yld => split at h <;> simp at h;subst h;rfl
  case fn =>
   split at h
   ·simp at h;subst h;rfl
   ·cases h
  case ifc =>
   simp at h
   obtain ⟨_,_,rfl⟩ := h
   rfl
theorem freeze_flat (H : Heap) : ∀ n (l m : List AV),freezeL H n l = some m → l.all AV.flat = true → m.all AV.flat = true
 | 0,l,m,h,_ => by simp [freezeL] at h
 | n + 1,[],m,h,_ => by simp [freezeL] at h;subst h;rfl
 | n + 1,x :: r,m,h,hf => by
  simp only [freezeL] at h
  split at h
  ·rename_i y ys h1 h2
   simp at h;subst h
   simp only [List.all_cons,Bool.and_eq_true] at hf ⊢
   exact ⟨freeze_flat1 H n x y h1 hf.1,freeze_flat H n r ys h2 hf.2⟩
  ·cases h
theorem freeze_rep {Z1 Z2 : Fzn} {ρ1 : Pls} {H1 : Heap} {w1 : World} (hs : Sim Z1 ρ1 H1 w1) (hz : leZ Z1 Z2)
  (hown : ∀ b o pl,H1.lock ≤ b → H1.get b = some o → o.live = true → ρ1 b o.ver = some pl → Z2 pl.blk = w1.heap[pl.blk]?)
  (hlk : ∀ b v p,b < H1.lock → ρ1 b v = some p → ρ b v = some p) : ∀ n,(∀ x y v,freezeV H1 n x = some y → Rep Z1 ρ1 x v → Rep Z2 ρ y v) ∧ (∀ l m vs,freezeL H1 n l = some m → RepL Z1 ρ1 l vs → RepL Z2 ρ m vs) := by
 intro n
 induction n with
 | zero => exact ⟨fun x y v h => by simp [freezeV] at h,fun l m vs h => by simp [freezeL] at h⟩
 | succ n ih =>
  obtain ⟨ihv,ihl⟩ := ih
  refine ⟨fun x y v h hr => ?_,fun l m vs h hr => ?_⟩
  ·cases x <;> simp only [freezeV] at h
   case v => simp at h;subst h;exact (hr.mono hz (.refl _)).closed rfl
   case ro => simp at h;subst h;exact (hr.mono hz (.refl _)).closed rfl
   case vs => simp at h;subst h;exact (hr.mono hz (.refl _)).closed rfl
   case agg cs =>
    simp at h
    obtain ⟨ds,h1,rfl⟩ := h
    obtain ⟨vs,rfl,hl⟩ := hr.agg_inv
    exact (ihl _ _ _ h1 hl).agg
   case tup cs =>
    simp at h
    obtain ⟨ds,h1,rfl⟩ := h
    obtain ⟨vs,rfl,hl⟩ := hr.tup_inv
    exact (ihl _ _ _ h1 hl).tup
   case ptr b ver k =>
    cases hr with
    | ptr hp =>
    split at h
    ·rename_i hb
     simp at h;subst h
     exact .ptr (hlk _ _ _ hb hp)
    ·rename_i hb
     split at h
     ·rename_i m e sz g cs hrow
      split at h
      ·rename_i cs' hcs
       split at h
       ·rename_i hbd
        simp at h;subst h
        obtain ⟨pl,arr,e',h1,h2,h3,h3b,h3c,h4,pre,vs,post,h5,h6,h7,h7b,h8⟩ := hs.row hrow
        have hple := Option.some.inj (h1.symm.trans hp);subst hple
        have hZ := hown b _ pl (Nat.le_of_not_lt hb) (Heap.row_get hrow) rfl h1
        rw [h2] at hZ
        have hl := (ihl _ _ _ hcs h8).closed (ρ' := noPls) hbd
        rw [← h6]
        exact .ro (x := .agg cs') hZ h5 hl.1 hl.2
       ·cases h
      ·cases h
     ·cases h
   case sl b ver off len cap =>
    cases hr with
    | sl hp hc hn hle =>
    rename_i c plx
    split at h
    ·rename_i hb
     simp at h;subst h
     exact .sl (hlk _ _ _ hb hp) hc hn hle
    ·rename_i hb
     split at h
     ·rename_i m e sz g cs hrow
      split at h
      ·rename_i hcond
       obtain ⟨hin,hsz⟩ := hcond
       obtain ⟨pl,arr,e',h1,h2,h3,h3b,h3c,h4,pre,vs,post,h5,h6,h7,h7b,h8⟩ := hs.row hrow
       have hple := Option.some.inj (h1.symm.trans hp);subst hple
       have hZ := hown b _ pl (Nat.le_of_not_lt hb) (Heap.row_get hrow) rfl h1
       rw [h2] at hZ
       have hvl := h8.1
       -- the cells in question
       have fin : ∀ ds : List AV,RepL Z2 noPls ds ((vs.drop off).take (len * sz)) → ds.length = len * sz → ds.all AV.flat = true → Rep Z2 ρ (.vs sz (chunk sz len ds) none) (.slice (some ⟨pl.blk,pl.base + off,none⟩) len c) := by
        intro ds hds hdl hdf
        obtain ⟨g1,g2,g3⟩ := chunk_flat hsz hdl hdf
        have hA : arr.toList = (pre ++ vs.take off) ++ (vs.drop off).take (len * sz) ++ ((vs.drop off).drop (len * sz) ++ post) := by
         rw [h5,List.append_assoc (pre ++ vs.take off),← List.append_assoc _ _ post,List.take_append_drop,List.append_assoc pre vs post,List.append_assoc pre (vs.take off),← List.append_assoc (vs.take off),List.take_append_drop]
        have hlen : (pre ++ vs.take off).length = pl.base + off := by simp;omega
        have := Rep.vs (ρ := ρ) (Z := Z2) (sz := sz) (xs := chunk sz len ds) (cap := none) hZ hA g3 (by rw [g1];exact hds.1) (by rw [g1];exact hds.2) (fun k hk => by cases hk) (by rw [g2];exact hle)
        rw [g2,hlen] at this
        exact this
       split at h
       ·rename_i hm
        simp at h;subst h
        have hcl : boundL cs = 0 := by omega
        refine fin _ (((h8.drop off).take _).closed ?_ |>.mono hz (.refl _)) (by simp;omega) ?_
        ·exact Nat.le_zero.1 (boundL_le.2 fun x hx => Nat.le_trans (boundL_le.1 (Nat.le_of_eq hcl) x (List.mem_of_mem_drop (List.mem_of_mem_take hx))) (Nat.le_refl _))
        ·exact List.all_eq_true.2 fun x hx => List.all_eq_true.1 h3c x (List.mem_of_mem_drop (List.mem_of_mem_take hx))
       ·split at h
        ·rename_i cs' hcs
         split at h
         ·rename_i hbd
          simp at h;subst h
          refine fin _ ((ihl _ _ _ hcs ((h8.drop off).take _)).closed hbd) ?_ (freeze_flat _ _ _ _ hcs ?_)
          ·rw [freeze_len _ _ _ _ hcs];simp;omega
          ·exact List.all_eq_true.2 fun x hx => List.all_eq_true.1 h3c x (List.mem_of_mem_drop (List.mem_of_mem_take hx))
         ·cases h
        ·cases h
      ·cases h
     ·cases h
   case mp b =>
    split at h
    ·rename_i hb
     simp at h;subst h
     cases hr with | mp hp => exact .mp (hlk _ _ _ hb hp)
    ·cases h
   case yld b =>
    split at h
    ·rename_i hb
     simp at h;subst h
     cases hr with | yld hp => exact .yld (hlk _ _ _ hb hp)
    ·cases h
   case fn f us vs =>
    split at h
    ·rename_i as bs h1 h2
     simp at h;subst h
     cases hr with
     | fn l1 l2 ha hb =>
      have q1 := ihl _ _ _ h1 ⟨l1,ha⟩
      have q2 := ihl _ _ _ h2 ⟨l2,hb⟩
      exact .fn q1.1 q2.1 q1.2 q2.2
    ·cases h
   case ifc t x =>
    simp at h
    obtain ⟨y,h1,rfl⟩ := h
    cases hr with
    | ifc hx => exact .ifc (ihv _ _ _ h1 hx)
  ·cases l with
   | nil => simp [freezeL] at h;subst h;exact ⟨hr.1,fun i c v h => by simp at h⟩
   | cons x r =>
    simp only [freezeL] at h
    split at h
    ·rename_i y ys h1 h2
     simp at h;subst h
     obtain ⟨u,us,rfl,hu,hus⟩ := hr.uncons
     exact .cons (ihv _ _ _ h1 hu) (ihl _ _ _ h2 hus)
    ·cases h
theorem thaw (hs : Sim Z ρ H w) {ρe : Pls} {He : Heap} (hno : ∀ k,¬ Own ρe He k) {Z1 : Fzn} {ρ1 : Pls} {H1 : Heap} {w1 : World} (hs1 : Sim Z1 ρ1 H1 w1) (he : Ext Z ρe He w Z1 ρ1 H1 w1)
  (hpe : ∀ b v p,b < He.lock → ρe b v = some p → ρ b v = some p) {n : Nat} {v v' : AV} {x : Value} (hr : Rep Z1 ρ1 v x) (hf : freezeV { H1 with lock := He.lock } n v = some v') :
  ∃ Z2,Rep Z2 ρ v' x ∧ Sim Z2 ρ H w1 ∧ Ext Z ρ H w Z2 ρ H w1 := by
 have hH : ({ H1 with lock := He.lock } : Heap) = H1 := by rw [← he.lock]
 rw [hH] at hf
 let Z2 : Fzn := fun k => if k < w.heap.size then Z k else w1.heap[k]?
 have hzk : ∀ k o,Z k = some o → k < w.heap.size := fun k o hk => (Array.getElem?_eq_some_iff.1 (hs.zok k o hk)).1
 have z02 : leZ Z Z2 := fun k o hk => by simp only [Z2,hzk k o hk,if_true];exact hk
 have z12 : leZ Z1 Z2 := fun k o hk => by
  simp only [Z2]
  split
  ·rename_i hlt;rw [← he.zf k hlt (hno k)];exact hk
  ·exact hs1.zok k o hk
 have hsame : ∀ k,k < w.heap.size → w1.heap[k]? = w.heap[k]? := fun k hk => he.frame k hk (hno k)
 refine ⟨Z2,(freeze_rep hs1 z12 (fun b o pl hb ho hl hp => ?_) (fun b u p hb hp => ?_) n).1 v v' x hf hr,⟨fun b o hb hl => ?_,hs.inj,fun k o hk => ?_,hs.fresh,hs.lk,hs.lg.mono z02⟩, ?_⟩
 ·have hge : ¬ pl.blk < w.heap.size := fun hlt => hno _ (he.own _ hlt ⟨b,o,pl,hb,ho,hl,hp,rfl⟩)
  simp only [Z2,if_neg hge]
 ·rw [he.lock] at hb
  exact hpe b u p hb (by rw [← he.pold b hb u];exact hp)
 ·obtain ⟨pl,obj,h1,h2,h3,h4⟩ := hs.objs b o hb hl
  have hlt := (Array.getElem?_eq_some_iff.1 h2).1
  exact ⟨pl,obj,h1,(hsame _ hlt).trans h2,h3.mono z02 (.refl _),by simp only [Z2,hlt,if_true];exact h4⟩
 ·simp only [Z2] at hk
  split at hk
  ·rename_i hlt;exact (hsame _ hlt).trans (hs.zok k o hk)
  ·exact hk
 ·exact ⟨z02,.refl _,fun k hk _ => hsame k hk,fun _ _ h => h,he.size,he.os,he.output,he.tape,he.drawn,fun a ha _ => frozen_same (hsame _ ha),rfl,fun _ _ => rfl,Nat.le_refl _,fun k hk _ => by simp only [Z2,hk,if_true],fun _ _ _ => rfl,fun _ _ h _ => ⟨h,fun _ => rfl⟩⟩
theorem boundsOk_get {n : Nat} : ∀ {l : List (Option AObj)},boundsOk n l = true → ∀ {i : Nat} {o : AObj},l[i]? = some (some o) → o.bound ≤ n
 | [],_,i,o,h => by simp at h
 | none :: r,hb,i,o,h => by
  cases i with
  | zero => simp at h
  | succ i => exact boundsOk_get (l := r) hb (by simpa using h)
 | some x :: r,hb,i,o,h => by
  simp only [boundsOk,Bool.and_eq_true] at hb
  cases i with
  | zero => simp at h;subst h;exact Nat.le_of_ble_eq_true hb.1
  | succ i => exact boundsOk_get hb.2 (by simpa using h)
theorem RepO.upto {n : Nat} {ρ' : Pls} {o : AObj} {pl : Pl} {obj : Obj} (h : RepO Z ρ o pl obj) (hb : o.bound ≤ n) (hp : ∀ b v p,b < n → ρ b v = some p → ρ' b v = some p) : RepO Z ρ' o pl obj := by
 cases o <;> cases obj <;> simp only [RepO,AObj.bound] at h hb ⊢
 ·obtain ⟨h1,h2,h3,hf,pre,vs,post,h4,h5,h6,h7,h8⟩ := h
  exact ⟨h1,h2,h3,hf,pre,vs,post,h4,h5,h6,h7,h8.upto (Nat.le_trans h3 hb) hp⟩
 ·obtain ⟨h1,h2,h3,h4⟩ := h
  exact ⟨h1,h2,h3,fun i k v m e he he' => by
   obtain ⟨a,b,c⟩ := h4 i k v m e he he'
   have := h2 _ (List.mem_of_getElem? he)
   exact ⟨a.closed this.1,b.upto (Nat.le_trans this.2 hb) hp,c⟩⟩
 ·obtain ⟨h1,h2,h3,h4,h5,h6,h7,pd,h8,h9⟩ := h
  have hb1 := Nat.le_trans (Nat.le_max_left _ _) hb
  have hb2 := Nat.le_trans (Nat.le_max_right _ _) hb
  refine ⟨h1,h2,h3,h4,h5,h6,fun t v ht => ?_,pd,hp _ _ _ hb1 h8,h9⟩
  obtain ⟨x,a,b⟩ := h7 t v ht
  refine ⟨x,a,b.upto (boundL_le.1 hb2 v ?_) hp⟩
  have : ∀ l : List (Tmp × AV),assoc t l = some v → v ∈ l.map (·.2) := by
   intro l
   induction l with
   | nil => intro h;simp [assoc] at h
   | cons x r ih =>
    obtain ⟨k,y⟩ := x
    intro h
    simp only [assoc] at h
    split at h
    ·simp at h;subst h;simp
    ·simp only [List.map_cons,List.mem_cons];exact .inr (ih h)
  exact this _ ht
 ·rename_i o _ _ _
  cases o with
  | none => exact False.elim h
  | some k =>
   obtain ⟨h1,h2,h3,h4,pm,h5,h6⟩ := h
   exact ⟨h1,h2,h3,h4,pm,hp _ _ _ hb h5,h6⟩
 ·exact h
 ·exact h
theorem trim_sim (hs : Sim Z ρ H w) {Z' : Fzn} {ρ' : Pls} {H' : Heap} {w' : World} (hs' : Sim Z' ρ' H' w') (he : Ext Z ρ H w Z' ρ' H' w') (vs : List AV) (marks : List Nat) :
  ∃ ρ'',Sim Z' ρ'' (H'.trim H.size vs marks) w' ∧ Ext Z ρ H w Z' ρ'' (H'.trim H.size vs marks) w' ∧ (∀ v ∈ vs,∀ x,Rep Z' ρ' v x → Rep Z' ρ'' v x) ∧ (∀ m ∈ marks,∀ u,ρ'' m u = ρ' m u) ∧ (∀ m ∈ marks,(H'.trim H.size vs marks).get m = H'.get m) := by
 unfold Heap.trim
 split
 ·rename_i hc
  simp only [Bool.and_eq_true] at hc
  obtain ⟨⟨⟨hv,hm⟩,hb⟩,hl⟩ := hc
  have hv := Nat.le_of_ble_eq_true hv
  have hl := Nat.le_of_ble_eq_true hl
  let ρ'' : Pls := fun b u => if b < H.size then ρ' b u else none
  have hup : ∀ b u p,b < H.size → ρ' b u = some p → ρ'' b u = some p := fun b u p hb hp => by simp only [ρ'',hb,if_true];exact hp
  have hdn : ∀ b u p,ρ'' b u = some p → b < H.size ∧ ρ' b u = some p := fun b u p hp => by
   simp only [ρ''] at hp
   split at hp
   ·exact ⟨by assumption,hp⟩
   ·cases hp
  have hget : ∀ b,b < H.size → ({ H' with objs := H'.objs.take H.size } : Heap).get b = H'.get b := fun b hb => by
   simp [Heap.get,hb]
  have hget' : ∀ b o,({ H' with objs := H'.objs.take H.size } : Heap).get b = some o → b < H.size ∧ H'.get b = some o := fun b o ho => by
   by_cases hb : b < H.size
   ·exact ⟨hb,by rw [← hget b hb];exact ho⟩
   ·simp [Heap.get,List.getElem?_take,hb] at ho
  have hbd : ∀ b o,b < H.size → H'.get b = some o → o.bound ≤ H.size := fun b o hb' ho => by
   refine boundsOk_get hb (i := b) ?_
   simp only [Heap.get] at ho
   rw [List.getElem?_take,if_pos hb']
   cases hx : H'.objs[b]? with
   | none => simp [hx] at ho
   | some y => simp [hx] at ho;rw [ho]
  refine ⟨ρ'',⟨fun b o ho hlv => ?_,fun b b' o o' pl pl' ho hlv ho' hlv' hp hp' e => ?_,hs'.zok,fun b v pl hp => ?_, ?_,hs'.lg⟩,⟨he.z,fun b v p hp => ?_,he.frame,fun k hk ho => ?_,he.size,he.os,he.output,he.tape,he.drawn,he.fz,he.lock,fun b hb' => ?_, ?_,he.zf,fun b hb' v => ?_,fun b o hb' ho => ?_⟩,fun v hv' x hr => hr.upto (boundL_le.1 hv v hv') hup,fun m hm' u => ?_,fun m hm' => ?_⟩
  ·obtain ⟨hb',ho⟩ := hget' b o ho
   obtain ⟨pl,obj,h1,h2,h3,h4⟩ := hs'.objs b o ho hlv
   exact ⟨pl,obj,hup _ _ _ hb' h1,h2,h3.upto (hbd b o hb' ho) hup,h4⟩
  ·exact hs'.inj b b' o o' pl pl' (hget' b o ho).2 hlv (hget' b' o' ho').2 hlv' (hdn _ _ _ hp).2 (hdn _ _ _ hp').2 e
  ·obtain ⟨hb',hp⟩ := hdn _ _ _ hp
   rw [hget b hb']
   exact hs'.fresh b v pl hp
  ·have := he.hsz
   simp only [Heap.size,List.length_take] at this ⊢
   exact Nat.le_min.2 ⟨hl,Nat.le_trans hl this⟩
  ·obtain ⟨o,ho, -⟩ := hs.fresh b v p hp
   exact hup _ _ _ (Heap.get_lt ho) (he.p _ _ _ hp)
  ·obtain ⟨b,o,pl,hlk,ho,hlv,hp,e⟩ := ho
   exact he.own k hk ⟨b,o,pl,hlk,(hget' b o ho).2,hlv,(hdn _ _ _ hp).2,e⟩
  ·rw [hget b (by rw [he.lock] at hl;omega)]
   exact he.old b hb'
  ·have := he.hsz
   simp only [Heap.size,List.length_take] at this ⊢
   exact Nat.le_min.2 ⟨Nat.le_refl _,this⟩
  ·have : b < H.size := by rw [he.lock] at hl;omega
   simp only [ρ'',this,if_true]
   exact he.pold b hb' v
  ·have hlt := Heap.get_lt hb'
   obtain ⟨g1,g2⟩ := he.dd b o hb' ho
   exact ⟨by rw [hget b hlt];exact g1,fun v => by simp only [ρ'',hlt,if_true];exact g2 v⟩
  ·have := List.all_eq_true.1 hm m hm'
   simp [Nat.blt_eq] at this
   simp only [ρ'',this,if_true]
  ·have := List.all_eq_true.1 hm m hm'
   simp [Nat.blt_eq] at this
   exact hget m this
 ·exact ⟨ρ',hs',he,fun _ _ _ h => h,fun _ _ _ => rfl,fun _ _ => rfl⟩
end Go.Ev
namespace Go.Ev
variable {P : Program} {Z : Fzn} {ρ : Pls} {H : Heap} {w : World}
def After (Z : Fzn) (ρ : Pls) (H : Heap) (w : World) (v : AV) (H' : Heap) (x : Value) (w' : World) : Prop :=
 ∃ Z' ρ',Rep Z' ρ' v x ∧ Sim Z' ρ' H' w' ∧ Ext Z ρ H w Z' ρ' H' w'
def HasBody (P : Program) (f : FuncId) : Prop := ∃ fn,P.funcs[f]? = some fn ∧ fn.body.isSome = true ∧ (fn.name == "runtime.NumGoroutine") = false
theorem HasBody.run {f : FuncId} (h : HasBody P f) (args : Array Value) (w : World) : (callFunc f args).run P w = .ok (.enter f args) w := by
 obtain ⟨fn,h1,h2,h3⟩ := h
 have hne : fn.name ≠ "runtime.NumGoroutine" := by simpa using h3
 have hb : fn.body ≠ none := by cases hb : fn.body <;> simp_all
 simp [callFunc,h1,hne,hb]
def MeetsCall (P : Program) (f : FuncId) (args : List AV) (H : Heap) (v : AV) (H' : Heap) : Prop :=
 HasBody P f ∧ ∀ (Z : Fzn) (ρ : Pls) (w : World) (vals : List Value),Sim Z ρ H w → RepL Z ρ args vals →
  Calls P f vals.toArray w fun e w' => ∃ x,e = .returned x ∧ After Z ρ H w v H' x w'
def MeetsRound (P : Program) (b : Nat) (args : List AV) (H : Heap) (v : AV) (H' : Heap) : Prop :=
 ∀ (Z : Fzn) (ρ : Pls) (w : World) (vals : List Value) (pl : Pl),Sim Z ρ H w → RepL Z ρ args vals → ρ b 0 = some pl →
  ∃ f tmps assign body,(Instr.yield pl.blk vals.toArray).run P w = .ok (.round pl.blk f tmps assign body) w ∧
   RoundIn Fence.wide 0 P pl.blk f tmps assign body w fun e w' => ∃ x,e = .returned x ∧ After Z ρ H w v H' x w'
structure RecOK (P : Program) (rec : Task → Option Out) : Prop where
 call : ∀ f args H v H',rec (.call f args H) = some (.ret v H') → MeetsCall P f args H v H'
 round : ∀ b args H v H',rec (.round b args H) = some (.ret v H') → MeetsRound P b args H v H'
def FnMeets (P : Program) (f : FuncId) (vals : List Value) (w : World) (R : Value → World → Prop) : Prop :=
 (∃ x w',(callFunc f vals.toArray).run P w = .ok (.value x) w' ∧ R x w') ∨
 ((callFunc f vals.toArray).run P w = .ok (.enter f vals.toArray) w ∧ Calls P f vals.toArray w fun e w' => ∃ x,e = .returned x ∧ R x w')
structure ExtOK (C : Cfg) : Prop where
 ext : ∀ f g,C.ext f = some g → ∀ args v,g args = some v → ∀ (Z : Fzn) (ρ : Pls) (H : Heap) (w : World) (vals : List Value),Sim Z ρ H w → RepL Z ρ args vals →
  FnMeets C.P f vals w (After Z ρ H w v H)
 lay : ∀ f g,C.lay f = some g → ∀ args H v H',g args H = some (v,H') → MeetsCall C.P f args H v H'
 exh : ∀ f g,C.exh f = some g → ∀ args v H,g args H = some v → ∀ (Z : Fzn) (ρ : Pls) (w : World) (vals : List Value),Sim Z ρ H w → RepL Z ρ args vals →
  FnMeets C.P f vals w (After Z ρ H w v H)
theorem Calls.mono' {f : FuncId} {args : Array Value} {R R' : Ending → World → Prop} (h : Calls P f args w R) (hr : ∀ e w',R e w' → R' e w') : Calls P f args w R' :=
 callsIn_wide.1 ((callsIn_wide.2 h : CallsIn Fence.wide 0 P f args w R).mono hr)
theorem callB_sound {C : Cfg} {rec : Task → Option Out} (hrec : RecOK C.P rec) {me f : FuncId} {dst : Option Tmp} {args : List AV} {vals : List Value} {v : AV} {H' : Heap} (hs : Sim Z ρ H w) (hl : RepL Z ρ args vals)
  (h : callB C rec me f dst args H = some (v,H')) : HasBody C.P f ∧ Calls C.P f vals.toArray w fun e w' => ∃ x,e = .returned x ∧ After Z ρ H w v H' x w' := by
 unfold callB at h
 split at h
 ·rename_i hk
  split at h
  ·rename_i v1 H1 h1
   simp only [Option.map_eq_some_iff,Prod.mk.injEq] at h
   obtain ⟨v2,h2,rfl,rfl⟩ := h
   have hb : boundL args = 0 := by
    unfold callKind at hk
    split at hk
    ·split at hk
     ·rename_i hb;exact Nat.eq_of_beq_eq_true hb
     ·split at hk <;> cases hk
    ·cases hk
   obtain ⟨hbody,hm⟩ := hrec.call _ _ _ _ _ h1
   have hse : Sim Z noPls { objs := [],lock := 0 } w := ⟨fun b o ho => by simp [Heap.get] at ho,fun b b' o o' pl pl' ho => by simp [Heap.get] at ho,hs.zok,fun b v pl hp => by simp [noPls] at hp,Nat.le_refl _,hs.lg⟩
   refine ⟨hbody,Calls.mono' (hm Z noPls w vals hse (hl.closed hb)) fun e w' he => ?_⟩
   obtain ⟨x,rfl,Z',ρ',q1,q2,q3⟩ := he
   obtain ⟨Z2,g1,g2,g3⟩ := thaw hs (ρe := noPls) (He := { objs := [],lock := 0 }) (fun k hk => by
    obtain ⟨b,o,pl,hlk,ho, -⟩ := hk
    simp [Heap.get] at ho) q2 q3 (fun b v p hb => by cases hb) q1 h2
   exact ⟨x,rfl,Z2,ρ,g1,g2,g3⟩
  ·cases h
 ·rename_i hk
  split at h
  ·rename_i v1 H1 h1
   simp only [Option.map_eq_some_iff,Prod.mk.injEq] at h
   obtain ⟨v2,h2,rfl,rfl⟩ := h
   obtain ⟨hbody,hm⟩ := hrec.call _ _ _ _ _ h1
   have hse : Sim Z ρ { H with lock := H.size } w := ⟨hs.objs,hs.inj,hs.zok,hs.fresh,Nat.le_refl _,hs.lg⟩
   refine ⟨hbody,Calls.mono' (hm Z ρ w vals hse hl) fun e w' he => ?_⟩
   obtain ⟨x,rfl,Z',ρ',q1,q2,q3⟩ := he
   refine ⟨x,rfl, ?_⟩
   obtain ⟨Z2,g1,g2,g3⟩ := thaw hs (He := { H with lock := H.size }) (fun k hk => by
    obtain ⟨b,o,pl,hlk,ho, -⟩ := hk
    have := Heap.get_lt ho
    simp [Heap.size] at this hlk
    omega) q2 q3 (fun b v p _ hp => hp) q1 h2
   exact ⟨Z2,ρ,g1,g2,g3⟩
  ·cases h
 ·split at h
  ·rename_i v1 H1 h1
   simp at h;obtain ⟨rfl,rfl⟩ := h
   obtain ⟨hbody,hm⟩ := hrec.call _ _ _ _ _ h1
   refine ⟨hbody,Calls.mono' (hm Z ρ w vals hs hl) fun e w' he => ?_⟩
   obtain ⟨x,rfl,Z',ρ',q1,q2,q3⟩ := he
   obtain ⟨ρ'',g1,g2,g3, -, -⟩ := trim_sim hs q2 q3 [v1] []
   exact ⟨x,rfl,Z',ρ'',g3 _ (by simp) _ q1,g1,g2⟩
  ·cases h
theorem callA_sound {C : Cfg} {rec : Task → Option Out} (hrec : RecOK C.P rec) (hext : ExtOK C) {me f : FuncId} {dst : Option Tmp} {args : List AV} {vals : List Value} {v : AV} {H' : Heap} (hs : Sim Z ρ H w) (hl : RepL Z ρ args vals)
  (h : callA C rec me f dst args H = some (v,H')) : FnMeets C.P f vals w (After Z ρ H w v H') := by
 unfold callA at h
 split at h
 ·rename_i v2 h2
  simp only [Option.some.injEq,Prod.mk.injEq] at h
  obtain ⟨rfl,rfl⟩ := h
  unfold standA at h2
  split at h2
  ·rename_i g hg
   exact hext.ext f g hg args _ h2 Z ρ _ w vals hs hl
  ·cases h2
 ·split at h
  ·rename_i v2 h2
   simp only [Option.some.injEq,Prod.mk.injEq] at h
   obtain ⟨rfl,rfl⟩ := h
   unfold standH at h2
   split at h2
   ·rename_i g hg
    exact hext.exh f g hg args _ _ h2 Z ρ w vals hs hl
   ·cases h2
  ·obtain ⟨h1,h2⟩ := callB_sound hrec hs hl h
   exact .inr ⟨h1.run _ w,h2⟩
theorem noDefer {o : Oper} {c : Call} (ho : o.op = .call c) : ∀ c,o.op ≠ .defer c := by rw [ho];intro c hc;cases hc
theorem op_builtin {rb : Option Nat} {o : Oper} {_A : AAct} {a : Act} {c : Call} {b : Builtin} {s : Array Value → Sem Value} {v : AV} {H' : Heap} (ho : o.op = .call c) (hb : c.callee = .builtin b)
  (he : builtin b c.argTypes o.type (c.args.map fun | .const _ => true | _ => false) (c.args.map a.eval) = do pure (.value (← s (c.args.map a.eval)))) (h : Does P Z ρ H w (s (c.args.map a.eval)) v H') : OpMeets P rb o a w Z ρ H (some v) H' := by
 refine op_value (noDefer ho) (s := s (c.args.map a.eval)) ?_ h
 simp only [execOp,ho,resolve,hb,pure_bind,invoke]
 exact he
theorem minmax_does (hs : Sim Z ρ H w) {mx : Bool} {ts : Array TypeId} {x v : AV} {l : List AV} {vals : List Value} (hl : RepL Z ρ (x :: l) vals) (h : minmaxA mx x l = some v) (ty : TypeId) :
  Does P Z ρ H w ((if mx then Builtin.max_ else Builtin.min_) ts ty vals.toArray) v H := by
 obtain ⟨y,ys,rfl,hr,hl⟩ := hl.uncons
 have key : ∃ b,(ys.foldlM (if mx then Builtin.max2 else Builtin.min2) y).run P w = .ok b w ∧ Rep Z ρ v b := by
  cases l with
  | nil =>
   have : ys = [] := List.length_eq_zero_iff.1 hl.1.symm
   subst this
   simp [minmaxA] at h;subst h
   exact ⟨y,rfl,hr⟩
  | cons z r =>
   refine minmax_run hr hl h ?_ w
   simp only [minmaxA] at h
   split at h
   ·rename_i q hq
    unfold minmax2 at hq
    split at hq
    ·obtain ⟨rfl,hat⟩ := hr.v_inv
     exact hat
    ·cases hq
   ·cases h
 obtain ⟨b,h1,h2⟩ := key
 refine .same hs (x := b) ?_ h2
 cases mx
 ·simpa [Builtin.min_] using h1
 ·simpa [Builtin.max_] using h1
theorem opA_sound {C : Cfg} {rec : Task → Option Out} (hrec : RecOK C.P rec) (hext : ExtOK C) {me : FuncId} {rb : Option Nat} {o : Oper} {A : AAct} {a : Act} {H' : Heap} {slot : Nat} {r : Option AV} (hs : Sim Z ρ H w) (ha : SimA Z ρ A a) (hf : Free H slot)
  (h : opA C rec me o A H slot = some (r,H')) : OpMeets C.P rb o a w Z ρ H r H' := by
 by_cases hc : ∃ c,o.op = .call c
 ·obtain ⟨c,ho⟩ := hc
  unfold opA at h
  rw [ho] at h
  simp only [] at h
  have hargs : ∀ {vs},evals A c.args.toList = some vs → RepL Z ρ vs (c.args.map a.eval).toList := fun hv => by simpa using ha.evals hv
  have hty : c.argTypes.toList.toArray = c.argTypes := rfl
  split at h
  ·rename_i args hb hv
   simp only [Option.map_eq_some_iff,Prod.mk.injEq] at h
   obtain ⟨v,hv',rfl,rfl⟩ := h
   exact op_builtin (_A := A) (s := fun args => Builtin.append_ c.argTypes o.type args) ho hb rfl (append_does hs hf (hargs hv) hv' o.type)
  ·rename_i args hb hv
   simp only [Option.map_eq_some_iff,Prod.mk.injEq] at h
   obtain ⟨v,hv',rfl,rfl⟩ := h
   exact op_builtin (_A := A) (s := fun args => Builtin.copy_ c.argTypes o.type args) ho hb rfl (copy_does hs (hargs hv) hv' o.type)
  ·rename_i args hb hv
   simp only [Option.map_eq_some_iff,Prod.mk.injEq] at h
   obtain ⟨v,hv',rfl,rfl⟩ := h
   exact op_builtin (_A := A) (s := fun args => Builtin.len_ c.argTypes o.type args) ho hb rfl (len_does hs (hargs hv) hv' o.type)
  ·rename_i args hb hv
   simp only [Option.map_eq_some_iff,Prod.mk.injEq] at h
   obtain ⟨v,hv',rfl,rfl⟩ := h
   exact op_builtin (_A := A) (s := fun args => Builtin.cap_ c.argTypes o.type args) ho hb rfl (cap_does hs (hargs hv) hv' o.type)
  ·rename_i x l hb hv
   simp only [Option.map_eq_some_iff,Prod.mk.injEq] at h
   obtain ⟨v,hv',rfl,rfl⟩ := h
   exact op_builtin (_A := A) (s := fun args => Builtin.min_ c.argTypes o.type args) ho hb rfl (minmax_does (mx := false) (ts := c.argTypes) hs (hargs hv) hv' o.type)
  ·rename_i x l hb hv
   simp only [Option.map_eq_some_iff,Prod.mk.injEq] at h
   obtain ⟨v,hv',rfl,rfl⟩ := h
   exact op_builtin (_A := A) (s := fun args => Builtin.max_ c.argTypes o.type args) ho hb rfl (minmax_does (mx := true) (ts := c.argTypes) hs (hargs hv) hv' o.type)
  ·rename_i args hb hv
   simp only [Option.map_eq_some_iff,Prod.mk.injEq] at h
   obtain ⟨v,hv',rfl,rfl⟩ := h
   exact op_builtin (_A := A) (s := fun args => Builtin.delete_ c.argTypes o.type args) ho hb rfl (delete_does hs (hargs hv) hv' o.type)
  ·rename_i args hb hv
   simp only [Option.map_eq_some_iff,Prod.mk.injEq] at h
   obtain ⟨v,hv',rfl,rfl⟩ := h
   exact op_builtin (_A := A) (s := fun args => Builtin.clear_ c.argTypes o.type args) ho hb rfl (clear_does hs (hargs hv) hv' o.type)
  ·rename_i args hb hv
   simp only [Option.map_eq_some_iff,Prod.mk.injEq] at h
   obtain ⟨v,hv',rfl,rfl⟩ := h
   exact op_builtin (_A := A) (s := fun args => Builtin.unsafeSliceData_ c.argTypes o.type args) ho hb rfl (sliceData_does hs (hargs hv) hv' c.argTypes o.type)
  ·rename_i args hb hv
   simp only [Option.map_eq_some_iff,Prod.mk.injEq] at h
   obtain ⟨v,hv',rfl,rfl⟩ := h
   exact op_builtin (_A := A) (s := fun args => Builtin.unsafeString_ c.argTypes o.type args) ho hb rfl (unsafeStr_does hs (hargs hv) hv' o.type)
  ·rename_i g args hb hv
   split at h
   ·rename_i f first cap hg
    simp only [Option.map_eq_some_iff,Prod.mk.injEq] at h
    obtain ⟨⟨v,H1⟩,hv',rfl,rfl⟩ := h
    have hgr := ha.eval hg
    generalize hge : a.eval g = gv at hgr
    cases hgr with
    | fn l1 l2 e1 e2 =>
    rename_i us ws
    have hl : RepL Z ρ (first ++ args ++ cap) (us ++ (c.args.map a.eval).toList ++ ws) := RepL.append (RepL.append (cs := first) (vs := us) ⟨l1,e1⟩ (hargs hv)) ⟨l2,e2⟩
    have hm := callA_sound hrec hext hs hl hv'
    intro next Q hn
    refine ⟨fun _ _ => trivial, ?_⟩
    rw [Oper.semAt_eq _ _ _ (noDefer ho)]
    have hrun : (execOp a.eval o).run C.P w = (callFunc f (us ++ (c.args.map a.eval).toList ++ ws).toArray).run C.P w := by
     simp only [execOp,ho,resolve,hb,hge,Deferred.ofValue,pure_bind,invoke]
     congr 2
     apply Array.toList_inj.1
     simp
    rw [hrun]
    rcases hm with ⟨x,w',q1,Z',ρ',q2,q3,q4⟩ | ⟨q1,q2⟩
    ·rw [q1]
     exact hn x w' Z' ρ' q2 q3 q4
    ·rw [q1]
     refine ⟨(fun hd => nomatch hd), ?_⟩
     refine CallsIn.mono (F := FR rb) (n := 0 - 1) (callsIn_wide.2 q2 : CallsIn Fence.wide 0 C.P f _ w _) ?_
     rintro e w' ⟨x,rfl,Z',ρ',q2,q3,q4⟩
     exact hn x w' Z' ρ' q2 q3 q4
   ·rename_i b hg
    split at h
    ·rename_i v H1 h1
     simp at h;obtain ⟨rfl,rfl⟩ := h
     have hgr := ha.eval hg
     generalize hge : a.eval g = gv at hgr
     cases hgr with
     | yld hp =>
     rename_i pl
     obtain ⟨f,tmps,assign,body,hy,hr⟩ := hrec.round _ _ _ _ _ h1 Z ρ w _ pl hs (hargs hv) hp
     intro next Q hn
     refine ⟨fun _ _ => trivial, ?_⟩
     rw [Oper.semAt_eq _ _ _ (noDefer ho)]
     have hrun : (execOp a.eval o).run C.P w = (Instr.yield pl.blk (c.args.map a.eval)).run C.P w := by
      simp only [execOp,ho,resolve,hb,hge,Deferred.ofValue,pure_bind,invoke]
      congr 2
      simp
     rw [hrun]
     rw [show (c.args.map a.eval) = (c.args.map a.eval).toList.toArray from rfl,hy]
     refine ⟨(fun hd => nomatch hd), ?_⟩
     refine RoundIn.mono (F := FR rb) (n := 0 - 1) hr ?_
     rintro e w' ⟨x,rfl,Z',ρ',q2,q3,q4⟩
     exact hn x w' Z' ρ' q2 q3 q4
    ·cases h
   ·cases h
  ·cases h
 ·exact opA_plain hs ha hf (fun c hc' => hc ⟨c,hc'⟩) h
end Go.Ev
namespace Go.Ev
variable {P : Program} {Z : Fzn} {ρ : Pls} {H : Heap} {w : World}
theorem Sim.freeEnd (hs : Sim Z ρ H w) : Free H H.size := ⟨Nat.le_refl _,by simp [Heap.get,Heap.size],hs.lk⟩
def Goes (Z : Fzn) (ρ : Pls) (H : Heap) (w : World) (A' : AAct) (H' : Heap) (K : Act → World → Prop) : Prop :=
 ∀ a' w' Z' ρ',SimA Z' ρ' A' a' → Sim Z' ρ' H' w' → Ext Z ρ H w Z' ρ' H' w' → K a' w'
theorem step_sound {C : Cfg} {rec : Task → Option Out} (hrec : RecOK C.P rec) (hext : ExtOK C) {me : FuncId} {rb : Option Nat} {ops : Array Oper} {o : Oper} {A A' : AAct} {a : Act} {H' : Heap} {slot : Nat} (hs : Sim Z ρ H w) (ha : SimA Z ρ A a) (hf : Free H slot)
  (h : stepA C rec me ops o A H slot = some (A',H')) {next : Act → World → Prop} {Q : Exit → Act → World → Prop} (hn : Goes Z ρ H w A' H' next) :
  if Region.wanted o (yielded ops a.tmps) then o.wpIn (FR rb) 0 C.P a w next Q else (∀ f,o.about C.P w a.eval = some f → (FR rb).fn f) ∧ next (a.put o.dst undef) w := by
 unfold stepA at h
 split at h
 ·rename_i hw
  rw [if_pos (by rw [wantedA_eq ha hw])]
  split at h
  ·rename_i v H1 ho
   simp at h;obtain ⟨rfl,rfl⟩ := h
   exact opA_sound hrec hext hs ha hf ho next Q fun x w' Z' ρ' h1 h2 h3 => hn _ _ _ _ ((ha.mono h3.z h3.p).put o.dst h1) h2 h3
  ·rename_i H1 ho
   simp at h;obtain ⟨rfl,rfl⟩ := h
   refine opA_sound hrec hext hs ha hf ho next Q fun x w' Z' ρ' h1 h2 h3 => hn _ _ _ _ ((ha.mono h3.z h3.p).put o.dst ?_) h2 h3
   simp only [AnsRep] at h1;subst h1;exact undef_rep
  ·cases h
 ·rename_i hw
  simp at h;obtain ⟨rfl,rfl⟩ := h
  rw [if_neg (by rw [wantedA_eq ha hw];simp)]
  exact ⟨fun _ _ => trivial,hn _ _ _ _ (ha.put o.dst undef_rep) hs (.refl _ _ _ _)⟩
 ·cases h
theorem stepZ_sound {C : Cfg} {rec : Task → Option Out} (hrec : RecOK C.P rec) (hext : ExtOK C) {me : FuncId} {rb : Option Nat} {ops : Array Oper} {o : Oper} {A A' : AAct} {a : Act} {H' : Heap} (hs : Sim Z ρ H w) (ha : SimA Z ρ A a)
  (h : stepZ C rec me ops o A H = some (A',H')) {next : Act → World → Prop} {Q : Exit → Act → World → Prop} (hn : Goes Z ρ H w A' H' next) :
  if Region.wanted o (yielded ops a.tmps) then o.wpIn (FR rb) 0 C.P a w next Q else (∀ f,o.about C.P w a.eval = some f → (FR rb).fn f) ∧ next (a.put o.dst undef) w := by
 unfold stepZ at h
 split at h
 ·split at h
  ·rename_i hw
   rw [if_pos (by rw [wantedA_eq ha hw])]
   split at h
   ·rename_i v H1 ho
    simp only [Option.map_eq_some_iff,Prod.mk.injEq] at h
    obtain ⟨v2,h2,rfl,rfl⟩ := h
    have hse : Sim Z ρ { H with lock := H.size } w := ⟨hs.objs,hs.inj,hs.zok,hs.fresh,Nat.le_refl _,hs.lg⟩
    refine opA_sound hrec hext hse ha hse.freeEnd ho next Q fun x w' Z' ρ' q1 q2 q3 => ?_
    obtain ⟨Z2,g1,g2,g3⟩ := thaw hs (He := { H with lock := H.size }) (fun k hk => by
     obtain ⟨b,o,pl,hlk,ho, -⟩ := hk
     have := Heap.get_lt ho
     simp [Heap.size] at this hlk
     omega) q2 q3 (fun b v p _ hp => hp) q1 h2
    exact hn _ _ _ _ ((ha.mono g3.z g3.p).put o.dst g1) g2 g3
   ·cases h
  ·rename_i hw
   simp at h;obtain ⟨rfl,rfl⟩ := h
   rw [if_neg (by rw [wantedA_eq ha hw];simp)]
   exact ⟨fun _ _ => trivial,hn _ _ _ _ (ha.put o.dst undef_rep) hs (.refl _ _ _ _)⟩
  ·cases h
 ·exact step_sound hrec hext hs ha hs.freeEnd h hn
theorem seq_sound {C : Cfg} {rec : Task → Option Out} (hrec : RecOK C.P rec) (hext : ExtOK C) {me : FuncId} {rb : Option Nat} {ops : Array Oper} {Q : Exit → Act → World → Prop} : ∀ {l : List Oper} {Z : Fzn} {ρ : Pls} {H : Heap} {w : World} {A A' : AAct} {a : Act} {H' : Heap},Sim Z ρ H w → SimA Z ρ A a →
  seqA C rec me ops l A H = some (A',H') → Goes Z ρ H w A' H' (Q .normal) → wpListIn (FR rb) 0 C.P ops Q l a w
 | [],Z,ρ,H,w,A,A',a,H',hs,ha,h,hn => by
  simp [seqA] at h;obtain ⟨rfl,rfl⟩ := h
  exact hn a w Z ρ ha hs (.refl _ _ _ _)
 | o :: r,Z,ρ,H,w,A,A',a,H',hs,ha,h,hn => by
  simp only [seqA] at h
  split at h
  ·rename_i A1 H1 h1
   exact stepZ_sound hrec hext hs ha h1 (next := wpListIn (FR rb) 0 C.P ops Q r) fun a' w' Z' ρ' g1 g2 g3 =>
    seq_sound hrec hext g2 g1 h fun a2 w2 Z2 ρ2 k1 k2 k3 => hn a2 w2 Z2 ρ2 k1 k2 (g3.trans k3)
  ·cases h
end Go.Ev
namespace Go.Ev
variable {P : Program} {Z : Fzn} {ρ : Pls} {H : Heap} {w : World}
def exitOf : AExit → Exit
 | .normal => .normal
 | .exit id => .exit id
 | .ret => .ret
def RdRep (ρ : Pls) (rd rb : Option Nat) : Prop :=
 match rd,rb with
 | none,none => True
 | some b,some k => ∃ pl,ρ b 0 = some pl ∧ pl.blk = k
 | _,_ => False
theorem RdRep.mono {ρ' : Pls} {rd rb : Option Nat} (h : RdRep ρ rd rb) (hp : leP ρ ρ') : RdRep ρ' rd rb := by
 cases rd <;> cases rb <;> simp only [RdRep] at h ⊢
 obtain ⟨pl,h1,h2⟩ := h
 exact ⟨pl,hp _ _ _ h1,h2⟩
def LoopMeets (C : Cfg) (m : Nat) (rec : Task → Option Out) : Prop :=
 ∀ me rd ks c A H e A' H',rec (.loop me rd ks c A H) = some (.go e A' H') → ∀ (Z : Fzn) (ρ : Pls) (w : World) (a : Act) (rb : Option Nat) (Q : Exit → Act → World → Prop),Sim Z ρ H w → SimA Z ρ A a → RdRep ρ rd rb →
  Goes Z ρ H w A' H' (Q (exitOf e)) → Code.roundsIn (FR rb) 0 C.P c Q m a w
def DrawMeets (C : Cfg) (rec : Task → Option Out) : Prop :=
 ∀ me id ops A H A' H',regionA C rec me ops true A H = some (A',H') → ∀ (Z : Fzn) (ρ : Pls) (w : World) (a : Act) (rb : Option Nat) (Q : Exit → Act → World → Prop),Sim Z ρ H w → SimA Z ρ A a →
  Goes Z ρ H w A' H' (Q .normal) → (Code.region id ops true).wpIn (FR rb) 0 C.P Q a w
theorem assoc_filter (t : Tmp) (p : Tmp → Bool) : ∀ {l : List (Tmp × AV)} {v : AV},assoc t (l.filter fun x => p x.1) = some v → assoc t l = some v
 | [],v,h => by simp [assoc] at h
 | (k,x) :: r,v,h => by
  simp only [List.filter_cons] at h
  by_cases hk : Nat.beq k t = true
  ·have := Nat.eq_of_beq_eq_true hk
   subst this
   simp only [assoc,hk,if_true]
   by_cases hp : p k = true
   ·simpa [hp,assoc,hk] using h
   ·rw [if_neg hp] at h
    -- the key is not kept anywhere
    exfalso
    have : ∀ l : List (Tmp × AV),assoc k (l.filter fun x => p x.1) = none := by
     intro l
     induction l with
     | nil => rfl
     | cons y q ih =>
      simp only [List.filter_cons]
      split
      ·rename_i hy
       simp only [assoc]
       rw [if_neg,ih]
       intro e
       have := Nat.eq_of_beq_eq_true e
       rw [this] at hy
       exact hp hy
      ·exact ih
    rw [this] at h;cases h
  ·simp only [assoc,if_neg hk]
   split at h
   ·simp only [assoc,if_neg hk] at h
    exact assoc_filter t p h
   ·exact assoc_filter t p h
theorem SimA.sub {A A' : AAct} {a : Act} (h : SimA Z ρ A a) (h1 : A'.size = A.size) (h2 : A'.marks = A.marks) (h3 : ∀ t v,assoc t A'.tmps = some v → assoc t A.tmps = some v) : SimA Z ρ A' a :=
 ⟨h1 ▸ h.size,fun t v ht => h.tmps t v (h3 t v ht),by rw [h2];exact h.marks⟩
theorem cut_get (H : Heap) (n : Nat) (h : (H.objs.drop n).all Option.isNone = true) (b : Nat) : ({ H with objs := H.objs.take n } : Heap).get b = H.get b := by
 simp only [Heap.get,List.getElem?_take]
 split
 ·rfl
 ·rename_i hb
  cases hx : H.objs[b]? with
  | none => rfl
  | some y =>
   have : y ∈ H.objs.drop n := by
    refine List.mem_of_getElem? (i := b - n) ?_
    rw [List.getElem?_drop]
    rw [show n + (b - n) = b by omega];exact hx
   have := List.all_eq_true.1 h y this
   cases y with
   | none => rfl
   | some z => simp at this
theorem same_sim {H2 : Heap} (hs : Sim Z ρ H w) (hg : ∀ b,H2.get b = H.get b) (_hl : H2.lock = H.lock) (hk : H2.lock ≤ H2.size) : Sim Z ρ H2 w :=
 ⟨fun b o h => by rw [hg] at h;exact hs.objs b o h,fun b b' o o' pl pl' h hl h' => by rw [hg] at h h';exact hs.inj b b' o o' pl pl' h hl h',hs.zok,fun b v pl h => by rw [hg];exact hs.fresh b v pl h,hk,hs.lg⟩
theorem same_ext {Z' : Fzn} {ρ' : Pls} {H' H2 : Heap} {w' : World} (he : Ext Z ρ H w Z' ρ' H' w') (hg : ∀ b,H2.get b = H'.get b) (hl : H2.lock = H'.lock) (hz : H.size ≤ H2.size) : Ext Z ρ H w Z' ρ' H2 w' :=
 ⟨he.z,he.p,he.frame,fun k hk ho => he.own k hk (let ⟨b,o,pl,h1,h2,h3⟩ := ho; ⟨b,o,pl,hl ▸ h1,by rw [← hg];exact h2,h3⟩),he.size,he.os,he.output,he.tape,he.drawn,he.fz,hl.trans he.lock,fun b hb => (hg b).trans (he.old b hb),hz,he.zf,he.pold,
  fun b o hb ho => ⟨(hg b).trans (he.dd b o hb ho).1,(he.dd b o hb ho).2⟩⟩
theorem settle_goes {C : Cfg} {me : FuncId} {A : AAct} {H' : Heap} {K : Act → World → Prop} (hs : Sim Z ρ H w) (h : Goes Z ρ H w (settle C me H.size (A,H')).1 (settle C me H.size (A,H')).2 K) : Goes Z ρ H w A H' K := by
 intro a' w' Z' ρ' h1 h2 h3
 refine h a' w' Z' ρ' (h1.sub rfl rfl fun t v ht => assoc_filter t (fun k => memNat k (C.keep me)) ht) ?_ ?_
 ·simp only [settle]
  split
  ·rename_i hc
   refine same_sim h2 (cut_get H' _ hc) rfl ?_
   have := h3.hsz
   have := hs.lk
   have := h3.lock
   simp only [Heap.size,List.length_take] at *
   omega
  ·exact h2
 ·simp only [settle]
  split
  ·rename_i hc
   refine same_ext h3 (cut_get H' _ hc) rfl ?_
   have := h3.hsz
   simp only [Heap.size,List.length_take] at *
   omega
  ·exact h3
theorem Sim.killTurn (hs : Sim Z ρ H w) {b : Nat} {o : AObj} {pl : Pl} {obj obj' : Obj} (hb : H.get b = some o) (hl : o.live = true) (hlock : H.lock ≤ b) (hp : ρ b o.ver = some pl) (hobj : w.heap[pl.blk]? = some obj)
  (h0 : ∀ c e fz,obj = .cells c e fz → fz = (0,0)) (h0' : ∀ c e fz,obj' = .cells c e fz → fz = (0,0)) :
  Sim Z ρ (H.put b .dead) { w with heap := w.heap.setIfInBounds pl.blk obj' } ∧ Ext Z ρ H w Z ρ (H.put b .dead) { w with heap := w.heap.setIfInBounds pl.blk obj' } := by
 obtain ⟨q1,q2⟩ := hs.kill hb hl hlock
 have hsz := Nat.le_of_lt (Heap.get_lt hb)
 have hkeep : ∀ k,k ≠ pl.blk → (w.heap.setIfInBounds pl.blk obj')[k]? = w.heap[k]? := fun k hk => by
  simp [Array.getElem?_setIfInBounds_ne (Ne.symm hk)]
 have hZ : Z pl.blk = none := by
  obtain ⟨pl1,obj1,h1,h2,h3,h4⟩ := hs.objs b o hb hl
  rw [hp] at h1;cases h1;exact h4
 refine ⟨⟨fun c x hc hx => ?_,q1.inj,fun k x hk => ?_,q1.fresh,q1.lk,q1.lg⟩,⟨q2.z,q2.p,fun k hk ho => ?_,q2.own,by simp,rfl,rfl,rfl,fun _ => Nat.le_refl _,fun a _ _ => frozen_set w _ obj obj' hobj h0 h0' a,q2.lock,q2.old,q2.hsz,q2.zf,q2.pold,q2.dd⟩⟩
 ·obtain ⟨pl1,obj1,h1,h2,h3,h4⟩ := q1.objs c x hc hx
  refine ⟨pl1,obj1,h1,(hkeep _ fun e => ?_).trans h2,h3,h4⟩
  rw [H.get_put b _ hsz] at hc
  split at hc
  ·cases hc;simp [AObj.live] at hx
  ·rename_i hne
   exact hne (hs.inj c b x o pl1 pl hc hx hb hl h1 hp e)
 ·have := q1.zok k x hk
  exact (hkeep _ fun e => by rw [e,hZ] at hk;cases hk).trans this
 ·exact hkeep k fun e => ho (by subst e;exact ⟨b,o,pl,hlock,hb,hl,hp,rfl⟩)
end Go.Ev
namespace Go.Ev
variable {P : Program} {Z : Fzn} {ρ : Pls} {H : Heap} {w : World}
theorem loopObj_get {H : Heap} {b : Nat} {l : ALoop} (h : loopObj H b = some l) : H.get b = some (.loop l) := by
 unfold loopObj at h
 split at h
 ·rename_i x hx;simp at h;subst h;exact hx
 ·cases h
theorem Sim.loop (hs : Sim Z ρ H w) {b : Nat} {l : ALoop} (h : loopObj H b = some l) : ∃ pl r,ρ b 0 = some pl ∧ w.heap[pl.blk]? = some (.loop r) ∧ Z pl.blk = none ∧ r.state = l.state ∧ r.pending = l.pending ∧ r.params = l.params ∧ r.assign = l.assign ∧ r.body = l.body ∧ r.tmps.size = l.size ∧
   (∀ (t : Tmp) (v : AV),assoc t l.tmps = some v → ∃ x,r.tmps[t]? = some x ∧ Rep Z ρ v x) ∧ ∃ pd,ρ l.dfr 0 = some pd ∧ r.defers = pd.blk := by
 obtain ⟨pl,obj,h1,h2,h3,h4⟩ := hs.objs b _ (loopObj_get h) rfl
 cases obj <;> simp only [RepO] at h3
 rename_i r
 exact ⟨pl,r,h1,h2,h4,h3⟩
theorem run_getLoop {k : Nat} {r : Loop} (h : w.heap[k]? = some (.loop r)) : (Instr.getLoop k).run P w = .ok r w := by
 simp [Instr.getLoop,getObj,Sem.run,h]
theorem run_setObj_loop' {k : Nat} {r : Loop} (o : Obj) (h : w.heap[k]? = some (.loop r)) : (setObj k o).run P w = .ok () { w with heap := w.heap.setIfInBounds k o } := by
 simp [setObj,Sem.run,h]
theorem run_newObj (o : Obj) : (newObj o).run P w = .ok w.heap.size { w with heap := w.heap.push o } := by
 simp [newObj,Sem.run]
theorem callB_rangeFunc {C : Cfg} {_m : Nat} {rec : Task → Option Out} (hrec : RecOK C.P rec) {me : FuncId} {_rd rb : Option Nat} {g : Operand} {ps : Array Tmp} {assign body : Code} {A : AAct} {a : Act} {H1 H2 : Heap} {l : Nat} {mk : List Nat} {f : FuncId} {first cap : List AV} {v : AV} {r : ALoop} {e : AExit} {Q : Exit → Act → World → Prop}
  (ha : SimA Z ρ A a) (hg : A.eval g = some (.fn (.func f) first cap))
  {_w1 : World} {_ρ1 : Pls} {_Z1 : Fzn} {pl : Pl} {mark : List Deferred} (henter : ∀ fn,∃ w1 ρ1,(Instr.enterLoop fn a.tmps ps assign body rb).run C.P w = .ok (pl.blk,mark) w1 ∧ Sim Z ρ1 H1 w1 ∧ Ext Z ρ H w Z ρ1 H1 w1 ∧ ρ1 l 0 = some pl ∧ SimA Z ρ1 { A with marks := mk ++ A.marks } { a with defers := mark ++ a.defers })
  (hcall : callB C rec me f none (first ++ [.yld l] ++ cap) H1 = some (v,H2)) (hl2 : loopObj H2 l = some r) (hst : r.state ≠ .busy) (hlk : H1.lock ≤ l)
  (hj : jumpOf e = some r.pending) (hn : Goes Z ρ H w { A with marks := mk ++ A.marks } (H2.put l .dead) (Q (exitOf e))) :
  (Code.rangeFunc g ps assign body).wpIn (FR rb) 0 C.P Q a w := by
 refine wpIn_rangeFunc fun fn _ => ?_
 obtain ⟨w1,ρ1,h1,h2,h3,h4,h5⟩ := henter fn
 have hgr := ha.eval hg
 generalize hge : a.eval g = gv at hgr
 cases hgr with
 | fn l1 l2 e1 e2 =>
 rename_i us ws
 have hle := h3.p
 have hargs : RepL Z ρ1 (first ++ [.yld l] ++ cap) (us ++ [(Value.func (Fn.yield pl.blk) #[] #[])] ++ ws) :=
  RepL.append (RepL.append (cs := first) (vs := us) (RepL.mono ⟨l1,e1⟩ (.refl _) hle) (.cons (.yld h4) .nil)) (RepL.mono ⟨l2,e2⟩ (.refl _) hle)
 obtain ⟨hbody,hcalls⟩ := callB_sound hrec h2 hargs hcall
 refine ⟨pl.blk,mark,w1,{ target := .fn (.func f) ws.toArray,args := us.toArray ++ #[(Value.func (Fn.yield pl.blk) #[] #[])] },w1,f,(us ++ [(Value.func (Fn.yield pl.blk) #[] #[])] ++ ws).toArray,w1,h1, ?_,fun _ _ => trivial, ?_,(fun hd => nomatch hd), ?_⟩
 ·simp [resolve,hge,Deferred.ofValue,show ∀ v,a.eval (.const v) = v from fun _ => rfl]
 ·have : (us.toArray ++ #[(Value.func (Fn.yield pl.blk) #[] #[])] ++ ws.toArray : Array Value) = (us ++ [(Value.func (Fn.yield pl.blk) #[] #[])] ++ ws).toArray := by simp
  simp only [invoke,this]
  exact hbody.run _ _
 ·refine CallsIn.mono (F := FR rb) (n := 0 - 1) (callsIn_wide.2 hcalls : CallsIn Fence.wide 0 C.P f _ w1 _) ?_
  rintro ee w2 ⟨x,rfl,Z',ρ',q2,q3,q4⟩
  obtain ⟨pl',r',k1,k2,k3,k4,k5,k6⟩ := q3.loop hl2
  have : pl' = pl := by
   have := q4.p _ _ _ h4
   rw [k1] at this;exact Option.some.inj this
  rw [this] at k1 k2
  have hlk2 : H2.lock ≤ l := by rw [q4.lock];exact hlk
  obtain ⟨t1,t2⟩ := q3.killTurn (loopObj_get hl2) rfl hlk2 k1 k2 (obj' := .loop { r' with state := .exhausted }) (fun _ _ _ h => by cases h) (fun _ _ _ h => by cases h)
  have hfin := hn { a with defers := mark ++ a.defers } _ Z' ρ' (h5.mono q4.z q4.p) t1 ((h3.trans q4).trans t2)
  have hbusy : (r'.state == .busy) = false := by
   rw [k4]
   cases hst' : r.state <;> first | (exact absurd hst' hst) | rfl
  refine ⟨r'.pending,{ w2 with heap := w2.heap.setIfInBounds pl.blk (.loop { r' with state := .exhausted }) }, ?_, ?_⟩
  ·simp only [Instr.endLoop,Sem.run_bind,run_getLoop k2,Result.andThen_ok,hbusy,Bool.false_eq_true,if_false,Sem.run_pure,run_setObj_loop' _ k2]
  ·cases e with
   | normal =>
    have hp : r'.pending = none := by rw [k5];simpa [jumpOf] using hj.symm
    rw [hp] at hfin ⊢;exact hfin
   | exit id =>
    have hp : r'.pending = some (.exit id) := by rw [k5];simpa [jumpOf] using hj.symm
    rw [hp] at hfin ⊢;exact wpIn_exit hfin
   | ret =>
    have hp : r'.pending = some .ret := by rw [k5];simpa [jumpOf] using hj.symm
    rw [hp] at hfin ⊢;exact wpIn_ret hfin
theorem enter_out (hs : Sim Z ρ H w) {A : AAct} {a : Act} (ha : SimA Z ρ A a) {me : FuncId} {ps : Array Tmp} {assign body : Code} (fn : FuncId) :
  ∃ w1 ρ1,(Instr.enterLoop fn a.tmps ps assign body none).run P w = .ok (w.heap.size + 1,[{ target := .collected w.heap.size,args := #[] }]) w1 ∧
   Sim Z ρ1 ((H.put H.size .dfr).put (H.size + 1) (.loop { fn := me,state := .ready,pending := none,size := A.size,tmps := A.tmps,params := ps,assign := assign,body := body,dfr := H.size })) w1 ∧
   Ext Z ρ H w Z ρ1 ((H.put H.size .dfr).put (H.size + 1) (.loop { fn := me,state := .ready,pending := none,size := A.size,tmps := A.tmps,params := ps,assign := assign,body := body,dfr := H.size })) w1 ∧
   ρ1 (H.size + 1) 0 = some ⟨w.heap.size + 1,0,0,0⟩ ∧ SimA Z ρ1 { A with marks := [H.size] ++ A.marks } { a with defers := [{ target := .collected w.heap.size,args := #[] }] ++ a.defers } := by
 obtain ⟨s1,e1⟩ := hs.alloc hs.freeEnd (o := .dfr) (obj := .deferred (some [])) (pl := ⟨w.heap.size,0,0,0⟩) rfl (fun _ _ _ h => by cases h) rfl
 have hsz : (H.put H.size .dfr).size = H.size + 1 := by
  have : ∀ (l : List (Option AObj)) (x : Option AObj),(setOrPush x l.length l).length = l.length + 1 := by
   intro l x
   induction l with
   | nil => rfl
   | cons y r ih => simp [setOrPush,ih]
  exact this H.objs _
 have hf2 := s1.freeEnd
 rw [hsz] at hf2
 have ha1 := ha.mono e1.z e1.p
 let r0 : Loop := { state := .ready,pending := none,fn,tmps := a.tmps,params := ps,assign,body,defers := w.heap.size }
 let w1 : World := { w with heap := w.heap.push (.deferred (some [])) }
 have hd : upd ρ H.size 0 ⟨w.heap.size,0,0,0⟩ H.size 0 = some ⟨w.heap.size,0,0,0⟩ := upd_self _ _ _ _
 have hle : leP (upd ρ H.size 0 ⟨w.heap.size,0,0,0⟩) (upd (upd ρ H.size 0 ⟨w.heap.size,0,0,0⟩) (H.size + 1) 0 ⟨w.heap.size + 1,0,0,0⟩) := leP_upd (.inl (s1.free hf2.2.1 0))
 obtain ⟨s2,e2⟩ := s1.alloc hf2 (o := .loop { fn := me,state := .ready,pending := none,size := A.size,tmps := A.tmps,params := ps,assign := assign,body := body,dfr := H.size }) (obj := .loop r0) (pl := ⟨w.heap.size + 1,0,0,0⟩) (by simp) (fun _ _ _ h => by cases h)
  ⟨rfl,rfl,rfl,rfl,rfl,ha.size,fun t v ht => by
   obtain ⟨x,q1,q2⟩ := ha1.tmps t v ht
   exact ⟨x,q1,q2.mono (.refl _) hle⟩,⟨w.heap.size,0,0,0⟩,hle _ _ _ hd,rfl⟩
 refine ⟨_,_, ?_,s2,e1.trans e2,upd_self _ _ _ _, ?_⟩
 ·simp only [Instr.enterLoop,Sem.run_bind,run_newObj,Result.andThen_ok,Sem.run_pure,r0,Array.size_push]
 ·have hab := ha1.mono (.refl _) hle
  refine ⟨hab.size,hab.tmps,by simpa using hab.marks.1,fun i b d hb hd' => ?_⟩
  cases i with
  | zero =>
   simp at hb hd';subst hb;subst hd'
   exact ⟨_,hle _ _ _ hd,rfl⟩
  | succ i => exact hab.marks.2 i b d (by simpa using hb) (by simpa using hd')
theorem enter_in (hs : Sim Z ρ H w) {A : AAct} {a : Act} (ha : SimA Z ρ A a) {me : FuncId} {ps : Array Tmp} {assign body : Code} {l0 k0 : Nat} {r0 : ALoop} (hl0 : loopObj H l0 = some r0) (hk : ∃ pl,ρ l0 0 = some pl ∧ pl.blk = k0) (fn : FuncId) :
  ∃ w1 ρ1,(Instr.enterLoop fn a.tmps ps assign body (some k0)).run P w = .ok (w.heap.size,[]) w1 ∧
   Sim Z ρ1 (H.put H.size (.loop { fn := me,state := .ready,pending := none,size := A.size,tmps := A.tmps,params := ps,assign := assign,body := body,dfr := r0.dfr })) w1 ∧
   Ext Z ρ H w Z ρ1 (H.put H.size (.loop { fn := me,state := .ready,pending := none,size := A.size,tmps := A.tmps,params := ps,assign := assign,body := body,dfr := r0.dfr })) w1 ∧
   ρ1 H.size 0 = some ⟨w.heap.size,0,0,0⟩ ∧ SimA Z ρ1 { A with marks := [] ++ A.marks } { a with defers := [] ++ a.defers } := by
 obtain ⟨pl,q1,rfl⟩ := hk
 obtain ⟨pl',r',k1,k2,k3,k4,k5,k6,k7,k8,k9,k10,pd,k11,k12⟩ := hs.loop hl0
 rw [q1] at k1;cases k1
 let r1 : Loop := { state := .ready,pending := none,fn,tmps := a.tmps,params := ps,assign,body,defers := pd.blk }
 have hle : leP ρ (upd ρ H.size 0 ⟨w.heap.size,0,0,0⟩) := leP_upd (.inl (hs.free hs.freeEnd.2.1 0))
 obtain ⟨s2,e2⟩ := hs.alloc hs.freeEnd (o := .loop { fn := me,state := .ready,pending := none,size := A.size,tmps := A.tmps,params := ps,assign := assign,body := body,dfr := r0.dfr }) (obj := .loop r1) (pl := ⟨w.heap.size,0,0,0⟩) rfl (fun _ _ _ h => by cases h)
  ⟨rfl,rfl,rfl,rfl,rfl,ha.size,fun t v ht => by
   obtain ⟨x,g1,g2⟩ := ha.tmps t v ht
   exact ⟨x,g1,g2.mono (.refl _) hle⟩,pd,hle _ _ _ k11,rfl⟩
 refine ⟨_,_, ?_,s2,e2,upd_self _ _ _ _,ha.mono (.refl _) hle⟩
 simp only [Instr.enterLoop,Sem.run_bind,run_getLoop k2,run_newObj,Result.andThen_ok,Sem.run_pure,r1,k12]
end Go.Ev
namespace Go.Ev
variable {P : Program} {Z : Fzn} {ρ : Pls} {H : Heap} {w : World}
theorem stepR_scope {b : Frame} {a : Act} {k : List Item} {cs : List Frame} {c : Code} : step P (lone (b.atR a (.code (.scope c) :: k)) cs w) = .next (lone (b.atR a (.code c :: .inScope c :: k)) cs w) :=
 step_lone_go (by simp [stepG,stepG.exec,Frame.atR])
theorem stepR_inScope {b : Frame} {a : Act} {k : List Item} {cs : List Frame} {c : Code} : step P (lone (b.atR a (.inScope c :: k)) cs w) = .next (lone (b.atR a k) cs w) :=
 step_lone_go (by simp [stepG,stepG.exec,Frame.atR])
theorem wpIn_scope {F : Fence} {n : Nat} {c : Code} {Q : Exit → Act → World → Prop} {a : Act} (h : c.wpIn F n P (fun e a w => match e with | .goto _ => False | e => Q e a w) a w) : (Code.scope c).wpIn F n P Q a w := by
 intro b k cs hro hb hr
 have h0 : (lone (b.atR a (.code (.scope c) :: k)) cs w).fenced P F := fenced_calm hb hr rfl
 obtain ⟨e,a₁,w₁,hq,harr⟩ := h b (.inScope c :: k) cs hro hb hr
 cases e with
 | normal => exact ⟨.normal,a₁,w₁,hq,.head h0 stepR_scope (StepsIn.trans harr (.one (fenced_calm hb hr rfl) stepR_inScope))⟩
 | exit id =>
  have hx : exitTo id (.inScope c :: k) = exitTo id k := by simp [exitTo]
  exact ⟨.exit id,a₁,w₁,hq,fun k' hk => .head h0 stepR_scope (harr.1 k' (by rw [hx];exact hk)),
   fun hr' hk => let ⟨k₁,h1,h2⟩ := harr.2 hr' (by rw [hx];exact hk); ⟨k₁,h1,.head h0 stepR_scope h2⟩⟩
 | goto l => exact hq.elim
 | ret => exact ⟨_,a₁,w₁,hq,.of_steps (.one h0 stepR_scope) harr⟩
 | panic ch => exact ⟨_,a₁,w₁,hq,.of_steps (.one h0 stepR_scope) harr⟩
 | outgrown => exact ⟨_,a₁,w₁,hq,.of_steps (.one h0 stepR_scope) harr⟩
theorem code_sound {C : Cfg} {m : Nat} {rec : Task → Option Out} (hrec : RecOK C.P rec) (hext : ExtOK C) (hloop : LoopMeets C m rec) (hdraw : DrawMeets C rec) {me : FuncId} {rd : Option Nat} : ∀ (c : Code) {Z : Fzn} {ρ : Pls} {H : Heap} {w : World} {A A' : AAct} {a : Act} {H' : Heap} {e : AExit} {rb : Option Nat} {Q : Exit → Act → World → Prop},
  Sim Z ρ H w → SimA Z ρ A a → RdRep ρ rd rb → codeA C rec me rd c A H = some (e,A',H') → Goes Z ρ H w A' H' (Q (exitOf e)) → c.wpIn (FR rb) 0 C.P Q a w := by
 intro c
 induction c <;> intro Z ρ H w A A' a H' e rb Q hs ha hrd h hn
 case skip =>
  simp [codeA] at h;obtain ⟨rfl,rfl,rfl⟩ := h
  exact wpIn_skip (hn a w Z ρ ha hs (.refl _ _ _ _))
 case label =>
  simp [codeA] at h;obtain ⟨rfl,rfl,rfl⟩ := h
  exact wpIn_label (hn a w Z ρ ha hs (.refl _ _ _ _))
 case region id ops draw =>
  simp only [codeA,Option.map_eq_some_iff,Prod.mk.injEq] at h
  obtain ⟨⟨A1,H1⟩,h1,rfl,rfl,rfl⟩ := h
  have hn' := settle_goes hs hn
  cases draw with
  | true => exact hdraw _ _ _ _ _ _ _ h1 Z ρ w a rb Q hs ha hn'
  | false =>
   simp only [regionA,Bool.false_eq_true,if_false] at h1
   exact wpIn_region_list (seq_sound hrec hext hs ha h1 hn')
 case seq x y ihx ihy =>
  simp only [codeA] at h
  split at h
  ·rename_i A1 H1 h1
   refine wpIn_seq (ihx hs ha hrd h1 fun a' w' Z' ρ' g1 g2 g3 => ?_)
   exact ihy g2 g1 (hrd.mono g3.p) h fun a2 w2 Z2 ρ2 k1 k2 k3 => hn a2 w2 Z2 ρ2 k1 k2 (g3.trans k3)
  ·rename_i hne
   refine wpIn_seq (ihx hs ha hrd h fun a' w' Z' ρ' g1 g2 g3 => ?_)
   have := hn a' w' Z' ρ' g1 g2 g3
   cases e with
   | normal => exact absurd h (hne _ _)
   | exit id => exact this
   | ret => exact this
 case cond c x y ihx ihy =>
  simp only [codeA] at h
  split at h
  ·rename_i hc
   exact wpIn_cond_true (ha.eval hc).v_inv.1 (ihx hs ha hrd h hn)
  ·rename_i hc
   exact wpIn_cond_false (ha.eval hc).v_inv.1 (ihy hs ha hrd h hn)
  ·cases h
 case block id c ih =>
  simp only [codeA] at h
  split at h
  ·rename_i id' A1 H1 h1
   simp at h;obtain ⟨rfl,rfl,rfl⟩ := h
   refine wpIn_block (ih hs ha hrd h1 fun a' w' Z' ρ' g1 g2 g3 => ?_)
   have := hn a' w' Z' ρ' g1 g2 g3
   simp only [Exit.inBlock,exitOf] at this ⊢
   split
   ·rename_i hid;rw [if_pos hid] at this;exact this
   ·rename_i hid;rw [if_neg hid] at this;exact this
  ·rename_i hne
   refine wpIn_block (ih hs ha hrd h fun a' w' Z' ρ' g1 g2 g3 => ?_)
   have := hn a' w' Z' ρ' g1 g2 g3
   cases e with
   | normal => exact this
   | exit id => exact absurd h (hne _ _ _)
   | ret => exact this
 case loop c ih =>
  simp only [codeA] at h
  split at h
  ·rename_i e1 A1 H1 h1
   simp at h;obtain ⟨rfl,rfl,rfl⟩ := h
   exact wpIn_loop_rounds m (hloop _ _ _ _ _ _ _ _ _ h1 Z ρ w a rb Q hs ha hrd hn)
  ·cases h
 case exit id =>
  simp [codeA] at h;obtain ⟨rfl,rfl,rfl⟩ := h
  exact wpIn_exit (hn a w Z ρ ha hs (.refl _ _ _ _))
 case ret =>
  simp [codeA] at h;obtain ⟨rfl,rfl,rfl⟩ := h
  exact wpIn_ret (hn a w Z ρ ha hs (.refl _ _ _ _))
 case rangeFunc g ps assign body ih1 ih2 =>
  simp only [codeA] at h
  split at h
  ·rename_i f first cap hg
   cases rb with
   | some k => simp [RdRep] at hrd
   | none =>
   split at h
   ·rename_i v H2 hc
    split at h
    ·rename_i r hr
     split at h
     ·cases h
     rename_i hcond
     have hst : r.state ≠ .busy := fun e => hcond (.inl e)
     have hlk : ((H.put H.size .dfr).put (H.size + 1) (.loop { fn := me,state := .ready,pending := none,size := A.size,tmps := A.tmps,params := ps,assign := assign,body := body,dfr := H.size })).lock ≤ H.size + 1 := Nat.le_succ_of_le hs.lk
     have go : ∀ e1,jumpOf e1 = some r.pending → Goes Z ρ H w { A with marks := [H.size] ++ A.marks } (H2.put (H.size + 1) .dead) (Q (exitOf e1)) → (Code.rangeFunc g ps assign body).wpIn (FR none) 0 C.P Q a w := fun e1 hj hn1 =>
      callB_rangeFunc hrec ha hg (_Z1 := Z) (_w1 := w) (_ρ1 := ρ) (_m := 0) (_rd := none) (pl := ⟨w.heap.size + 1,0,0,0⟩) (fun fn => enter_out hs ha fn) hc hr hst hlk hj hn1
     split at h
     ·rename_i hp
      simp at h;obtain ⟨rfl,rfl,rfl⟩ := h
      exact go .normal (by rw [hp];rfl) hn
     ·rename_i hp
      simp at h;obtain ⟨rfl,rfl,rfl⟩ := h
      exact go .ret (by rw [hp];rfl) hn
     ·rename_i id hp
      simp at h;obtain ⟨rfl,rfl,rfl⟩ := h
      exact go (.exit id) (by rw [hp];rfl) hn
     ·cases h
    ·cases h
   ·cases h
  ·rename_i l0 f first cap hg
   cases rb with
   | none => simp [RdRep] at hrd
   | some k =>
   split at h
   ·cases h
   rename_i r0 hr0
   split at h
   ·rename_i v H2 hc
    split at h
    ·rename_i r hr
     split at h
     ·cases h
     rename_i hcond
     have hst : r.state ≠ .busy := fun e => hcond (.inl e)
     have go : ∀ e1,jumpOf e1 = some r.pending → Goes Z ρ H w { A with marks := [] ++ A.marks } (H2.put H.size .dead) (Q (exitOf e1)) → (Code.rangeFunc g ps assign body).wpIn (FR (some k)) 0 C.P Q a w := fun e1 hj hn1 =>
      callB_rangeFunc hrec ha hg (_Z1 := Z) (_w1 := w) (_ρ1 := ρ) (_m := 0) (_rd := none) (pl := ⟨w.heap.size,0,0,0⟩) (fun fn => enter_in hs ha hr0 hrd fn) hc hr hst hs.lk hj hn1
     split at h
     ·rename_i hp
      simp at h;obtain ⟨rfl,rfl,rfl⟩ := h
      exact go .normal (by rw [hp];rfl) hn
     ·rename_i hp
      simp at h;obtain ⟨rfl,rfl,rfl⟩ := h
      exact go .ret (by rw [hp];rfl) hn
     ·rename_i id hp
      simp at h;obtain ⟨rfl,rfl,rfl⟩ := h
      exact go (.exit id) (by rw [hp];rfl) hn
     ·cases h
    ·cases h
   ·cases h
  ·cases h
 case scope c ih =>
  simp only [codeA] at h
  refine wpIn_scope (ih hs ha hrd h fun a' w' Z' ρ' g1 g2 g3 => ?_)
  have := hn a' w' Z' ρ' g1 g2 g3
  cases e <;> exact this
 all_goals simp [codeA] at h
end Go.Ev
namespace Go.Ev
variable {P : Program} {Z : Fzn} {ρ : Pls} {H : Heap} {w : World}
theorem var_run (hs : Sim Z ρ H w) {t : TypeId} {p v : AV} {a : Value} (hp : Rep Z ρ p a) (h : loadA P H t p = some v) : ∃ x,(do loadVar t (← asAddr a)).run P w = .ok x w ∧ Rep Z ρ v x := by
 unfold loadA at h
 split at h
 ·rename_i b ver k
  split at h
  ·rename_i cs hrow
   obtain ⟨pl,arr,e',h1,h2, -, -, -, -,pre,vs,post,h5,h6, -, -,h8⟩ := hs.row hrow
   cases hp with
   | ptr hp =>
    rw [h1] at hp;cases hp
    obtain ⟨x,hx,hr⟩ := load_at (P := P) h2 h5 h8 h
    rw [h6] at hx
    exact ⟨x,by simp [asAddr,hx],hr⟩
  ·cases h
 ·rename_i y k
  cases hp with
  | ro hz ha hl hh =>
   obtain ⟨x,hx,hr⟩ := load_at (P := P) (Z := Z) (ρ := noPls) (hs.zok _ _ hz) ha ⟨hl,hh⟩ h
   exact ⟨x,by simp [asAddr,hx],hr.mono (.refl _) (leP_no _)⟩
 ·cases h
theorem results_list {C : Cfg} (hs : Sim Z ρ H w) {A : AAct} {a : Act} (ha : SimA Z ρ A a) : ∀ {l : List ResultVar} {vs : List AV},resultsA C A H l = some vs → ∃ xs,(l.mapM fun (r : ResultVar) => (match r with
  | .tmp t => pure (a.tmps.getD t undef)
  | .cell c t => do loadVar t (← asAddr (a.tmps.getD c undef)) : Sem Value)).run C.P w = .ok xs w ∧ RepL Z ρ vs xs
 | [],vs,h => by simp [resultsA] at h;subst h;exact ⟨[],rfl,.nil⟩
 | .tmp t :: r,vs,h => by
  simp only [resultsA] at h
  split at h
  ·rename_i v ws h1 h2
   simp at h;subst h
   obtain ⟨xs,q1,q2⟩ := results_list hs ha h2
   obtain ⟨x,q3,q4⟩ := ha.tmps _ _ h1
   refine ⟨x :: xs, ?_,.cons q4 q2⟩
   rw [List.mapM_cons]
   have hx : a.tmps.getD t undef = x := by simp [Array.getD_eq_getD_getElem?,q3]
   simp only [Sem.run_bind,Sem.run_pure,Result.andThen_ok,q1,hx]
  ·cases h
 | .cell t ty :: r,vs,h => by
  simp only [resultsA] at h
  split at h
  ·rename_i v ws h1 h2
   simp at h;subst h
   obtain ⟨xs,q1,q2⟩ := results_list hs ha h2
   simp only [Option.bind_eq_some_iff] at h1
   obtain ⟨p,hp,hv⟩ := h1
   obtain ⟨x,q3,q4⟩ := ha.tmps _ _ hp
   obtain ⟨y,q5,q6⟩ := var_run (P := C.P) hs q4 hv
   refine ⟨y :: xs, ?_,.cons q6 q2⟩
   rw [List.mapM_cons]
   simp only [Sem.run_bind] at q5
   have hx : a.tmps.getD t undef = x := by simp [Array.getD_eq_getD_getElem?,q3]
   simp only [Sem.run_bind,Sem.run_pure,Result.andThen_ok,q1,hx,q5]
  ·cases h
theorem oneOf_rep {vs : List AV} {xs : List Value} (h : RepL Z ρ vs xs) : Rep Z ρ (oneOf vs) (if h : xs.toArray.size = 1 then xs.toArray[0] else .tuple xs.toArray) := by
 match vs,xs,h with
 | [],xs,h =>
  have : xs = [] := List.length_eq_zero_iff.1 h.1.symm
  subst this
  exact h.tup
 | [v],xs,h =>
  obtain ⟨x,r,rfl,hx,hr⟩ := h.uncons
  have : r = [] := List.length_eq_zero_iff.1 hr.1.symm
  subst this
  simpa [oneOf] using hx
 | v :: v' :: vs,xs,h =>
  have hl := h.1
  have : ¬ xs.toArray.size = 1 := by simp at hl ⊢;omega
  rw [dif_neg this]
  exact h.tup
theorem results_run {C : Cfg} (hs : Sim Z ρ H w) {A : AAct} {a : Act} (ha : SimA Z ρ A a) {fn : Func} {vs : List AV} (h : resultsA C A H fn.results.toList = some vs) : ∃ x,(results fn a.tmps).run C.P w = .ok x w ∧ Rep Z ρ (oneOf vs) x := by
 obtain ⟨xs,h1,h2⟩ := results_list hs ha h
 refine ⟨_, ?_,oneOf_rep h2⟩
 unfold results
 rw [Array.mapM_eq_mapM_toList]
 simp only [Sem.run_bind,map_eq_pure_bind,Sem.run_pure]
 erw [h1]
 rfl
theorem marks_go {fn : Func} {n : Nat} {tmps : Array Value} {R : Ending → World → Prop} {H2 : Heap} : ∀ {ms : List Nat} {ds : List Deferred} {Z : Fzn} {ρ : Pls} {H : Heap} {w : World},Sim Z ρ H w →
  (ds.length = ms.length ∧ ∀ (i b : Nat) (d : Deferred),ms[i]? = some b → ds[i]? = some d → ∃ pl,ρ b 0 = some pl ∧ d = { target := .collected pl.blk,args := #[] }) → killAll ms H = some H2 →
  (∀ w',Sim Z ρ H2 w' → Ext Z ρ H w Z ρ H2 w' → ∃ v,(results fn tmps).run P w' = .ok v w' ∧ R (.returned v) w') → LeavesInM Fence.wide n P fn tmps R ds .returning w
 | [],ds,Z,ρ,H,w,hs,hm,hk,hr => by
  have : ds = [] := List.length_eq_zero_iff.1 hm.1
  subst this
  simp [killAll] at hk;subst hk
  exact hr w hs (.refl _ _ _ _)
 | b :: ms,ds,Z,ρ,H,w,hs,hm,hk,hr => by
  cases ds with
  | nil => exact absurd hm.1 (by simp)
  | cons d ds =>
   obtain ⟨pl,h1,rfl⟩ := hm.2 0 b d rfl rfl
   simp only [killAll] at hk
   split at hk
   ·rename_i hb
    split at hk
    ·rename_i hlock
     obtain ⟨pl',obj,q1,q2,q3,q4⟩ := hs.objs b _ hb rfl
     have : pl' = pl := by
      have h1' : ρ b AObj.dfr.ver = some pl := h1
      rw [q1] at h1';exact Option.some.inj h1'
     subst this
     cases obj <;> simp only [RepO] at q3
     subst q3
     obtain ⟨t1,t2⟩ := hs.killTurn hb rfl hlock q1 q2 (obj' := .deferred none) (fun _ _ _ h => by cases h) (fun _ _ _ h => by cases h)
     refine ⟨by simp,.inl ⟨pl'.blk,{ w with heap := w.heap.setIfInBounds pl'.blk (.deferred none) },rfl, ?_, ?_⟩⟩
     ·simp [Instr.takeDeferred,getObj,setObj,Sem.run,q2]
     ·exact marks_go t1 ⟨by simpa using hm.1,fun i b' d' hb' hd' => hm.2 (i + 1) b' d' (by simpa using hb') (by simpa using hd')⟩ hk fun w' s e => hr w' s (t2.trans e)
    ·cases hk
   ·cases hk
theorem number_get (t : Tmp) : ∀ (k : Nat) (l : List AV) (v : AV),assoc t (number k l) = some v → ∃ i,t = k + i ∧ l[i]? = some v
 | k,[],v,h => by simp [number,assoc] at h
 | k,x :: r,v,h => by
  simp only [number,assoc] at h
  split at h
  ·rename_i hk
   simp at h;subst h
   exact ⟨0,(Nat.eq_of_beq_eq_true hk).symm,rfl⟩
  ·obtain ⟨i,h1,h2⟩ := number_get t (k + 1) r v h
   exact ⟨i + 1,h1.trans (by rw [Nat.add_assoc,Nat.add_comm 1 i]),by simpa using h2⟩
def NoGo (P : Program) : Prop := ∀ (f : FuncId) (fn : Func),P.funcs[f]? = some fn → fn.body.isSome = true → (fn.name == "runtime.NumGoroutine") = false
theorem call_sound {C : Cfg} {m : Nat} {rec : Task → Option Out} (hgo : NoGo C.P) (hrec : RecOK C.P rec) (hext : ExtOK C) (hloop : LoopMeets C m rec) (hdraw : DrawMeets C rec) {f : FuncId} {args : List AV} {H H' : Heap} {v : AV} (h : taskA C rec (.call f args H) = some (.ret v H')) : MeetsCall C.P f args H v H' := by
 simp only [taskA] at h
 split at h
 ·rename_i g hg
  simp only [Option.map_eq_some_iff,Out.ret.injEq] at h
  obtain ⟨⟨v1,H1⟩,h1,rfl,rfl⟩ := h
  exact hext.lay f g hg args H _ _ h1
 split at h
 ·rename_i fn hfn
  split at h
  ·rename_i c hc
   refine ⟨⟨fn,hfn,by rw [hc];rfl,hgo f fn hfn (by rw [hc];rfl)⟩,fun Z ρ w vals hs hl => ?_⟩
   split at h
   ·cases h
   ·rename_i e A H1 hne h1
    split at h
    ·rename_i H2 hk
     split at h
     ·rename_i vs hv
      simp at h;obtain ⟨rfl,rfl⟩ := h
      refine callsIn_wide.1 (callsIn_of_wp_marks (n := 0) hfn hc trivial ?_)
      have hlen : vals.length = args.length := hl.1.symm
      have ha : SimA Z ρ { size := args.length + (fn.ntmps - args.length),tmps := number 0 args,marks := [] } { tmps := vals.toArray ++ Array.replicate (fn.ntmps - vals.toArray.size) undef,defers := [] } := by
       refine ⟨by simp [hlen],fun t v ht => ?_,rfl,fun i b d hb => by simp at hb⟩
       obtain ⟨i,h2,h3⟩ := number_get t 0 args v ht
       obtain ⟨x,h4,h5⟩ := hl.get h3
       refine ⟨x, ?_,h5⟩
       have : t = i := h2.trans (Nat.zero_add i)
       subst this
       have hlt := (List.getElem?_eq_some_iff.1 h4).1
       rw [Array.getElem?_append_left (by simpa using hlt)]
       simpa using h4
      have hw := code_sound (rb := none) (Q := bodyPostM Fence.wide 0 C.P fn fun e w' => ∃ x,e = .returned x ∧ After Z ρ H w (oneOf vs) H2 x w') hrec hext hloop hdraw c hs ha (show RdRep ρ none none from trivial) h1 ?_
      ·exact hw
      ·intro a' w' Z' ρ' g1 g2 g3
       have fin : LeavesInM Fence.wide 0 C.P fn a'.tmps (fun e w' => ∃ x,e = .returned x ∧ After Z ρ H w (oneOf vs) H2 x w') a'.defers .returning w' :=
        marks_go g2 g1.marks hk fun w2 s2 e2 => by
         obtain ⟨x,k1,k2⟩ := results_run s2 g1 hv
         exact ⟨x,k1,x,rfl,Z',ρ',k2,s2,g3.trans e2⟩
       cases e with
       | normal => exact fin
       | ret => exact fin
       | exit id => exact absurd rfl (hne id)
     ·cases h
    ·cases h
   ·cases h
  ·cases h
 ·cases h
end Go.Ev
namespace Go.Ev
variable {P : Program} {Z : Fzn} {ρ : Pls} {H : Heap} {w : World}
theorem setTmps_rep {n : Nat} : ∀ {ps : List (Tmp × AV)} {qs : List (Tmp × Value)} {l : List (Tmp × AV)} {tmps : Array Value},tmps.size = n → (∀ t v,assoc t l = some v → ∃ x,tmps[t]? = some x ∧ Rep Z ρ v x) →
  ps.length = qs.length → (∀ (i : Nat) (p : Tmp × AV) (q : Tmp × Value),ps[i]? = some p → qs[i]? = some q → p.1 = q.1 ∧ Rep Z ρ p.2 q.2) →
  (qs.foldl (fun tmps q => tmps.setIfInBounds q.1 q.2) tmps).size = n ∧ ∀ t v,assoc t (setTmps n l ps) = some v → ∃ x,(qs.foldl (fun tmps q => tmps.setIfInBounds q.1 q.2) tmps)[t]? = some x ∧ Rep Z ρ v x
 | [],qs,l,tmps,hs,hl,hlen,_ => by
  have : qs = [] := List.length_eq_zero_iff.1 hlen.symm
  subst this
  exact ⟨hs,hl⟩
 | (d,v) :: ps,[],l,tmps,hs,hl,hlen,_ => by simp at hlen
 | (d,v) :: ps,(d',x) :: qs,l,tmps,hs,hl,hlen,hp => by
  obtain ⟨h1,h2⟩ := hp 0 _ _ rfl rfl
  simp only at h1 h2
  subst h1
  simp only [setTmps,List.foldl_cons]
  refine setTmps_rep (by simpa using hs) (fun t u ht => ?_) (by simpa using hlen) (fun i p q hp' hq' => hp (i + 1) p q (by simpa using hp') (by simpa using hq'))
  split at ht
  ·rename_i hd
   rw [assoc_set] at ht
   split at ht
   ·rename_i e;subst e
    simp at ht;subst ht
    exact ⟨x,by simp [hs,hd],h2⟩
   ·rename_i e
    obtain ⟨y,k1,k2⟩ := hl t u ht
    exact ⟨y,by simp [Array.getElem?_setIfInBounds_ne (Ne.symm e),k1],k2⟩
  ·rename_i hd
   have : tmps.setIfInBounds d x = tmps := Array.setIfInBounds_eq_of_size_le (by rw [hs];exact Nat.le_of_not_lt hd)
   rw [this]
   exact hl t u ht
theorem turnLoop (hs : Sim Z ρ H w) {b : Nat} {l : ALoop} (h : loopObj H b = some l) (hlock : H.lock ≤ b) (st : LoopState) (j : Option Code) : ∃ pl r,ρ b 0 = some pl ∧ w.heap[pl.blk]? = some (.loop r) ∧ r.state = l.state ∧
  Sim Z ρ (H.put b (.loop { l with state := st,pending := j })) { w with heap := w.heap.setIfInBounds pl.blk (.loop { r with state := st,pending := j }) } ∧
  Ext Z ρ H w Z ρ (H.put b (.loop { l with state := st,pending := j })) { w with heap := w.heap.setIfInBounds pl.blk (.loop { r with state := st,pending := j }) } := by
 obtain ⟨pl,r,h1,h2,h3,h4,h5,h6,h7,h8,h9,h10,pd,h11,h12⟩ := hs.loop h
 have hup : upd ρ b 0 pl = ρ := by
  funext c u
  simp only [upd]
  split
  ·rename_i e;obtain ⟨rfl,rfl⟩ := e;exact h1.symm
  ·rfl
 obtain ⟨q1,q2⟩ := hs.modify (o := .loop l) (o' := .loop { l with state := st,pending := j }) (pl' := pl) (obj' := .loop { r with state := st,pending := j }) (loopObj_get h) rfl h1 hlock rfl (Nat.le_refl _) (.inr h1) h2 (fun _ _ _ h => by cases h) (fun _ _ _ h => by cases h)
  ⟨rfl,rfl,h6,h7,h8,h9,by rw [show AObj.ver (.loop { l with state := st,pending := j }) = 0 from rfl,hup];exact h10,pd,by rw [show AObj.ver (.loop { l with state := st,pending := j }) = 0 from rfl,hup];exact h11,h12⟩
 rw [show AObj.ver (.loop { l with state := st,pending := j }) = 0 from rfl,hup] at q1 q2
 exact ⟨pl,r,h1,h2,h4,q1,q2⟩
theorem round_sound {C : Cfg} {m : Nat} {rec : Task → Option Out} (hrec : RecOK C.P rec) (hext : ExtOK C) (hloop : LoopMeets C m rec) (hdraw : DrawMeets C rec) {b : Nat} {args : List AV} {H H' : Heap} {v : AV} (h : taskA C rec (.round b args H) = some (.ret v H')) : MeetsRound C.P b args H v H' := by
 simp only [taskA] at h
 split at h
 ·rename_i r hr
  split at h
  ·rename_i hcond
   obtain ⟨hlen,hlock⟩ := hcond
   split at h
   ·rename_i A1 H1 h1
    split at h
    ·rename_i r1 hr1
     split at h
     ·rename_i hready
      split at h
      ·rename_i e A3 H3 h3
       split at h
       ·rename_i r3 j hr3 hj
        simp at h;obtain ⟨rfl,rfl⟩ := h
        intro Z ρ w vals pl hs hl hp
        obtain ⟨pl',r',k1,k2,k3,k4,k5,k6,k7,k8,k9,k10,k11⟩ := hs.loop hr
        have hpl : pl' = pl := by rw [k1] at hp;exact Option.some.inj hp
        rw [hpl] at k2
        have hvl : vals.length = r'.params.size := by rw [k6,← hlen];exact hl.1.symm
        have hzip : (r'.params.zip vals.toArray).toList = r'.params.toList.zip vals := by simp
        obtain ⟨g1,g2⟩ := setTmps_rep (Z := Z) (ρ := ρ) (n := r.size) (ps := r.params.toList.zip args) (qs := r'.params.toList.zip vals) (l := r.tmps) (tmps := r'.tmps) k9 k10 (by simp [k6,hl.1]) (fun i p q hp' hq' => by
         rw [k6] at hq'
         rw [List.getElem?_zip_eq_some] at hp' hq'
         obtain ⟨e1,e2⟩ := hp'
         obtain ⟨e3,e4⟩ := hq'
         rw [e1] at e3
         exact ⟨Option.some.inj e3,hl.2 i _ _ e2 e4⟩)
        let tm := (r'.params.toList.zip vals).foldl (fun tmps (q : Tmp × Value) => tmps.setIfInBounds q.1 q.2) r'.tmps
        refine ⟨r'.fn,tm,r'.assign,r'.body, ?_, ?_⟩
        ·have : ¬ vals.toArray.size ≠ r'.params.size := by simp [hvl]
         simp only [Instr.yield,Sem.run_bind,run_getLoop k2,Result.andThen_ok,this,if_false,Sem.run_pure]
         rw [← Array.foldl_toList,hzip]
        ·rw [k7,k8]
         refine roundIn_of_wpIn trivial ?_
         have ha : SimA Z ρ { size := r.size,tmps := setTmps r.size r.tmps (r.params.toList.zip args),marks := [] } { tmps := tm,defers := [] } := ⟨g1,g2,rfl,fun i b d hb => by simp at hb⟩
         refine code_sound (rb := some pl.blk) hrec hext hloop hdraw r.assign hs ha (show RdRep ρ (some b) (some pl.blk) from ⟨pl,hp,rfl⟩) h1 ?_
         intro a1 w1 Z1 ρ1 s1 s2 s3
         have hlk1 : H1.lock ≤ b := by rw [s3.lock];exact hlock
         obtain ⟨pl1,r1',t1,t2,t3,t4,t5⟩ := turnLoop s2 hr1 hlk1 .busy r1.pending
         have hpl1 : pl1 = pl := by have := s3.p _ _ _ hp;rw [t1] at this;exact Option.some.inj this
         subst hpl1
         have hpend : r1'.pending = r1.pending := by
          obtain ⟨plx,rx,x1,x2,x3,x4,x5,x6⟩ := s2.loop hr1
          rw [t1] at x1;cases x1
          rw [t2] at x2;cases x2
          exact x5
         refine ⟨{ w1 with heap := w1.heap.setIfInBounds pl1.blk (.loop { r1' with state := .busy }) }, ?_, ?_⟩
         ·simp only [Instr.beginRound,Sem.run_bind,run_getLoop t2,Result.andThen_ok,run_setObj_loop' _ t2,t3,hready,Sem.run_pure]
         ·have hbusy : ({ r1' with state := .busy,pending := r1.pending } : Loop) = { r1' with state := .busy } := by rw [← hpend]
          rw [hbusy] at t4 t5
          refine code_sound (rb := some pl1.blk) hrec hext hloop hdraw r.body t4 (s1.mono t5.z t5.p) (show RdRep ρ1 (some b) (some pl1.blk) from ⟨pl1,t1,rfl⟩) h3 ?_
          intro a3 w3 Z3 ρ3 u1 u2 u3
          have hlk3 : H3.lock ≤ b := by rw [u3.lock];exact hlk1
          obtain ⟨pl3,r3',y1,y2,y3,y4,y5⟩ := turnLoop u2 hr3 hlk3 (if j.isNone then .ready else .done) j
          have hpl3 : pl3 = pl1 := by have := u3.p _ _ _ t1;rw [y1] at this;exact Option.some.inj this
          rw [hpl3] at y2 y4 y5
          obtain ⟨ρ4,z1,z2,z3, -, -⟩ := trim_sim hs y4 (((s3.trans t5).trans u3).trans y5) [] []
          have hend : ∃ x w',(Instr.endRound pl1.blk j).run C.P w3 = .ok x w' ∧ ∃ y,Ending.returned x = .returned y ∧ After Z ρ H w (.v (.bool j.isNone)) ((H3.put b (.loop { r3 with state := if j.isNone then .ready else .done,pending := j })).trim H.size [] []) y w' :=
           ⟨_,_,by simp only [Instr.endRound,Sem.run_bind,run_getLoop y2,Result.andThen_ok,run_setObj_loop' _ y2,Sem.run_pure],_,rfl,Z3,ρ4,.v rfl,z1,z2⟩
          cases e with
          | normal => simp [jumpOf] at hj;subst hj;exact hend
          | exit id => simp [jumpOf] at hj;subst hj;exact hend
          | ret => simp [jumpOf] at hj;subst hj;exact hend
       ·cases h
      ·cases h
     ·cases h
    ·cases h
   ·cases h
  ·cases h
 ·cases h
end Go.Ev
namespace Go.Ev
variable {P : Program} {Z : Fzn} {ρ : Pls} {H : Heap} {w : World}
theorem only_get (A : AAct) (t : Tmp) (v : AV) : ∀ {ks : List Tmp},assoc t (ks.filterMap fun k => (assoc k A.tmps).map fun v => (k,v)) = some v → assoc t A.tmps = some v ∧ v ∈ (ks.filterMap fun k => (assoc k A.tmps).map fun v => (k,v)).map (·.2)
 | [],h => by simp [assoc] at h
 | k :: ks,h => by
  rw [List.filterMap_cons] at h ⊢
  cases hk : assoc k A.tmps with
  | none =>
   rw [hk] at h
   exact only_get A t v (ks := ks) h
  | some u =>
   rw [hk] at h
   simp only [Option.map_some,assoc] at h ⊢
   split at h
   ·rename_i e
    have := Nat.eq_of_beq_eq_true e
    subst this
    simp at h;subst h
    exact ⟨hk,by simp⟩
   ·obtain ⟨h1,h2⟩ := only_get A t v (ks := ks) h
    exact ⟨h1,by simp only [List.map_cons,List.mem_cons];exact .inr h2⟩
theorem trim_goes {_A A' : AAct} {H' : Heap} {ks : List Tmp} {K : Act → World → Prop} (hs : Sim Z ρ H w) (h : Goes Z ρ H w (A'.only ks) (H'.trim H.size ((A'.only ks).tmps.map (·.2)) (A'.only ks).marks) K) : Goes Z ρ H w A' H' K := by
 intro a' w' Z' ρ' g1 g2 g3
 obtain ⟨ρ'',z1,z2,z3,z4, -⟩ := trim_sim hs g2 g3 ((A'.only ks).tmps.map (·.2)) (A'.only ks).marks
 refine h a' w' Z' ρ'' ⟨g1.size,fun t v ht => ?_,g1.marks.1,fun i b d hb hd => ?_⟩ z1 z2
 ·obtain ⟨h1,h2⟩ := only_get A' t v ht
  obtain ⟨x,k1,k2⟩ := g1.tmps t v h1
  exact ⟨x,k1,z3 v h2 x k2⟩
 ·obtain ⟨pl,k1,k2⟩ := g1.marks.2 i b d hb hd
  exact ⟨pl,by rw [z4 b (List.mem_of_getElem? hb)];exact k1,k2⟩
theorem loop_sound {C : Cfg} {m : Nat} {rec : Task → Option Out} (hrec : RecOK C.P rec) (hext : ExtOK C) (hloop : LoopMeets C m rec) (hdraw : DrawMeets C rec) : LoopMeets C (m + 1) (taskA C rec) := by
 intro me rd ks c A H e A' H' h Z ρ w a rb Q hs ha hrd hn
 simp only [taskA] at h
 rw [roundsIn_succ]
 split at h
 ·rename_i A1 H1 h1
  refine code_sound hrec hext hloop hdraw c hs ha hrd h1 ?_
  refine trim_goes (_A := A) (ks := ks) hs ?_
  intro a2 w2 Z2 ρ2 g1 g2 g3
  exact hloop _ _ _ _ _ _ _ _ _ h Z2 ρ2 w2 a2 rb Q g2 g1 (hrd.mono g3.p) fun a3 w3 Z3 ρ3 k1 k2 k3 => hn a3 w3 Z3 ρ3 k1 k2 (g3.trans k3)
 ·rename_i id A1 H1 h1
  simp at h;obtain ⟨rfl,rfl,rfl⟩ := h
  refine code_sound hrec hext hloop hdraw c hs ha hrd h1 ?_
  exact trim_goes (_A := A) (ks := ks) hs hn
 ·rename_i A1 H1 h1
  simp at h;obtain ⟨rfl,rfl,rfl⟩ := h
  exact code_sound hrec hext hloop hdraw c hs ha hrd h1 hn
 ·cases h
def DrawOK (C : Cfg) : Prop := ∀ rec,RecOK C.P rec → DrawMeets C rec
theorem ev_sound {C : Cfg} (hgo : NoGo C.P) (hext : ExtOK C) (hdraw : DrawOK C) : ∀ n,RecOK C.P (evT C n) ∧ LoopMeets C n (evT C n)
 | 0 => ⟨⟨fun f args H v H' h => by simp [evT] at h,fun b args H v H' h => by simp [evT] at h⟩,fun me rd ks c A H e A' H' h => by simp [evT] at h⟩
 | n + 1 => by
  obtain ⟨h1,h2⟩ := ev_sound hgo hext hdraw n
  have hd := hdraw _ h1
  have hsucc : evT C (n + 1) = taskA C (evT C n) := rfl
  rw [hsucc]
  exact ⟨⟨fun f args H v H' h => call_sound hgo h1 hext h2 hd h,fun b args H v H' h => round_sound h1 hext h2 hd h⟩,loop_sound h1 hext h2 hd⟩
theorem ev_calls {C : Cfg} (hgo : NoGo C.P) (hext : ExtOK C) (hdraw : DrawOK C) {n : Nat} {f : FuncId} {args : List AV} {v : AV} {H H' : Heap} (h : evT C n (.call f args H) = some (.ret v H')) {vals : List Value} (hs : Sim Z ρ H w) (hl : RepL Z ρ args vals) :
  Calls C.P f vals.toArray w fun e w' => ∃ x,e = .returned x ∧ After Z ρ H w v H' x w' :=
 ((ev_sound hgo hext hdraw n).1.call _ _ _ _ _ h).2 Z ρ w vals hs hl
end Go.Ev
namespace Go.Ev
variable {P : Program}
theorem evals_congr {A A' : AAct} : ∀ {l : List Operand},(∀ x ∈ l,A.eval x = A'.eval x) → evals A l = evals A' l
 | [],_ => rfl
 | x :: r,h => by
  simp only [evals]
  rw [h x (by simp),evals_congr fun y hy => h y (by simp [hy])]
theorem evalParts_congr {A A' : AAct} : ∀ {l : List (Nat × Operand)},(∀ p ∈ l,A.eval p.2 = A'.eval p.2) → evalParts A l = evalParts A' l
 | [],_ => rfl
 | (i,x) :: r,h => by
  simp only [evalParts]
  rw [h (i,x) (by simp),evalParts_congr fun y hy => h y (by simp [hy])]
theorem opA_congr {C : Cfg} {rec : Task → Option Out} {me : FuncId} {o : Oper} {A A' : AAct} {H : Heap} {slot : Nat} (h : ∀ x ∈ o.op.operands,A.eval x = A'.eval x) : opA C rec me o A H slot = opA C rec me o A' H slot := by
 unfold opA
 cases ho : o.op <;> rw [ho] at h <;> simp only [Op.operands] at h
 case move x => simp only [h x (by simp)]
 case assign x => simp only [h x (by simp)]
 case pick c x y => simp only [h c (by simp),h x (by simp),h y (by simp)]
 case box e x => simp only [h x (by simp)]
 case build t ps => simp only [evalParts_congr (A := A) (A' := A') (l := ps.toList) fun p hp => h p.2 (by simp;exact ⟨p.1,by simpa using hp⟩)]
 case buildSlice t n ps => simp only [evalParts_congr (A := A) (A' := A') (l := ps.toList) fun p hp => h p.2 (by simp;exact ⟨p.1,by simpa using hp⟩)]
 case load t x => simp only [h x (by simp)]
 case store t x y => simp only [h x (by simp),h y (by simp)]
 case nilCheck x => simp only [h x (by simp)]
 case binOp op t x y p => simp only [h x (by simp),h y (by simp)]
 case unOp op t x => simp only [h x (by simp)]
 case convert s d x => simp only [h x (by simp)]
 case makeInterface t x => simp only [h x (by simp)]
 case makeFunc f s t => simp only [evals_congr (A := A) (A' := A') (l := s.toList) fun x hx => h x (by simp;exact .inl (by simpa using hx)),evals_congr (A := A) (A' := A') (l := t.toList) fun x hx => h x (by simp;exact .inr (by simpa using hx))]
 case makeMap t r => cases r <;> rfl
 case makeSlice t l c => simp only [h l (by simp),h c (by simp)]
 case slice t x lo hi mx =>
  have h1 := h x (by simp)
  have hl : ∀ y,lo = some y → A.eval y = A'.eval y := fun y hy => h y (by simp [hy])
  have hh : ∀ y,hi = some y → A.eval y = A'.eval y := fun y hy => h y (by simp [hy])
  have hm : ∀ y,mx = some y → A.eval y = A'.eval y := fun y hy => h y (by simp [hy])
  simp only [h1]
  cases lo <;> cases hi <;> cases mx <;> simp_all
 case fieldAddr s x i => simp only [h x (by simp)]
 case field s x i => simp only [h x (by simp)]
 case indexAddr t x i => simp only [h x (by simp),h i (by simp)]
 case index t x i => simp only [h x (by simp),h i (by simp)]
 case lookup t m k ok => simp only [h m (by simp),h k (by simp)]
 case mapUpdate t m k v => simp only [h m (by simp),h k (by simp),h v (by simp)]
 case insert t m k v => simp only [h m (by simp),h k (by simp),h v (by simp)]
 case extract x i => simp only [h x (by simp)]
 case range t x => simp only [h x (by simp)]
 case next x s => simp only [h x (by simp)]
 case entry x => simp only [h x (by simp)]
 case call c =>
  have ha : evals A c.args.toList = evals A' c.args.toList := evals_congr fun x hx => h x (by simp only [Call.operands];simp;exact .inr (by simpa using hx))
  have hcal : ∀ g,c.callee = .value g → A.eval g = A'.eval g := fun g hg => h g (by simp [Call.operands,hg])
  simp only [ha]
  generalize c.callee = cal at hcal ⊢
  cases cal with
  | builtin b =>
   generalize evals A' c.args.toList = e
   cases b <;> cases e <;> first | rfl | (rename_i l;cases l <;> rfl)
  | value g =>
   generalize evals A' c.args.toList = e
   cases e <;> simp only [hcal g rfl]
  | invoke r n =>
   generalize evals A' c.args.toList = e
   cases e <;> rfl
theorem objsO_congr {A A' : AAct} {x : Operand} (h : A.eval x = A'.eval x) : objsO A x = objsO A' x := by unfold objsO;rw [h]
theorem footA_congr {C : Cfg} {me : FuncId} {o : Oper} {A A' : AAct} {slot : Nat} (h : ∀ x ∈ o.op.operands,A.eval x = A'.eval x) : footA C me o A slot = footA C me o A' slot := by
 unfold footA
 cases ho : o.op <;> rw [ho] at h <;> simp only [Op.operands] at h
 case load t x => simp only [objsO_congr (h x (by simp))]
 case store t x y => simp only [objsO_congr (h x (by simp))]
 case slice t x lo hi mx => simp only [objsO_congr (h x (by simp))]
 case lookup t m k ok => simp only [objsO_congr (h m (by simp))]
 case mapUpdate t m k v => simp only [objsO_congr (h m (by simp))]
 case insert t m k v => simp only [objsO_congr (h m (by simp))]
 case call c =>
  have ha : evals A c.args.toList = evals A' c.args.toList := evals_congr fun x hx => h x (by simp only [Call.operands];simp;exact .inr (by simpa using hx))
  have hm : ∀ x ∈ c.args.toList,A.eval x = A'.eval x := fun x hx => h x (by simp only [Call.operands];simp;exact .inr (by simpa using hx))
  have hfl : ∀ l : List Operand,(∀ x ∈ l,A.eval x = A'.eval x) → l.flatMap (objsO A) = l.flatMap (objsO A') := by
   intro l
   induction l with
   | nil => intro _;rfl
   | cons x r ih => intro h;rw [List.flatMap_cons,List.flatMap_cons,ih fun y hy => h y (by simp [hy]),objsO_congr (h x (by simp))]
  have hfi : firstO A c.args.toList = firstO A' c.args.toList := by
   generalize c.args.toList = l at hm
   cases l with
   | nil => rfl
   | cons x r => exact objsO_congr (hm x (by simp))
  have hcal : ∀ g,c.callee = .value g → A.eval g = A'.eval g := fun g hg => h g (by simp [Call.operands,hg])
  simp only [ha,hfl _ hm,hfi]
  generalize c.callee = cal at hcal ⊢
  generalize evals A' c.args.toList = e
  cases cal with
  | builtin b => cases b <;> rfl
  | value g => simp only [hcal g rfl]
  | invoke r n => rfl
theorem plain_same {C : Cfg} {rec : Task → Option Out} {me : FuncId} {o : Oper} {A : AAct} {H H1 : Heap} {slot : Nat} {r : Option AV} (hp : plainO o = true) (h : opA C rec me o A H slot = some (r,H1)) : H1 = H ∧ ∀ H2,opA C rec me o A H2 slot = some (r,H2) := by
 have key : ∃ E : Option AV,∀ H,opA C rec me o A H slot = E.map fun v => (some v,H) := by
  unfold opA
  unfold plainO at hp
  cases ho : o.op <;> rw [ho] at hp <;> simp only [] at hp <;> first | (cases hp;done) | skip
  all_goals simp only []
  case move x => exact ⟨_,fun H => rfl⟩
  case assign x => exact ⟨_,fun H => rfl⟩
  case pick c x y =>
   split
   ·exact ⟨_,fun H => rfl⟩
   ·exact ⟨none,fun H => rfl⟩
  case build t ps =>
   split
   ·exact ⟨_,fun H => rfl⟩
   ·exact ⟨none,fun H => rfl⟩
  case nilCheck x =>
   split
   ·exact ⟨some _,fun H => rfl⟩
   ·exact ⟨some _,fun H => rfl⟩
   ·exact ⟨some _,fun H => rfl⟩
   ·exact ⟨some _,fun H => rfl⟩
   ·exact ⟨some _,fun H => rfl⟩
   ·exact ⟨none,fun H => rfl⟩
  case binOp op t x y p =>
   split
   ·exact ⟨_,fun H => rfl⟩
   ·exact ⟨none,fun H => rfl⟩
  case unOp op t x =>
   split
   ·exact ⟨_,fun H => rfl⟩
   ·exact ⟨none,fun H => rfl⟩
  case convert s d x =>
   split
   ·exact ⟨_,fun H => rfl⟩
   ·split
    ·exact ⟨some _,fun H => rfl⟩
    ·exact ⟨none,fun H => rfl⟩
   ·split
    ·split
     ·exact ⟨some _,fun H => rfl⟩
     ·exact ⟨none,fun H => rfl⟩
    ·exact ⟨none,fun H => rfl⟩
   ·exact ⟨none,fun H => rfl⟩
  case makeInterface t x =>
   split
   ·exact ⟨none,fun H => rfl⟩
   ·exact ⟨some _,fun H => rfl⟩
   ·exact ⟨none,fun H => rfl⟩
  case makeFunc f s t =>
   split
   ·split
    ·exact ⟨some _,fun H => rfl⟩
    ·exact ⟨none,fun H => rfl⟩
   ·exact ⟨none,fun H => rfl⟩
  case fieldAddr s x i =>
   split
   ·exact ⟨_,fun H => rfl⟩
   ·exact ⟨none,fun H => rfl⟩
  case field s x i =>
   split
   ·exact ⟨_,fun H => rfl⟩
   ·exact ⟨none,fun H => rfl⟩
  case indexAddr t x i =>
   split
   ·exact ⟨_,fun H => rfl⟩
   ·exact ⟨none,fun H => rfl⟩
  case index t x i =>
   split
   ·exact ⟨_,fun H => rfl⟩
   ·exact ⟨none,fun H => rfl⟩
  case extract x i =>
   split
   ·exact ⟨_,fun H => rfl⟩
   ·exact ⟨none,fun H => rfl⟩
 obtain ⟨E,hE⟩ := key
 rw [hE] at h
 cases E with
 | none => cases h
 | some v =>
  simp at h
  obtain ⟨rfl,rfl⟩ := h
  exact ⟨rfl,fun H2 => by rw [hE];rfl⟩
def Keeps (H H1 : Heap) (W : List Nat) : Prop := H1.lock = H.lock ∧ H1.size = H.size ∧ ∀ b,b ∉ W → H1.get b = H.get b
theorem setOrPush_size {α : Type} (x : α) : ∀ (n : Nat) (l : List α),n < l.length → (setOrPush x n l).length = l.length
 | _,[],h => by simp at h
 | 0,_ :: _,_ => rfl
 | n + 1,y :: r,h => by simp [setOrPush,setOrPush_size x n r (by simpa using h)]
theorem Keeps.put {H : Heap} {b : Nat} {o : AObj} {W : List Nat} (hb : b < H.size) (hW : b ∈ W) : Keeps H (H.put b o) W :=
 ⟨rfl,setOrPush_size _ _ _ hb,fun c hc => by rw [H.get_put b o (Nat.le_of_lt hb),if_neg fun e => hc (by rw [e];exact hW)]⟩
theorem Keeps.refl (H : Heap) (W : List Nat) : Keeps H H W := ⟨rfl,rfl,fun _ _ => rfl⟩
theorem store_keeps {H H1 : Heap} {b v k : Nat} {xs : List AV} {W : List Nat} (hW : b ∈ W) (h : storeCells H b v k xs = some H1) : Keeps H H1 W := by
 unfold storeCells at h
 split at h
 ·rename_i hr
  split at h
  ·simp at h;subst h
   exact .put (Heap.get_lt (Heap.row_get hr)) hW
  ·cases h
 ·cases h
theorem made_keeps {H H1 : Heap} {slot : Nat} {e : TypeId} {i : TypeInfo} {need : Nat} {old new : List AV} {v : AV} {W : List Nat} (hs : slot < H.size) (hW : slot ∈ W) (h : madeA H slot e i need old new = some (v,H1)) : Keeps H H1 W := by
 unfold madeA at h
 split at h
 ·simp at h;obtain ⟨-,rfl⟩ := h;exact .put hs hW
 ·cases h
theorem appendTo_keeps {H H1 : Heap} {slot : Nat} {e : TypeId} {i : TypeInfo} {n : Nat} {new : List AV} {s v : AV} {W : List Nat} (hs : slot < H.size) (hW : slot ∈ W) (hW2 : ∀ b ∈ objsOf s,b ∈ W) (h : appendTo H slot e i n new s = some (v,H1)) : Keeps H H1 W := by
 unfold appendTo at h
 split at h
 ·split at h
  ·simp at h;obtain ⟨-,rfl⟩ := h;exact .refl _ _
  ·exact made_keeps hs hW h
 ·split at h
  ·cases h
  ·split at h
   ·simp at h;obtain ⟨-,rfl⟩ := h;exact .refl _ _
   ·split at h
    ·split at h
     ·exact made_keeps hs hW h
     ·cases h
    ·cases h
 ·rename_i b ver off len cap
  have hb : b ∈ W := hW2 b (by simp [objsOf])
  split at h
  ·simp at h;obtain ⟨-,rfl⟩ := h;exact .refl _ _
  ·split at h
   ·rename_i hr
    split at h
    ·split at h
     ·split at h
      ·rename_i hst
       simp at h;obtain ⟨-,rfl⟩ := h
       exact store_keeps hb hst
      ·cases h
     ·split at h
      ·exact made_keeps hs hW h
      ·cases h
    ·split at h
     ·cases h
     ·split at h
      ·split at h
       ·rename_i hst
        simp at h;obtain ⟨-,rfl⟩ := h
        exact store_keeps hb hst
       ·cases h
      ·split at h
       ·simp at h;obtain ⟨-,rfl⟩ := h
        exact .put (Heap.get_lt (Heap.row_get hr)) hb
       ·cases h
   ·cases h
 ·cases h
end Go.Ev
namespace Go.Ev
variable {P : Program}
theorem objsO_eval {A : AAct} {x : Operand} {v : AV} (h : A.eval x = some v) : objsO A x = objsOf v := by unfold objsO;rw [h]
theorem Keeps.mono {H H1 : Heap} {W W' : List Nat} (h : Keeps H H1 W) (hw : ∀ b ∈ W,b ∈ W') : Keeps H H1 W' := ⟨h.1,h.2.1,fun b hb => h.2.2 b fun hb' => hb (hw b hb')⟩
theorem opA_keeps {C : Cfg} {rec : Task → Option Out} {me : FuncId} {o : Oper} {A : AAct} {H H1 : Heap} {slot : Nat} {r : Option AV} {W : List Nat} (h : opA C rec me o A H slot = some (r,H1)) (hs : slot < H.size) (hW : (footA C me o A slot).writes = some W) : Keeps H H1 (W ++ (footA C me o A slot).fresh) := by
 by_cases hp : plainO o = true
 ·rw [(plain_same hp h).1];exact .refl _ _
 unfold opA at h
 unfold footA at hW ⊢
 unfold plainO at hp
 cases ho : o.op <;> rw [ho] at h hp <;> simp only [] at h hp <;> (try rw [ho] at hW) <;> simp only [] at hW ⊢ <;> first | (exact absurd trivial hp) | (exact absurd rfl hp) | (cases h;done) | skip
 case alloc e =>
  split at h
  ·split at h
   ·cases h
   ·simp at h;obtain ⟨-,rfl⟩ := h
    exact .put hs (by simp)
  ·cases h
 case box e x =>
  split at h
  ·split at h
   ·cases h
   ·simp at h;obtain ⟨-,rfl⟩ := h
    exact .put hs (by simp)
  ·cases h
 case buildSlice t n ps =>
  split at h
  ·simp only [Option.map_eq_some_iff,Prod.mk.injEq] at h
   obtain ⟨⟨v,H2⟩,hv, -,rfl⟩ := h
   unfold buildSliceA at hv
   split at hv
   ·split at hv
    ·split at hv
     ·split at hv
      ·split at hv
       ·cases hv
       ·split at hv
        ·simp at hv;obtain ⟨-,rfl⟩ := hv;exact .put hs (by simp)
        ·simp at hv;obtain ⟨-,rfl⟩ := hv;exact .refl _ _
      ·cases hv
     ·cases hv
    ·cases hv
   ·cases hv
  ·cases h
 case load t x =>
  split at h
  ·simp only [Option.map_eq_some_iff,Prod.mk.injEq] at h
   obtain ⟨v,hv, -,rfl⟩ := h
   exact .refl _ _
  ·cases h
 case store t x y =>
  split at h
  ·rename_i p v hpx hvx
   simp only [Option.map_eq_some_iff,Prod.mk.injEq] at h
   obtain ⟨H2,hv, -,rfl⟩ := h
   simp only [Option.some.injEq] at hW;subst hW
   unfold storeA at hv
   split at hv
   ·split at hv
    ·exact store_keeps (by rw [objsO_eval hpx];simp [objsOf]) hv
    ·cases hv
   ·cases hv
  ·cases h
 case range t x => cases hW
 case next x s => cases hW
 case entry x => cases hW
 case makeMap t rr =>
  cases rr with
  | some y => cases h
  | none => simp at h;obtain ⟨-,rfl⟩ := h;exact .put hs (by simp)
 case makeSlice t l c =>
  split at h
  ·simp only [Option.map_eq_some_iff,Prod.mk.injEq] at h
   obtain ⟨⟨v,H2⟩,hv, -,rfl⟩ := h
   unfold makeSliceA at hv
   split at hv
   ·split at hv
    ·split at hv
     ·simp at hv;obtain ⟨-,rfl⟩ := hv;exact .put hs (by simp)
     ·cases hv
    ·cases hv
   ·cases hv
  ·cases h
 case slice t x lo hi mx =>
  split at h
  ·simp only [Option.map_eq_some_iff,Prod.mk.injEq] at h
   obtain ⟨v,hv, -,rfl⟩ := h
   exact .refl _ _
  ·cases h
 case lookup t m k ok =>
  split at h
  ·simp only [Option.map_eq_some_iff,Prod.mk.injEq] at h
   obtain ⟨v,hv, -,rfl⟩ := h
   exact .refl _ _
  ·cases h
 case mapUpdate t m k v =>
  split at h
  ·rename_i p q u hpx hqx hux
   simp only [Option.map_eq_some_iff,Prod.mk.injEq] at h
   obtain ⟨H2,hv, -,rfl⟩ := h
   simp only [Option.some.injEq] at hW;subst hW
   unfold updateA at hv
   split at hv
   ·rename_i b hok
    split at hv
    ·rename_i hb
     have hbm : b ∈ objsO A m := by rw [objsO_eval hpx];simp [objsOf]
     have hlt := Heap.get_lt hb
     split at hv
     ·split at hv
      ·split at hv
       ·split at hv
        ·simp at hv;subst hv;exact .put hlt (by simp [hbm])
        ·cases hv
       ·cases hv
      ·simp at hv;subst hv;exact .put hlt (by simp [hbm])
      ·cases hv
     ·cases hv
    ·cases hv
   ·cases hv
  ·cases h
 case insert t m k v =>
  split at h
  ·rename_i p q u hpx hqx hux
   simp only [Option.map_eq_some_iff,Prod.mk.injEq] at h
   obtain ⟨H2,hv, -,rfl⟩ := h
   simp only [Option.some.injEq] at hW;subst hW
   unfold updateA at hv
   split at hv
   ·rename_i b hok
    split at hv
    ·rename_i hb
     have hbm : b ∈ objsO A m := by rw [objsO_eval hpx];simp [objsOf]
     have hlt := Heap.get_lt hb
     split at hv
     ·split at hv
      ·split at hv
       ·split at hv
        ·simp at hv;subst hv;exact .put hlt (by simp [hbm])
        ·cases hv
       ·cases hv
      ·simp at hv;subst hv;exact .put hlt (by simp [hbm])
      ·cases hv
     ·cases hv
    ·cases hv
   ·cases hv
  ·cases h
 case call c =>
  split at h
  ·rename_i args hc ha
   simp only [Option.map_eq_some_iff,Prod.mk.injEq] at h
   obtain ⟨⟨v,H2⟩,hv, -,rfl⟩ := h
   simp only [hc,Option.some.injEq] at hW ⊢;subst hW
   unfold appendA at hv
   split at hv
   ·rename_i t u s x
    split at hv
    ·unfold growA at hv
     split at hv
     ·split at hv
      ·split at hv
       ·exact made_keeps hs (by simp) hv
       ·cases hv
      ·cases hv
     ·cases hv
    ·split at hv
     ·split at hv
      ·split at hv
       ·cases hv
       ·split at hv
        ·cases hv
        ·refine appendTo_keeps hs (by simp) (fun b hb => ?_) hv
         refine List.mem_append_left _ ?_
         cases hl : c.args.toList with
         | nil => rw [hl] at ha;simp [evals] at ha
         | cons y ys =>
          rw [hl] at ha
          simp only [evals] at ha
          split at ha
          ·rename_i h1 h2
           simp at ha
           simp only [firstO,objsO_eval h1]
           rw [ha.1];exact hb
          ·cases ha
      ·cases hv
     ·cases hv
   ·cases hv
  ·rename_i args hc ha
   simp only [Option.map_eq_some_iff,Prod.mk.injEq] at h
   obtain ⟨⟨v,H2⟩,hv, -,rfl⟩ := h
   simp only [hc,Option.some.injEq] at hW ⊢;subst hW
   unfold copyA at hv
   split at hv
   ·rename_i t _ d x
    split at hv
    ·split at hv
     ·rename_i s b ver off len cap _
      split at hv
      ·split at hv
       ·rename_i hst
        simp at hv;obtain ⟨-,rfl⟩ := hv
        refine store_keeps (List.mem_append_left _ ?_) hst
        cases hl : c.args.toList with
        | nil => rw [hl] at ha;simp [evals] at ha
        | cons y ys =>
         rw [hl] at ha
         simp only [evals] at ha
         split at ha
         ·rename_i h1 h2
          simp at ha
          simp only [firstO,objsO_eval h1]
          rw [ha.1];simp [objsOf]
         ·cases ha
       ·cases hv
      ·cases hv
     ·split at hv
      ·simp at hv;obtain ⟨-,rfl⟩ := hv;exact .refl _ _
      ·cases hv
     ·cases hv
    ·cases hv
   ·cases hv
  ·simp only [Option.map_eq_some_iff,Prod.mk.injEq] at h
   obtain ⟨v,hv, -,rfl⟩ := h
   exact .refl _ _
  ·simp only [Option.map_eq_some_iff,Prod.mk.injEq] at h
   obtain ⟨v,hv, -,rfl⟩ := h
   exact .refl _ _
  ·simp only [Option.map_eq_some_iff,Prod.mk.injEq] at h
   obtain ⟨v,hv, -,rfl⟩ := h
   exact .refl _ _
  ·simp only [Option.map_eq_some_iff,Prod.mk.injEq] at h
   obtain ⟨v,hv, -,rfl⟩ := h
   exact .refl _ _
  ·rename_i args hc ha
   simp only [Option.map_eq_some_iff,Prod.mk.injEq] at h
   obtain ⟨H2,hv, -,rfl⟩ := h
   simp only [hc,Option.some.injEq] at hW ⊢;subst hW
   unfold deleteA at hv
   split at hv
   ·rename_i t _ m k _
    split at hv
    ·rename_i b hok
     split at hv
     ·rename_i hb
      have hlt := Heap.get_lt hb
      have hbm : b ∈ firstO A c.args.toList := by
       cases hl : c.args.toList with
       | nil => rw [hl] at ha;simp [evals] at ha
       | cons y ys =>
        rw [hl] at ha
        simp only [evals] at ha
        split at ha
        ·rename_i h1 h2
         simp at ha
         simp only [firstO,objsO_eval h1]
         rw [ha.1];simp [objsOf]
        ·cases ha
      split at hv
      ·split at hv
       ·simp at hv;subst hv;exact .put hlt (by simp [hbm])
       ·simp at hv;subst hv;exact .put hlt (by simp [hbm])
       ·cases hv
      ·cases hv
     ·cases hv
    ·cases hv
   ·cases hv
  ·rename_i args hc ha
   simp only [Option.map_eq_some_iff,Prod.mk.injEq] at h
   obtain ⟨H2,hv, -,rfl⟩ := h
   simp only [hc,Option.some.injEq] at hW ⊢;subst hW
   unfold clearA at hv
   split at hv
   ·rename_i t _ d _
    split at hv
    ·split at hv
     ·rename_i s z b ver off len cap _ _
      split at hv
      ·split at hv
       ·refine store_keeps (List.mem_append_left _ ?_) hv
        cases hl : c.args.toList with
        | nil => rw [hl] at ha;simp [evals] at ha
        | cons y ys =>
         rw [hl] at ha
         simp only [evals] at ha
         split at ha
         ·rename_i h1 h2
          simp at ha
          simp only [firstO,objsO_eval h1]
          rw [ha.1];simp [objsOf]
         ·cases ha
       ·cases hv
      ·simp at hv;subst hv;exact .refl _ _
     ·simp at hv;subst hv;exact .refl _ _
     ·cases hv
    ·cases hv
   ·cases hv
  ·simp only [Option.map_eq_some_iff,Prod.mk.injEq] at h
   obtain ⟨v,hv, -,rfl⟩ := h
   exact .refl _ _
  ·rename_i args hc ha
   simp only [Option.map_eq_some_iff,Prod.mk.injEq] at h
   obtain ⟨⟨v2,H2⟩,hv, -,rfl⟩ := h
   simp only [hc,Option.some.injEq] at hW ⊢;subst hW
   unfold unsafeStrA at hv
   split at hv
   ·split at hv
    ·simp at hv;obtain ⟨-,rfl⟩ := hv;exact .refl _ _
    ·cases hv
   ·rename_i pt it b ver k n
    split at hv
    ·rename_i hrow
     split at hv
     ·split at hv
      ·simp at hv;obtain ⟨-,rfl⟩ := hv
       refine .put (Heap.get_lt (Heap.row_get hrow)) (List.mem_append_left _ ?_)
       cases hl : c.args.toList with
       | nil => rw [hl] at ha;simp [evals] at ha
       | cons y ys =>
        rw [hl] at ha
        simp only [evals] at ha
        split at ha
        ·rename_i h1 h2
         simp at ha
         simp only [firstO,objsO_eval h1]
         rw [ha.1];simp [objsOf]
        ·cases ha
      ·cases hv
     ·cases hv
    ·cases hv
   ·cases hv
  ·rename_i g args hc ha
   simp only [hc,ha] at hW ⊢
   split at h
   ·rename_i f first cap hg
    simp only [Option.map_eq_some_iff,Prod.mk.injEq] at h
    obtain ⟨⟨v,H2⟩,hv, -,rfl⟩ := h
    simp only [hg] at hW ⊢
    have : H2 = H := by
     unfold callA at hv
     split at hv
     ·simp only [Option.some.injEq,Prod.mk.injEq] at hv
      exact hv.2.symm
     ·rename_i hx
      simp only [hx,Option.isSome_none,Bool.false_eq_true,if_false] at hW
      split at hv
      ·simp only [Option.some.injEq,Prod.mk.injEq] at hv
       exact hv.2.symm
      unfold callB at hv
      split at hv
      ·split at hv
       ·simp only [Option.map_eq_some_iff,Prod.mk.injEq] at hv
        obtain ⟨_,_,_,rfl⟩ := hv;rfl
       ·cases hv
      ·split at hv
       ·simp only [Option.map_eq_some_iff,Prod.mk.injEq] at hv
        obtain ⟨_,_,_,rfl⟩ := hv;rfl
       ·cases hv
      ·rename_i k1 k2
       exfalso
       split at hW
       ·exact k1 (by assumption)
       ·exact k2 (by assumption)
       ·cases hW
    rw [this];exact .refl _ _
   ·rename_i b hg
    simp only [hg] at hW
    cases hW
   ·cases h
  ·cases h
end Go.Ev
namespace Go.Ev
variable {P : Program} {Z : Fzn} {ρ : Pls} {H : Heap} {w : World}
theorem hideFrom_len (vis : Nat → Bool) : ∀ (i : Nat) (l : List (Option AObj)),(hideFrom vis i l).length = l.length
 | _,[] => rfl
 | i,x :: r => by simp [hideFrom,hideFrom_len vis (i + 1) r]
theorem hideFrom_get (vis : Nat → Bool) : ∀ (i : Nat) (l : List (Option AObj)) (j : Nat),(hideFrom vis i l)[j]? = (l[j]?).map fun x => if vis (i + j) then x else some .dead
 | i,[],j => by simp [hideFrom]
 | i,x :: r,0 => by simp [hideFrom]
 | i,x :: r,j + 1 => by
  simp only [hideFrom,List.getElem?_cons_succ]
  rw [hideFrom_get vis (i + 1) r j,show i + 1 + j = i + (j + 1) by omega]
theorem hide_size (H : Heap) (vis : Nat → Bool) : (H.hide vis).size = H.size := hideFrom_len _ _ _
theorem hide_get (H : Heap) (vis : Nat → Bool) (b : Nat) : (H.hide vis).get b = if b < H.size then (if vis b then H.get b else some .dead) else none := by
 simp only [Heap.get,Heap.hide,hideFrom_get,Nat.zero_add]
 by_cases hb : b < H.size
 ·rw [if_pos hb,List.getElem?_eq_getElem (show b < H.objs.length from hb)]
  simp only [Option.map_some,Option.join_some]
 ·rw [if_neg hb,List.getElem?_eq_none (Nat.le_of_not_lt hb)]
  rfl
theorem mergeFrom_len (vis : Nat → Bool) : ∀ (i : Nat) (l m : List (Option AObj)),l.length ≤ m.length → (mergeFrom vis i l m).length = m.length
 | _,[],m,_ => rfl
 | i,x :: r,[],h => by simp at h
 | i,x :: r,y :: s,h => by simp [mergeFrom,mergeFrom_len vis (i + 1) r s (by simpa using h)]
theorem mergeFrom_get (vis : Nat → Bool) : ∀ (i : Nat) (l m : List (Option AObj)),l.length ≤ m.length → ∀ j,(mergeFrom vis i l m)[j]? = if j < l.length then (if vis (i + j) then m[j]? else l[j]?) else m[j]?
 | i,[],m,_,j => by simp [mergeFrom]
 | i,x :: r,[],h,j => by simp at h
 | i,x :: r,y :: s,h,0 => by simp [mergeFrom];split <;> rfl
 | i,x :: r,y :: s,h,j + 1 => by
  simp only [mergeFrom,List.getElem?_cons_succ,List.length_cons,Nat.add_lt_add_iff_right]
  rw [mergeFrom_get vis (i + 1) r s (by simpa using h) j,show i + 1 + j = i + (j + 1) by omega]
theorem merge_size {H H1 : Heap} (vis : Nat → Bool) (h : H.size ≤ H1.size) : (H.merge vis H1).size = H1.size := mergeFrom_len _ _ _ _ h
theorem merge_get {H H1 : Heap} (vis : Nat → Bool) (h : H.size ≤ H1.size) (b : Nat) : (H.merge vis H1).get b = if b < H.size then (if vis b then H1.get b else H.get b) else H1.get b := by
 simp only [Heap.get,Heap.merge,mergeFrom_get vis 0 H.objs H1.objs h b,Nat.zero_add]
 split
 ·rename_i hb
  rw [if_pos (show b < H.size from hb)]
  split <;> rfl
 ·rename_i hb
  rw [if_neg (show ¬ b < H.size from hb)]
theorem hide_sim (hs : Sim Z ρ H w) (vis : Nat → Bool) : Sim Z ρ (H.hide vis) w := by
 have hg : ∀ b o,(H.hide vis).get b = some o → o.live = true → vis b = true ∧ H.get b = some o := fun b o h hl => by
  rw [hide_get] at h
  split at h
  ·split at h
   ·rename_i hv;exact ⟨hv,h⟩
   ·cases h;simp [AObj.live] at hl
  ·cases h
 refine ⟨fun b o h hl => hs.objs b o (hg b o h hl).2 hl,fun b b' o o' pl pl' h hl h' hl' => hs.inj b b' o o' pl pl' (hg b o h hl).2 hl (hg b' o' h' hl').2 hl',hs.zok,fun b v pl hp => ?_,by rw [hide_size];exact hs.lk,hs.lg⟩
 obtain ⟨o,h1,h2⟩ := hs.fresh b v pl hp
 rw [hide_get,if_pos (Heap.get_lt h1)]
 split
 ·exact ⟨o,h1,h2⟩
 ·exact ⟨.dead,rfl,fun h => by simp [AObj.live] at h⟩
theorem merge_sim (hs : Sim Z ρ H w) (vis : Nat → Bool) {Z' : Fzn} {ρ' : Pls} {H1 : Heap} {w' : World} (hs1 : Sim Z' ρ' H1 w') (he : Ext Z ρ (H.hide vis) w Z' ρ' H1 w') (hsz : H.size ≤ H1.size) :
  Sim Z' ρ' (H.merge vis H1) w' ∧ Ext Z ρ H w Z' ρ' (H.merge vis H1) w' := by
 have hinv : ∀ b,b < H.size → ¬ vis b = true → H1.get b = some .dead ∧ ∀ v,ρ' b v = ρ b v := fun b hb hv => he.dd b .dead (by rw [hide_get,if_pos hb,if_neg hv]) rfl
 have hvis : ∀ b o,(H.hide vis).get b = some o → o.live = true → vis b = true ∧ H.get b = some o := fun b o h hl => by
  rw [hide_get] at h
  split at h
  ·split at h
   ·rename_i hv;exact ⟨hv,h⟩
   ·cases h;simp [AObj.live] at hl
  ·cases h
 -- where an object is from
 have from' : ∀ b o,(H.merge vis H1).get b = some o → o.live = true → (H1.get b = some o) ∨ (b < H.size ∧ ¬ vis b = true ∧ H.get b = some o) := fun b o h hl => by
  rw [merge_get vis hsz] at h
  split at h
  ·rename_i hb
   split at h
   ·exact .inl h
   ·rename_i hv;exact .inr ⟨hb,hv,h⟩
  ·exact .inl h
 have hnot : ∀ b o pl,¬ vis b = true → H.get b = some o → o.live = true → ρ b o.ver = some pl → ¬ Own ρ (H.hide vis) pl.blk := fun b o pl hv hb hl hp ho => by
  obtain ⟨b',o',pl',h1,h2,h3,h4,h5⟩ := ho
  obtain ⟨g1,g2⟩ := hvis b' o' h2 h3
  have := hs.inj b' b o' o pl' pl g2 h3 hb hl h4 hp h5
  subst this
  exact hv g1
 have hsub : ∀ k,Own ρ (H.hide vis) k → Own ρ H k := fun k ho => by
  obtain ⟨b',o',pl',h1,h2,h3,h4,h5⟩ := ho
  exact ⟨b',o',pl',h1,(hvis b' o' h2 h3).2,h3,h4,h5⟩
 have hlock : (H.merge vis H1).lock = H.lock := rfl
 have mixed : ∀ b o pl b' o' pl',b < H.size → ¬ vis b = true → H.get b = some o → o.live = true → ρ' b o.ver = some pl → H1.get b' = some o' → o'.live = true → ρ' b' o'.ver = some pl' → pl.blk = pl'.blk → b = b' := fun b o pl b' o' pl' hb hv ho hl hp ho' hl' hp' e => by
  exfalso
  rw [(hinv b hb hv).2] at hp
  have hlt := hs.blk_lt ho hl hp
  by_cases hlk : H.lock ≤ b'
  ·refine hnot b o pl hv ho hl hp ?_
   rw [e] at hlt ⊢
   exact he.own _ hlt ⟨b',o',pl',by rw [he.lock];exact hlk,ho',hl',hp',rfl⟩
  ·have hlk : b' < (H.hide vis).lock := Nat.lt_of_not_le hlk
   rw [he.old b' hlk] at ho'
   obtain ⟨g1,g2⟩ := hvis b' o' ho' hl'
   rw [he.pold b' hlk] at hp'
   have := hs.inj b b' o o' pl pl' ho hl g2 hl' hp hp' e
   subst this
   exact hv g1
 refine ⟨⟨fun b o h hl => ?_,fun b b' o o' pl pl' h hl h' hl' hp hp' e => ?_,hs1.zok,fun b v pl hp => ?_, ?_,hs1.lg⟩,⟨he.z,he.p,fun k hk ho => he.frame k hk fun ho' => ho (hsub k ho'),fun k hk ho => ?_,he.size,he.os,he.output,he.tape,he.drawn,fun a ha ho => he.fz a ha fun ho' => ho (hsub _ ho'),rfl,fun b hb => ?_, ?_,fun k hk ho => he.zf k hk fun ho' => ho (hsub k ho'),fun b hb v => he.pold b hb v,fun b o hb ho => ?_⟩⟩
 ·rcases from' b o h hl with h | ⟨hb,hv,h⟩
  ·exact hs1.objs b o h hl
  ·obtain ⟨pl,obj,h1,h2,h3,h4⟩ := hs.objs b o h hl
   have hlt := (Array.getElem?_eq_some_iff.1 h2).1
   have hno := hnot b o pl hv h hl h1
   exact ⟨pl,obj,by rw [(hinv b hb hv).2];exact h1,(he.frame _ hlt hno).trans h2,h3.mono he.z he.p,by rw [he.zf _ hlt hno];exact h4⟩
 ·rcases from' b o h hl with h | ⟨hb,hv,h⟩ <;> rcases from' b' o' h' hl' with h' | ⟨hb',hv',h'⟩
  ·exact hs1.inj b b' o o' pl pl' h hl h' hl' hp hp' e
  ·exact (mixed b' o' pl' b o pl hb' hv' h' hl' hp' h hl hp e.symm).symm
  ·exact mixed b o pl b' o' pl' hb hv h hl hp h' hl' hp' e
  ·rw [(hinv b hb hv).2] at hp
   rw [(hinv b' hb' hv').2] at hp'
   exact hs.inj b b' o o' pl pl' h hl h' hl' hp hp' e
 ·rw [merge_get vis hsz]
  split
  ·rename_i hb
   split
   ·exact hs1.fresh b v pl hp
   ·rename_i hv
    rw [(hinv b hb hv).2] at hp
    exact hs.fresh b v pl hp
  ·exact hs1.fresh b v pl hp
 ·rw [merge_size vis hsz,hlock]
  exact Nat.le_trans hs.lk hsz
 ·obtain ⟨b,o,pl,h1,h2,h3,h4,h5⟩ := ho
  rcases from' b o h2 h3 with h | ⟨hb,hv,h⟩
  ·exact hsub k (he.own k hk ⟨b,o,pl,by rw [he.lock];exact h1,h,h3,h4,h5⟩)
  ·rw [(hinv b hb hv).2] at h4
   exact ⟨b,o,pl,h1,h,h3,h4,h5⟩
 ·rw [merge_get vis hsz]
  have hbs : b < H.size := Nat.lt_of_lt_of_le hb hs.lk
  rw [if_pos hbs]
  split
  ·rename_i hv
   rw [he.old b hb,hide_get,if_pos hbs,if_pos hv]
  ·rfl
 ·rw [merge_size vis hsz];exact hsz
 ·have hbs := Heap.get_lt hb
  rw [merge_get vis hsz,if_pos hbs]
  split
  ·rename_i hv
   exact he.dd b o (by rw [hide_get,if_pos hbs,if_pos hv];exact hb) ho
  ·rename_i hv
   exact ⟨hb,(hinv b hbs hv).2⟩
theorem merge_same {H H1 : Heap} {vis : Nat → Bool} (hk : ∀ b,H1.get b = (H.hide vis).get b) (hsz : H1.size = H.size) (b : Nat) : (H.merge vis H1).get b = H.get b := by
 rw [merge_get vis (Nat.le_of_eq hsz.symm)]
 split
 ·rename_i hb
  split
  ·rename_i hv;rw [hk,hide_get,if_pos hb,if_pos hv]
  ·rfl
 ·rename_i hb
  rw [hk,hide_get,if_neg hb]
  simp [Heap.get,List.getElem?_eq_none (Nat.le_of_not_lt hb : H.objs.length ≤ b)]
theorem stepD_sound {C : Cfg} {rec : Task → Option Out} (hrec : RecOK C.P rec) (hext : ExtOK C) {me : FuncId} {rb : Option Nat} {ops : Array Oper} {ws : List Nat} {base top i : Nat} {o : Oper} {A A' : AAct} {a : Act} {H' : Heap} {ft : Foot} (hs : Sim Z ρ H w) (ha : SimA Z ρ A a)
  (hlt : base + i < H.size) (hfree : H.get (base + i) = none) (hlk : H.lock ≤ base + i)
  (h : stepD C rec me ops ws base top i o A H = some (ft,A',H')) {next : Act → World → Prop} {Q : Exit → Act → World → Prop} (hn : Goes Z ρ H w A' H' next) :
  if Region.wanted o (yielded ops a.tmps) then o.wpIn (FR rb) 0 C.P a w next Q else (∀ f,o.about C.P w a.eval = some f → (FR rb).fn f) ∧ next (a.put o.dst undef) w := by
 have ansRep : ∀ {Z : Fzn} {ρ : Pls} {r : Option AV} {x : Value},AnsRep Z ρ r x → Rep Z ρ (r.getD undefA) x := by
  intro Z ρ r x h
  cases r with
  | none => simp only [AnsRep] at h;subst h;exact undef_rep
  | some v => exact h
 unfold stepD at h
 split at h
 ·rename_i hw
  rw [if_pos (by rw [wantedA_eq ha hw])]
  split at h
  ·rename_i hp
   split at h
   ·rename_i r H1 ho
    simp at h;obtain ⟨-,rfl,rfl⟩ := h
    have := (plain_same hp ho).1
    subst this
    exact opA_sound hrec hext hs ha ⟨Nat.le_of_lt hlt,hfree,hlk⟩ ho next Q fun x w' Z' ρ' h1 h2 h3 => hn _ _ _ _ ((ha.mono h3.z h3.p).put o.dst (ansRep h1)) h2 h3
   ·cases h
  ·split at h
   ·rename_i r H1 ho
    let vis := visB base top (ws.getD i 0) (base + i) (footA C me o A (base + i))
    have hself : vis (base + i) = true := by simp [vis,visB]
    have hf : Free (H.hide vis) (base + i) := ⟨by rw [hide_size];exact Nat.le_of_lt hlt,by rw [hide_get,if_pos hlt,if_pos hself];exact hfree,hlk⟩
    split at h
    ·rename_i hid
     simp at h;obtain ⟨-,rfl,rfl⟩ := h
     refine opA_sound hrec hext (hide_sim hs vis) ha hf ho next Q fun x w' Z' ρ' h1 h2 h3 => ?_
     have hkeep : Keeps (H.hide vis) H1 [] := by
      unfold Foot.idle at hid
      split at hid
      ·rename_i hwr
       have := opA_keeps ho (by rw [hide_size];exact hlt) hwr
       simp at hid
       rw [hid] at this
       exact this
      ·cases hid
     obtain ⟨k1,k2,k3⟩ := hkeep
     rw [hide_size] at k2
     have hsame := merge_same (fun b => k3 b (by simp)) k2
     obtain ⟨m1,m2⟩ := merge_sim hs vis h2 h3 (Nat.le_of_eq k2.symm)
     exact hn _ _ _ _ ((ha.mono h3.z h3.p).put o.dst (ansRep h1)) (same_sim m1 (fun b => (hsame b).symm) rfl hs.lk) (same_ext m2 (fun b => (hsame b).symm) rfl (Nat.le_refl _))
    ·split at h
     ·rename_i hle
      simp at h;obtain ⟨-,rfl,rfl⟩ := h
      have hle := Nat.le_of_ble_eq_true hle
      refine opA_sound hrec hext (hide_sim hs vis) ha hf ho next Q fun x w' Z' ρ' h1 h2 h3 => ?_
      obtain ⟨m1,m2⟩ := merge_sim hs vis h2 h3 hle
      exact hn _ _ _ _ ((ha.mono h3.z h3.p).put o.dst (ansRep h1)) m1 m2
     ·cases h
   ·cases h
 ·rename_i hw
  simp at h;obtain ⟨-,rfl,rfl⟩ := h
  rw [if_neg (by rw [wantedA_eq ha hw];simp)]
  exact ⟨fun _ _ => trivial,hn _ _ _ _ (ha.put o.dst undef_rep) hs (.refl _ _ _ _)⟩
 ·cases h
end Go.Ev
namespace Go.Ev
theorem heap_ext {H H' : Heap} (hl : H.lock = H'.lock) (hs : H.size = H'.size) (hg : ∀ b,H.get b = H'.get b) : H = H' := by
 cases H with
 | mk l k =>
 cases H' with
 | mk l' k' =>
 simp only [Heap.size] at hs hl
 have : l = l' := by
  refine List.ext_getElem? fun i => ?_
  have hi := hg i
  simp only [Heap.get] at hi
  by_cases h : i < l.length
  ·rw [List.getElem?_eq_getElem h,List.getElem?_eq_getElem (hs ▸ h)] at hi ⊢
   simp only [Option.join_some] at hi
   rw [hi]
  ·rw [List.getElem?_eq_none (Nat.le_of_not_lt h),List.getElem?_eq_none (by rw [← hs];exact Nat.le_of_not_lt h)]
 rw [this,hl]
theorem get_none {H : Heap} {b : Nat} (h : ¬ b < H.size) : H.get b = none := by
 simp [Heap.get,List.getElem?_eq_none (Nat.le_of_not_lt h : H.objs.length ≤ b)]
theorem put_sizeI {H : Heap} {b : Nat} (o : AObj) (h : b < H.size) : (H.put b o).size = H.size := by
 unfold Heap.put Heap.size at *
 simp only
 have : ∀ (b : Nat) (l : List (Option AObj)),b < l.length → (setOrPush (some o) b l).length = l.length := by
  intro b l
  induction l generalizing b with
  | nil => intro h;simp at h
  | cons x r ih => intro h;cases b with
   | zero => rfl
   | succ n => simp only [setOrPush,List.length_cons];rw [ih n (by simpa using h)]
 exact this b _ h
theorem get_ltS {H : Heap} {b : Nat} {o : AObj} (h : H.get b = some o) : b < H.size := by
 unfold Heap.get at h
 cases hb : H.objs[b]? with
 | none => rw [hb] at h;cases h
 | some x => exact (List.getElem?_eq_some_iff.1 hb).1
theorem put_get_ne {H : Heap} {b c : Nat} (o : AObj) (hb : b ≤ H.size) (h : c ≠ b) : (H.put b o).get c = H.get c := by
 unfold Heap.put Heap.get
 simp only
 have key : ∀ (b : Nat) (l : List (Option AObj)) (c : Nat),b ≤ l.length → c ≠ b → (setOrPush (some o) b l)[c]?.join = l[c]?.join := by
  intro b l
  induction l generalizing b with
  | nil =>
   intro c hb hc
   have : b = 0 := by simpa using hb
   subst this
   cases c with
   | zero => exact absurd rfl hc
   | succ c => rfl
  | cons x r ih =>
   intro c hb hc
   cases b with
   | zero => cases c with
    | zero => exact absurd rfl hc
    | succ c => rfl
   | succ b => cases c with
    | zero => rfl
    | succ c =>
     have := ih b c (by simpa using hb) (by omega)
     simpa [setOrPush] using this
 exact key b H.objs c hb h
theorem put_get_eq {H : Heap} {b : Nat} (o : AObj) (hb : b ≤ H.size) : (H.put b o).get b = some o := by
 unfold Heap.put Heap.get
 simp only
 have key : ∀ (b : Nat) (l : List (Option AObj)),b ≤ l.length → (setOrPush (some o) b l)[b]? = some (some o) := by
  intro b l
  induction l generalizing b with
  | nil => intro hb;have : b = 0 := by simpa using hb
           subst this;rfl
  | cons x r ih =>
   intro hb
   cases b with
   | zero => rfl
   | succ b => simpa [setOrPush] using ih b (by simpa using hb)
 rw [key b H.objs hb];rfl
section
variable {C : Cfg} {rec : Task → Option Out} {me : FuncId}
def putO (G : Heap) : Option (Nat × AObj) → Heap
 | none => G
 | some (b,o) => G.put b o
theorem merge_putO {G : Heap} {vis : Nat → Bool} {eff : Option (Nat × AObj)} (h : ∀ b o,eff = some (b,o) → b < G.size ∧ vis b = true) : G.merge vis (putO (G.hide vis) eff) = putO G eff ∧ (putO (G.hide vis) eff).size = G.size ∧ (putO G eff).size = G.size := by
 have hsz : (putO (G.hide vis) eff).size = G.size := by
  cases eff with
  | none => exact hide_size G vis
  | some p => obtain ⟨b,o⟩ := p;exact (put_sizeI o (by rw [hide_size];exact (h b o rfl).1)).trans (hide_size G vis)
 have hsz2 : (putO G eff).size = G.size := by
  cases eff with
  | none => rfl
  | some p => obtain ⟨b,o⟩ := p;exact put_sizeI o (h b o rfl).1
 refine ⟨?_,hsz,hsz2⟩
 refine heap_ext ?_ ?_ ?_
 ·cases eff with
  | none => rfl
  | some p => rfl
 ·rw [merge_size _ (by omega),hsz,hsz2]
 ·intro b
  rw [merge_get _ (by omega)]
  rcases Nat.lt_or_ge b G.size with hb | hb
  ·rw [if_pos hb]
   cases eff with
   | none =>
    simp only [putO,hide_get,if_pos hb]
    split <;> rfl
   | some p =>
    obtain ⟨c,o⟩ := p
    obtain ⟨h1,h2⟩ := h c o rfl
    simp only [putO]
    by_cases hbc : b = c
    ·subst hbc
     rw [if_pos h2,put_get_eq _ (by rw [hide_size];omega),put_get_eq _ (by omega)]
    ·rw [put_get_ne _ (by rw [hide_size];omega) hbc,put_get_ne _ (by omega) hbc,hide_get,if_pos hb]
     split <;> rfl
  ·rw [if_neg (by omega),get_none (by omega),get_none (by omega)]
def Loc {α : Type} (reads : List Nat) (slot : Nat) (f : Heap → Option (α × Heap)) (G : Heap) (r : α) (G' : Heap) : Prop :=
 ∃ eff,(∀ b o,eff = some (b,o) → (b ∈ reads ∧ (G.get b).isSome = true) ∨ b = slot) ∧ G' = putO G eff ∧ ∀ Gx : Heap,Gx.lock = G.lock → (∀ b ∈ reads,Gx.get b = G.get b) → f Gx = some (r,putO Gx eff)
theorem row_eqI {G Gx : Heap} {b v : Nat} (h : Gx.get b = G.get b) : Gx.row b v = G.row b v := by unfold Heap.row;rw [h]
theorem Loc.pure {α : Type} {reads : List Nat} {slot : Nat} {f : Heap → Option α} {G : Heap} {r : α} (h : ∀ Gx : Heap,Gx.lock = G.lock → (∀ b ∈ reads,Gx.get b = G.get b) → f Gx = some r) : Loc reads slot (fun G => (f G).map fun r => (r,G)) G r G :=
 ⟨none,(fun _ _ h => nomatch h),rfl,fun Gx h1 h2 => by simp only;rw [h Gx h1 h2];rfl⟩
theorem load_loc {G : Heap} {t : TypeId} {p v : AV} (h : loadA C.P G t p = some v) {Gx : Heap} (h2 : ∀ b ∈ objsOf p,Gx.get b = G.get b) : loadA C.P Gx t p = some v := by
 cases p
 case ptr b v k =>
  unfold loadA at h ⊢
  simp only at h ⊢
  rw [row_eqI (h2 _ (by simp [objsOf]))];exact h
 all_goals exact h
theorem cells_loc {G : Heap} {s : Nat} {x : AV} {r : Nat × List AV} (h : cellsFrom G s x = some r) {Gx : Heap} (h2 : ∀ b ∈ objsOf x,Gx.get b = G.get b) : cellsFrom Gx s x = some r := by
 cases x
 case sl b v off len cap =>
  unfold cellsFrom at h ⊢
  simp only at h ⊢
  rw [row_eqI (h2 _ (by simp [objsOf]))];exact h
 case v x =>
  have key : cellsFrom Gx s (.v x) = cellsFrom G s (.v x) := by
   unfold cellsFrom
   cases x <;> try rfl
   rename_i p n c
   cases p <;> try rfl
   cases n <;> try rfl
   cases c <;> rfl
  rw [key];exact h
 all_goals exact h
theorem store_loc {G G' : Heap} {b v k : Nat} {xs : List AV} (h : storeCells G b v k xs = some G') : ∃ o,G' = G.put b o ∧ (G.get b).isSome = true ∧ ∀ Gx : Heap,Gx.lock = G.lock → Gx.get b = G.get b → storeCells Gx b v k xs = some (Gx.put b o) := by
 unfold storeCells at h
 split at h
 ·rename_i m e sz g cs hr
  split at h
  ·rename_i hc
   cases h
   refine ⟨_,rfl,by rw [Heap.row_get hr];rfl,fun Gx h1 h2 => ?_⟩
   unfold storeCells
   rw [row_eqI h2,hr]
   simp only
   rw [h1,if_pos hc]
  ·cases h
 ·cases h
theorem storeA_loc {G G' : Heap} {t : TypeId} {p v : AV} (h : storeA C.P G t p v = some G') : ∃ b o,(b ∈ objsOf p ∧ (G.get b).isSome = true) ∧ G' = G.put b o ∧ ∀ Gx : Heap,Gx.lock = G.lock → Gx.get b = G.get b → storeA C.P Gx t p v = some (Gx.put b o) := by
 unfold storeA at h
 split at h
 ·rename_i b w k n hn
  split at h
  ·rename_i hc
   obtain ⟨o,h1,hg,h2⟩ := store_loc h
   refine ⟨b,o,⟨by simp [objsOf],hg⟩,h1,fun Gx h3 h4 => ?_⟩
   unfold storeA
   rw [hn];simp only
   rw [if_pos hc];exact h2 Gx h3 h4
  ·cases h
 ·cases h
theorem made_loc {G G' : Heap} {slot : Nat} {e : TypeId} {i : TypeInfo} {need : Nat} {old new : List AV} {v : AV} (h : madeA G slot e i need old new = some (v,G')) : ∃ o,G' = G.put slot o ∧ ∀ Gx : Heap,madeA Gx slot e i need old new = some (v,Gx.put slot o) := by
 unfold madeA at h
 split at h
 ·rename_i hc
  cases h
  refine ⟨_,rfl,fun Gx => ?_⟩
  unfold madeA;rw [if_pos hc]
 ·cases h
theorem appendTo_loc {G G' : Heap} {slot : Nat} {e : TypeId} {i : TypeInfo} {n : Nat} {new : List AV} {s v : AV} (h : appendTo G slot e i n new s = some (v,G')) : Loc (objsOf s) slot (fun G => appendTo G slot e i n new s) G v G' := by
 have made : ∀ {need old},madeA G slot e i need old new = some (v,G') → ∀ f : Heap → Option (AV × Heap),(∀ Gx : Heap,Gx.lock = G.lock → (∀ b ∈ objsOf s,Gx.get b = G.get b) → f Gx = madeA Gx slot e i need old new) → Loc (objsOf s) slot f G v G' := by
  intro need old hm f hf
  obtain ⟨o,h1,h2⟩ := made_loc hm
  exact ⟨some (slot,o),fun b o' he => by cases he;exact Or.inr rfl,h1,fun Gx a b => by rw [hf Gx a b];exact h2 Gx⟩
 have same : (v,G') = (s,G) → ∀ f : Heap → Option (AV × Heap),(∀ Gx : Heap,Gx.lock = G.lock → (∀ b ∈ objsOf s,Gx.get b = G.get b) → f Gx = some (s,Gx)) → Loc (objsOf s) slot f G v G' := by
  intro he f hf
  cases he
  exact ⟨none,(fun _ _ h => nomatch h),rfl,hf⟩
 unfold appendTo at h
 split at h
 ·split at h
  ·rename_i hn
   exact same (by cases h;rfl) _ fun Gx _ _ => by simp only [appendTo];rw [if_pos hn]
  ·rename_i hn
   exact made h _ fun Gx _ _ => by simp only [appendTo];rw [if_neg hn]
 ·rename_i sz xs cap
  split at h
  ·cases h
  ·rename_i hsz
   split at h
   ·rename_i hn
    exact same (by cases h;rfl) _ fun Gx _ _ => by simp only [appendTo];rw [if_neg hsz,if_pos hn]
   ·rename_i hn
    split at h
    ·split at h
     ·rename_i hc
      exact made h _ fun Gx _ _ => by simp only [appendTo];rw [if_neg hsz,if_neg hn,if_pos hc]
     ·cases h
    ·cases h
 ·rename_i b w off len cap
  split at h
  ·rename_i hn
   exact same (by cases h;rfl) _ fun Gx _ _ => by simp only [appendTo];rw [if_pos hn]
  ·rename_i hn
   have hrw : ∀ Gx : Heap,(∀ b' ∈ objsOf (AV.sl b w off len cap),Gx.get b' = G.get b') → Gx.row b w = G.row b w ∧ Gx.get b = G.get b := fun Gx h => ⟨row_eqI (h b (by simp [objsOf])),h b (by simp [objsOf])⟩
   split at h
   ·rename_i m e' sz g cs hr
    split at h
    ·rename_i c
     split at h
     ·rename_i hc
      split at h
      ·rename_i H' hst
       cases h
       obtain ⟨o,h1,hg,h2⟩ := store_loc hst
       refine ⟨some (b,o),fun b' o' he => by cases he;exact Or.inl ⟨by simp [objsOf],hg⟩,h1,fun Gx a b' => ?_⟩
       obtain ⟨r1,r2⟩ := hrw Gx b'
       simp only [appendTo,r1,hr]
       rw [if_neg hn,if_pos hc,h2 Gx a r2];rfl
      ·cases h
     ·rename_i hc
      split at h
      ·rename_i hc2
       refine made h _ fun Gx a b' => ?_
       obtain ⟨r1,r2⟩ := hrw Gx b'
       simp only [appendTo,r1,hr]
       rw [if_neg hn,if_neg hc,if_pos hc2]
      ·cases h
    ·split at h
     ·cases h
     ·rename_i hsz
      split at h
      ·rename_i hc
       split at h
       ·rename_i H' hst
        cases h
        obtain ⟨o,h1,hg,h2⟩ := store_loc hst
        refine ⟨some (b,o),fun b' o' he => by cases he;exact Or.inl ⟨by simp [objsOf],hg⟩,h1,fun Gx a b' => ?_⟩
        obtain ⟨r1,r2⟩ := hrw Gx b'
        simp only [appendTo,r1,hr]
        rw [if_neg hn,if_neg hsz,if_pos hc,h2 Gx a r2];rfl
       ·cases h
      ·rename_i hc
       split at h
       ·rename_i hc2
        cases h
        refine ⟨some (b,_),fun b' o' he => by cases he;exact Or.inl ⟨by simp [objsOf],by rw [Heap.row_get hr];rfl⟩,rfl,fun Gx a b' => ?_⟩
        obtain ⟨r1,r2⟩ := hrw Gx b'
        simp only [appendTo,r1,hr]
        rw [if_neg hn,if_neg hsz,if_neg hc,a,if_pos hc2];rfl
       ·cases h
   ·cases h
 ·cases h
theorem appendA_loc {G G' : Heap} {slot : Nat} {ts : List TypeId} {args : List AV} {v : AV} (h : appendA C.P G slot ts args = some (v,G')) : Loc (args.flatMap objsOf) slot (fun G => appendA C.P G slot ts args) G v G' := by
 unfold appendA at h
 split at h
 ·rename_i t u s x
  split at h
  ·rename_i hi
   unfold growA at h
   split at h
   ·rename_i e k l hu hud
    split at h
    ·rename_i i z hinf hz
     split at h
     ·rename_i hc
      obtain ⟨o,h1,h2⟩ := made_loc h
      refine ⟨some (slot,o),fun b o' he => by cases he;exact Or.inr rfl,h1,fun Gx a b => ?_⟩
      simp only [appendA,if_pos hi,growA,hu,hud,hinf,hz]
      rw [if_pos hc];exact h2 Gx
     ·cases h
    ·cases h
   ·cases h
  ·rename_i hi
   split at h
   ·rename_i e hu
    split at h
    ·rename_i i z hinf hz
     split at h
     ·cases h
     ·rename_i n new hcl
      split at h
      ·cases h
      ·rename_i hc
       obtain ⟨eff,h1,h2,h3⟩ := appendTo_loc h
       refine ⟨eff,fun b o he => ?_,h2,fun Gx a b => ?_⟩
       ·rcases h1 b o he with h4 | h4
        ·exact Or.inl ⟨by simp [h4.1],h4.2⟩
        ·exact Or.inr h4
       ·have hcl' := cells_loc hcl (Gx := Gx) fun b' hb' => b b' (by simp [hb'])
        have h3' := h3 Gx a fun b' hb' => b b' (by simp [hb'])
        simp only [appendA,if_neg hi,hu,hinf,hz,hcl']
        rw [if_neg hc];exact h3'
    ·cases h
   ·cases h
 ·cases h
theorem build_loc {mt : Bool} {G G' : Heap} {slot t len : Nat} {parts : List (Nat × AV)} {v : AV} (h : buildSliceA C.P mt G slot t len parts = some (v,G')) : Loc [] slot (fun G => buildSliceA C.P mt G slot t len parts) G v G' := by
 unfold buildSliceA at h
 split at h
 ·rename_i e hu
  split at h
  ·rename_i n z hn hz
   split at h
   ·rename_i hc
    split at h
    ·rename_i cs hcs
     split at h
     ·cases h
     ·rename_i hf
      split at h
      ·rename_i hm
       cases h
       refine ⟨some (slot,_),fun b o he => by cases he;exact Or.inr rfl,rfl,fun Gx _ _ => ?_⟩
       simp only [buildSliceA,hu,hn,hz,hcs]
       rw [if_pos hc,if_neg hf,if_pos hm];rfl
      ·rename_i hm
       cases h
       refine ⟨none,(fun _ _ h => nomatch h),rfl,fun Gx _ _ => ?_⟩
       simp only [buildSliceA,hu,hn,hz,hcs]
       rw [if_pos hc,if_neg hf,if_neg hm];rfl
    ·cases h
   ·cases h
  ·cases h
 ·cases h
theorem lookup_loc {G : Heap} {t : TypeId} {m k v : AV} {ok : Bool} (h : lookupA C.P G t m k ok = some v) {Gx : Heap} (h2 : ∀ b ∈ objsOf m,Gx.get b = G.get b) : lookupA C.P Gx t m k ok = some v := by
 have e : mapOfA Gx m = mapOfA G m := by
  cases m
  case mp b => unfold mapOfA;simp only;rw [h2 b (by simp [objsOf])]
  case v x =>
   unfold mapOfA
   cases x <;> try rfl
   rename_i o
   cases o <;> rfl
  all_goals rfl
 unfold lookupA at h ⊢
 rw [e];exact h
theorem update_loc {G G' : Heap} {t : TypeId} {m k v : AV} (h : updateA C.P G t m k v = some G') : ∃ b o,(b ∈ objsOf m ∧ (G.get b).isSome = true) ∧ G' = G.put b o ∧ ∀ Gx : Heap,Gx.lock = G.lock → Gx.get b = G.get b → updateA C.P Gx t m k v = some (Gx.put b o) := by
 unfold updateA at h
 split at h
 ·rename_i kt x b hk
  split at h
  ·rename_i mx es c hg
   split at h
   ·rename_i hl
    split at h
    ·rename_i i y hf
     split at h
     ·rename_i k' x1 x2 he
      split at h
      ·rename_i hs
       cases h
       refine ⟨b,_,⟨by simp [objsOf],by rw [hg];rfl⟩,rfl,fun Gx h1 h2 => ?_⟩
       simp only [updateA,hk,h2,hg,h1,hl,if_true,hf,he,hs]
      ·cases h
     ·cases h
    ·rename_i hf
     cases h
     refine ⟨b,_,⟨by simp [objsOf],by rw [hg];rfl⟩,rfl,fun Gx h1 h2 => ?_⟩
     simp only [updateA,hk,h2,hg,h1,hl,if_true,hf]
    ·cases h
   ·cases h
  ·cases h
 ·cases h
theorem unsafeStr_loc {G G' : Heap} {slot : Nat} {ts : List TypeId} {args : List AV} {v : AV} (h : unsafeStrA C.P G ts args = some (v,G')) : Loc (args.flatMap objsOf) slot (fun G => unsafeStrA C.P G ts args) G v G' := by
 unfold unsafeStrA at h
 split at h
 ·rename_i n
  split at h
  ·rename_i hn
   cases h
   exact ⟨none,(fun _ _ h => nomatch h),rfl,fun Gx _ _ => by simp only [unsafeStrA];rw [if_pos hn];rfl⟩
  ·cases h
 ·rename_i pt it b w k n
  split at h
  ·rename_i e m e' sz g cs hu hr
   split at h
   ·rename_i hc
    split at h
    ·rename_i l hb
     cases h
     refine ⟨some (b,.dead),fun b' o' he => by cases he;exact Or.inl ⟨by simp [objsOf],by rw [Heap.row_get hr];rfl⟩,rfl,fun Gx a b' => ?_⟩
     have r1 : Gx.row b w = G.row b w := row_eqI (b' b (by simp [objsOf]))
     simp only [unsafeStrA,hu,r1,hr]
     rw [a,if_pos hc,hb];rfl
    ·cases h
   ·cases h
  ·cases h
 ·cases h
theorem opA_loc {o : Oper} {a : AAct} {G G' : Heap} {slot : Nat} {r : Option AV} (hl : locOp o.op = true) (h : opA C (rec) me o a G slot = some (r,G')) :
  ∃ reads,(footA C me o a slot).reads = some reads ∧ Loc reads slot (fun G => opA C (rec) me o a G slot) G r G' := by
 obtain ⟨dst,op,ty,pos,after,guard⟩ := o
 simp only at hl
 cases op <;> simp only [locOp] at hl <;> try (cases hl;done)
 case load t x =>
  simp only [opA] at h
  split at h
  ·rename_i p hp
   obtain ⟨v,hv,he⟩ := Option.map_eq_some_iff.1 h
   cases he
   refine ⟨objsOf p,by simp only [footA,objsO,hp],none,(fun _ _ h => nomatch h),rfl,fun Gx _ h2 => ?_⟩
   simp only [opA,hp]
   rw [load_loc hv h2];rfl
  ·cases h
 case store t x y =>
  simp only [opA] at h
  split at h
  ·rename_i p v hp hv
   obtain ⟨G1,hs,he⟩ := Option.map_eq_some_iff.1 h
   cases he
   obtain ⟨b,o,h1,h2,h3⟩ := storeA_loc hs
   refine ⟨objsOf p,by simp only [footA,objsO,hp],some (b,o),fun b' o' he => by cases he;exact Or.inl h1,h2,fun Gx a1 a2 => ?_⟩
   simp only [opA,hp,hv]
   rw [h3 Gx a1 (a2 b h1.1)];rfl
  ·cases h
 case lookup t m k ok =>
  simp only [opA] at h
  split at h
  ·rename_i p q hp hq
   obtain ⟨v,hv,he⟩ := Option.map_eq_some_iff.1 h
   cases he
   refine ⟨objsOf p,by simp only [footA,objsO,hp],none,(fun _ _ h => nomatch h),rfl,fun Gx _ h2 => ?_⟩
   simp only [opA,hp,hq]
   rw [lookup_loc hv h2];rfl
  ·cases h
 case mapUpdate t m k v =>
  simp only [opA] at h
  split at h
  ·rename_i p q u hp hq hu
   obtain ⟨G1,hs,he⟩ := Option.map_eq_some_iff.1 h
   cases he
   obtain ⟨b,o,h1,h2,h3⟩ := update_loc hs
   refine ⟨objsOf p,by simp only [footA,objsO,hp],some (b,o),fun b' o' he => by cases he;exact Or.inl h1,h2,fun Gx a1 a2 => ?_⟩
   simp only [opA,hp,hq,hu]
   rw [h3 Gx a1 (a2 b h1.1)];rfl
  ·cases h
 case alloc e =>
  simp only [opA] at h
  split at h
  ·rename_i z hz
   split at h
   ·cases h
   ·rename_i hf
    cases h
    refine ⟨[],rfl,some (slot,_),fun b' o' he => by cases he;exact Or.inr rfl,rfl,fun Gx _ _ => ?_⟩
    simp only [opA,hz]
    rw [if_neg hf];rfl
  ·cases h
 case box e x =>
  simp only [opA] at h
  split at h
  ·rename_i z hz
   split at h
   ·cases h
   ·rename_i hf
    cases h
    refine ⟨[],rfl,some (slot,_),fun b' o' he => by cases he;exact Or.inr rfl,rfl,fun Gx _ _ => ?_⟩
    simp only [opA,hz]
    rw [if_neg hf];rfl
  ·cases h
 case buildSlice t n ps =>
  simp only [opA] at h
  split at h
  ·rename_i l hp
   obtain ⟨⟨v,G1⟩,hs,he⟩ := Option.map_eq_some_iff.1 h
   cases he
   obtain ⟨eff,h1,h2,h3⟩ := build_loc hs
   refine ⟨[],rfl,eff,h1,h2,fun Gx a1 a2 => ?_⟩
   simp only [opA,hp]
   have h3' := h3 Gx a1 a2
   simp only at h3'
   rw [h3'];rfl
  ·cases h
 case call c =>
  obtain ⟨cal,args,ts⟩ := c
  have hob : ∀ (ars : List Operand) (l : List AV),evals a ars = some l → ars.flatMap (objsO a) = l.flatMap objsOf := by
   intro ars
   induction ars with
   | nil => intro l h;simp only [evals,Option.some.injEq] at h;subst h;rfl
   | cons x r ih =>
    intro l h
    simp only [evals] at h
    split at h
    ·rename_i u us hu hus
     cases h
     simp only [List.flatMap_cons,ih us hus]
     rw [show objsO a x = objsOf u by unfold objsO;rw [hu]]
    ·cases h
  have hcal : cal = .builtin .append ∨ cal = .builtin .unsafeString ∨ cal = .builtin .unsafeSliceData := by
   cases cal with
   | builtin bi => cases bi <;> first | exact Or.inl rfl | exact Or.inr (Or.inl rfl) | exact Or.inr (Or.inr rfl) | (simp at hl;done)
   | _ => simp at hl
  rcases hcal with rfl | rfl | rfl
  ·cases hp : evals a args.toList with
   | none => simp only [opA,hp] at h;cases h
   | some l =>
    simp only [opA,hp] at h
    obtain ⟨⟨v,G1⟩,hs,he⟩ := Option.map_eq_some_iff.1 h
    cases he
    obtain ⟨eff,h1,h2,h3⟩ := appendA_loc hs
    refine ⟨l.flatMap objsOf,by simp only [footA];rw [hob _ _ hp],eff,h1,h2,fun Gx a1 a2 => ?_⟩
    simp only [opA,hp]
    have h3' := h3 Gx a1 a2
    simp only at h3'
    rw [h3'];rfl
  ·cases hp : evals a args.toList with
   | none => simp only [opA,hp] at h;cases h
   | some l =>
    simp only [opA,hp] at h
    obtain ⟨⟨v,G1⟩,hs,he⟩ := Option.map_eq_some_iff.1 h
    cases he
    obtain ⟨eff,h1,h2,h3⟩ := unsafeStr_loc (slot := slot) hs
    refine ⟨l.flatMap objsOf,by simp only [footA];rw [hob _ _ hp],eff,h1,h2,fun Gx a1 a2 => ?_⟩
    simp only [opA,hp]
    have h3' := h3 Gx a1 a2
    simp only at h3'
    rw [h3'];rfl
  ·cases hp : evals a args.toList with
   | none => simp only [opA,hp] at h;cases h
   | some l =>
    simp only [opA,hp] at h
    obtain ⟨v,hs,he⟩ := Option.map_eq_some_iff.1 h
    cases he
    refine ⟨[],rfl,none,(fun _ _ h => nomatch h),rfl,fun Gx _ _ => ?_⟩
    simp only [opA,hp,hs,Option.map_some];rfl
end
end Go.Ev
namespace Go.Ev
variable {P : Program} {Z : Fzn} {ρ : Pls} {H : Heap} {w : World}
section
variable (C : Cfg) (rec : Task → Option Out) (me : FuncId) (ops : Array Oper) (ws : List Nat) (base top : Nat)
def visOf (i : Nat) (o : Oper) (a : AAct) : Nat → Bool := visB base top (ws.getD i 0) (base + i) (footA C me o a (base + i))
def stepC (i : Nat) (o : Oper) (a : AAct) (H : Heap) : Option (Foot × AV × Heap) :=
 match wantedA ops a o with
 | some true =>
  if plainO o then
   match opA C rec me o a H (base + i) with
   | some (r,_) => some (noFoot,r.getD undefA,H)
   | none => none
  else
   match opA C rec me o a (H.hide (visOf C me ws base top i o a)) (base + i) with
   | some (r,H1) =>
    if (footA C me o a (base + i)).idle then some (footI (C.near me o.dst) o.op (visOf C me ws base top i o a) (footA C me o a (base + i)),r.getD undefA,H)
    else if Nat.ble H.size H1.size then
     some ({ footN (C.near me o.dst) o.op (visOf C me ws base top i o a) (footA C me o a (base + i)) (H.hide (visOf C me ws base top i o a)) H1 with grows := !(Nat.beq H1.size H.size) },r.getD undefA,H.merge (visOf C me ws base top i o a) H1)
    else none
   | none => none
 | some false => some (noFoot,undefA,H)
 | none => none
theorem stepD_eq (i : Nat) (o : Oper) (a : AAct) (H : Heap) : stepD C rec me ops ws base top i o a H = (stepC C rec me ops ws base top i o a H).map fun p => (p.1,a.put o.dst p.2.1,p.2.2) := by
 unfold stepD stepC visOf
 cases wantedA ops a o with
 | none => rfl
 | some b =>
  cases b with
  | false => rfl
  | true =>
   simp only []
   by_cases hp : plainO o = true
   ·simp only [hp,if_true]
    cases opA C rec me o a H (base + i) with
    | none => rfl
    | some p => rfl
   ·simp only [hp,if_false,Bool.false_eq_true]
    cases opA C rec me o a (H.hide (visB base top (ws.getD i 0) (base + i) (footA C me o a (base + i)))) (base + i) with
    | none => rfl
    | some p =>
     simp only []
     by_cases hi : (footA C me o a (base + i)).idle = true
     ·simp only [hi,if_true];rfl
     ·simp only [hi,if_false,Bool.false_eq_true]
      by_cases hz : Nat.ble H.size p.2.size = true
      ·simp only [hz,if_true];rfl
      ·simp only [hz,if_false,Bool.false_eq_true];rfl
end
theorem wantedA_congr {ops : Array Oper} {A B : AAct} {o : Oper} (h : ∀ g want,o.guard = some (g,want) → ∀ d,(ops[g]?).bind (·.dst) = some d → assoc d A.tmps = assoc d B.tmps) : wantedA ops A o = wantedA ops B o := by
 unfold wantedA
 split
 ·rfl
 ·rename_i j want hg
  have : yieldedA ops A j = yieldedA ops B j := by
   unfold yieldedA
   split
   ·rename_i d hd
    rw [h j want hg d hd]
   ·rfl
  rw [this]
def Alike (ops : Array Oper) (o : Oper) (A B : AAct) : Prop := ∀ t ∈ o.looksAt ops,assoc t A.tmps = assoc t B.tmps
theorem Alike.eval {ops : Array Oper} {o : Oper} {A B : AAct} (h : Alike ops o A B) : ∀ x ∈ o.op.operands,A.eval x = B.eval x := by
 intro x hx
 cases x with
 | tmp t => exact h t (List.mem_append_left _ (List.mem_filterMap.2 ⟨.tmp t,by simpa using hx,rfl⟩))
 | const v => rfl
 | global g => rfl
 | func f => rfl
theorem Alike.wanted {ops : Array Oper} {o : Oper} {A B : AAct} (h : Alike ops o A B) : wantedA ops A o = wantedA ops B o :=
 wantedA_congr fun g want hg d hd => h d (List.mem_append_right _ (by rw [hg];simp [hd]))
theorem stepC_congr {C : Cfg} {rec : Task → Option Out} {me : FuncId} {ops : Array Oper} {ws : List Nat} {base top i : Nat} {o : Oper} {A B : AAct} {H : Heap} (h : Alike ops o A B) : stepC C rec me ops ws base top i o A H = stepC C rec me ops ws base top i o B H := by
 unfold stepC visOf
 rw [h.wanted,footA_congr h.eval]
 simp only [opA_congr (C := C) (rec := rec) (me := me) h.eval]
theorem alike_put {ops : Array Oper} {o : Oper} {A : AAct} {dst : Option Tmp} {v : AV} (h : ∀ d,dst = some d → d ∉ o.looksAt ops) : Alike ops o (A.put dst v) A := by
 intro t ht
 cases dst with
 | none => rfl
 | some d =>
  simp only [AAct.put]
  split
  ·rw [assoc_set,if_neg fun e => h d rfl (by rw [← e];exact ht)]
  ·rfl
def Touch (ft : Foot) (b : Nat) : Prop := ft.kept b = false ∧ (ft.writes = none ∨ (∃ W,ft.writes = some W ∧ b ∈ W) ∨ b ∈ ft.fresh)
theorem foot_fresh {C : Cfg} {me : FuncId} {o : Oper} {a : AAct} {slot : Nat} : (∀ b ∈ (footA C me o a slot).fresh,b = slot) ∧ (footA C me o a slot).plain = false := by
 unfold footA
 cases o.op
 case call c =>
  simp only []
  split
  ·exact ⟨fun b hb => by simpa using hb,rfl⟩
  ·exact ⟨fun b hb => by simp at hb,rfl⟩
  ·exact ⟨fun b hb => by simp at hb,rfl⟩
  ·exact ⟨fun b hb => by simp at hb,rfl⟩
  ·exact ⟨fun b hb => by simp at hb,rfl⟩
  ·exact ⟨fun b hb => by simp at hb,rfl⟩
  ·exact ⟨fun b hb => by simp at hb,rfl⟩
  ·split
   ·split
    ·exact ⟨fun b hb => by simp at hb,rfl⟩
    ·split
     ·exact ⟨fun b hb => by simp at hb,rfl⟩
     ·exact ⟨fun b hb => by simp at hb,rfl⟩
     ·exact ⟨fun b hb => by simp at hb,rfl⟩
   ·exact ⟨fun b hb => by simp at hb,rfl⟩
  ·exact ⟨fun b hb => by simp at hb,rfl⟩
 all_goals exact ⟨fun b hb => by first | (simp at hb;done) | (simpa using hb),rfl⟩
def behind (idle : Bool) (vis : Nat → Bool) (Hr H : Heap) : Heap := if idle then H else H.merge vis Hr
theorem eqVQ_eq {x y : Value} (h : eqVQ x y = true) : x = y := by
 unfold eqVQ at h
 split at h
 ·simp only [Bool.and_eq_true,decide_eq_true_eq] at h;rw [h.1,h.2]
 ·simp only [beq_iff_eq] at h;rw [h]
 ·rename_i a b
  rw [bytesEq_eq,beq_iff_eq] at h
  obtain ⟨⟨a⟩⟩ := a
  obtain ⟨⟨b⟩⟩ := b
  simp only at h;subst h;rfl
 ·rfl
 ·cases h
theorem eqLQ_eq {f : AV → AV → Bool} (hf : ∀ x y,f x y = true → x = y) : ∀ {l m : List AV},eqLQ f l m = true → l = m
 | [],[],_ => rfl
 | [],_ :: _,h => by simp [eqLQ] at h
 | _ :: _,[],h => by simp [eqLQ] at h
 | x :: r,y :: s,h => by
  simp only [eqLQ,Bool.and_eq_true] at h
  rw [hf _ _ h.1,eqLQ_eq hf h.2]
theorem eqCQ_eq {c c' : Option Nat} (h : eqCQ c c' = true) : c = c' := by
 unfold eqCQ at h
 split at h
 ·rfl
 ·rw [Nat.eq_of_beq_eq_true h]
 ·cases h
theorem eqQ_eq : ∀ (n : Nat) (x y : AV),eqQ n x y = true → x = y
 | 0,_,_,h => by cases h
 | n + 1,x,y,h => by
  have h' : eqSQ (eqQ n) x y = true := h
  unfold eqSQ at h'
  split at h'
  ·rw [eqVQ_eq h']
  ·rw [eqLQ_eq (eqQ_eq n) h']
  ·simp only [Bool.and_eq_true] at h'
   obtain ⟨⟨h1,h2⟩,h3⟩ := h'
   rw [Nat.eq_of_beq_eq_true h1,eqLQ_eq (eqQ_eq n) h2,eqCQ_eq h3]
  ·simp only [Bool.and_eq_true] at h'
   obtain ⟨⟨⟨⟨h1,h2⟩,h3⟩,h4⟩,h5⟩ := h'
   rw [Nat.eq_of_beq_eq_true h1,Nat.eq_of_beq_eq_true h2,Nat.eq_of_beq_eq_true h3,Nat.eq_of_beq_eq_true h4,eqCQ_eq h5]
  ·simp only [Bool.and_eq_true] at h'
   obtain ⟨⟨h1,h2⟩,h3⟩ := h'
   rw [Nat.eq_of_beq_eq_true h1,Nat.eq_of_beq_eq_true h2,Nat.eq_of_beq_eq_true h3]
  ·rw [Nat.eq_of_beq_eq_true h']
  ·cases h'
theorem sameO_eq {x y : Option AObj} (h : sameO x y = true) : x = y := by
 unfold sameO at h
 split at h
 ·rfl
 ·rfl
 ·simp only [Bool.and_eq_true,beq_iff_eq] at h
  obtain ⟨⟨⟨⟨⟨h1,h2⟩,h3⟩,h4⟩,h5⟩,h6⟩ := h
  rw [Nat.eq_of_beq_eq_true h1,Nat.eq_of_beq_eq_true h2,Nat.eq_of_beq_eq_true h3,Nat.eq_of_beq_eq_true h4,h5,eqLQ_eq (eqQ_eq 12) h6]
 ·cases h
theorem footN_same {b : Bool} {op : Op} {vis : Nat → Bool} {ft : Foot} {H H1 : Heap} : (footN b op vis ft H H1).reads = ft.reads ∧ (footN b op vis ft H H1).fresh = ft.fresh ∧ (footN b op vis ft H H1).plain = ft.plain := by
 unfold footN;split
 ·split <;> exact ⟨rfl,rfl,rfl⟩
 ·exact ⟨rfl,rfl,rfl⟩
theorem footI_same {b : Bool} {op : Op} {vis : Nat → Bool} {ft : Foot} : (footI b op vis ft).reads = ft.reads ∧ (footI b op vis ft).writes = ft.writes ∧ (footI b op vis ft).fresh = ft.fresh ∧ (footI b op vis ft).plain = ft.plain ∧ (footI b op vis ft).grows = ft.grows ∧ (footI b op vis ft).lim = ft.lim := by
 unfold footI;split
 ·split <;> exact ⟨rfl,rfl,rfl,rfl,rfl,rfl⟩
 ·exact ⟨rfl,rfl,rfl,rfl,rfl,rfl⟩
theorem foot_zero {C : Cfg} {me : FuncId} {o : Oper} {a : AAct} {slot : Nat} : (footA C me o a slot).loc = false ∧ (footA C me o a slot).lim = 0 := by
 unfold footA
 cases o.op
 case call c =>
  simp only []
  split
  ·exact ⟨rfl,rfl⟩
  ·exact ⟨rfl,rfl⟩
  ·exact ⟨rfl,rfl⟩
  ·exact ⟨rfl,rfl⟩
  ·exact ⟨rfl,rfl⟩
  ·exact ⟨rfl,rfl⟩
  ·exact ⟨rfl,rfl⟩
  ·split
   ·split
    ·exact ⟨rfl,rfl⟩
    ·split
     ·exact ⟨rfl,rfl⟩
     ·exact ⟨rfl,rfl⟩
     ·exact ⟨rfl,rfl⟩
   ·exact ⟨rfl,rfl⟩
  ·exact ⟨rfl,rfl⟩
 all_goals exact ⟨rfl,rfl⟩
theorem foot_kept {C : Cfg} {me : FuncId} {o : Oper} {a : AAct} {slot : Nat} : (footA C me o a slot).kept = noKept := by
 unfold footA
 cases o.op
 case call c =>
  simp only []
  split
  ·rfl
  ·rfl
  ·rfl
  ·rfl
  ·rfl
  ·rfl
  ·rfl
  ·split
   ·split
    ·rfl
    ·split <;> rfl
   ·rfl
  ·rfl
 all_goals rfl
theorem footI_kept {b : Bool} {op : Op} {vis : Nat → Bool} {ft : Foot} (h : ft.kept = noKept) {c : Nat} : (footI b op vis ft).kept c = false := by
 unfold footI;split
 ·split <;> simp only [h,noKept]
 ·rw [h];rfl
theorem footN_loc {b : Bool} {op : Op} {vis : Nat → Bool} {ft : Foot} {H H1 : Heap} (h0 : ft.loc = false) (h : (footN b op vis ft H H1).loc = true) : locF op vis ft = true ∧ ∀ H' H1',footN b op vis ft H' H1' = footN b op vis ft H H1 := by
 unfold footN at h ⊢
 split at h
 ·rename_i hb
  split at h
  ·rename_i hl
   exact ⟨hl,fun H' H1' => by simp only [hb,if_true,hl]⟩
  ·simp only at h;rw [h0] at h;cases h
 ·rw [h0] at h;cases h
theorem footI_loc {b : Bool} {op : Op} {vis : Nat → Bool} {ft : Foot} (h0 : ft.loc = false) (h : (footI b op vis ft).loc = true) : locF op vis ft = true := by
 unfold footI at h
 split at h
 ·split at h
  ·rename_i hl;exact hl
  ·rw [h0] at h;cases h
 ·rw [h0] at h;cases h
theorem footN_lim {b : Bool} {op : Op} {vis : Nat → Bool} {ft : Foot} {H H1 : Heap} (h0 : ft.lim = 0) : (footN b op vis ft H H1).lim ≤ H.size := by
 unfold footN
 split
 ·split
  ·simp only [h0];exact Nat.zero_le _
  ·exact Nat.le_refl _
 ·rw [h0];exact Nat.zero_le _
theorem stepC_inv {C : Cfg} {rec : Task → Option Out} {me : FuncId} {ops : Array Oper} {ws : List Nat} {base top i : Nat} {o : Oper} {A : AAct} {H H' : Heap} {ft : Foot} {v : AV} (hlt : base + i < H.size) (h : stepC C rec me ops ws base top i o A H = some (ft,v,H')) :
  (H' = H ∧ ∀ K,stepC C rec me ops ws base top i o A K = some (ft,v,K)) ∨
  (ft.plain = false ∧ ∃ Hr f0,f0 = footA C me o A (base + i) ∧ ft.reads = f0.reads ∧ ft.lim ≤ H.size ∧ ft.fresh = f0.fresh ∧ (ft.grows = false → H.size = Hr.size ∨ f0.idle = true) ∧ (f0.idle = true ∨ H.size ≤ Hr.size) ∧ H' = behind f0.idle (visOf C me ws base top i o A) Hr H ∧
   (∀ b,¬ Touch ft b → Hr.get b = (H.hide (visOf C me ws base top i o A)).get b) ∧
   (∀ K,K.hide (visOf C me ws base top i o A) = H.hide (visOf C me ws base top i o A) → stepC C rec me ops ws base top i o A K = some (ft,v,behind f0.idle (visOf C me ws base top i o A) Hr K)) ∧
   (ft.loc = true → ∃ l eff,ft.reads = some l ∧ (∀ b ∈ l,visOf C me ws base top i o A b = true) ∧ (∀ b ob,eff = some (b,ob) → (b ∈ l ∨ b = base + i) ∧ visOf C me ws base top i o A b = true ∧ b < H.size ∧ Touch ft b) ∧ H' = putO H eff ∧
    ∀ K : Heap,K.lock = H.lock → base + i < K.size → (∀ b,(b ∈ l ∨ b = base + i) → b < K.size ∧ b < H.size ∧ K.get b = H.get b) → stepC C rec me ops ws base top i o A K = some (ft,v,putO K eff))) := by
 unfold stepC at h ⊢
 split at h
 ·rename_i hw
  split at h
  ·rename_i hp
   split at h
   ·rename_i r H1 ho
    simp at h;obtain ⟨rfl,rfl,rfl⟩ := h
    exact .inl ⟨rfl,fun K => by simp only [hp,if_true,(plain_same hp ho).2 K]⟩
   ·cases h
  ·rename_i hp
   split at h
   ·rename_i r H1 ho
    have hkeep : ∀ W,(footA C me o A (base + i)).writes = some W → Keeps (H.hide (visOf C me ws base top i o A)) H1 (W ++ (footA C me o A (base + i)).fresh) := fun W hW => opA_keeps ho (by rw [hide_size];exact hlt) hW
    have htouch : ∀ ft : Foot,ft.writes = (footA C me o A (base + i)).writes → ft.fresh = (footA C me o A (base + i)).fresh → (∀ b,ft.kept b = true → H1.get b = (H.hide (visOf C me ws base top i o A)).get b) → ∀ b,¬ Touch ft b → H1.get b = (H.hide (visOf C me ws base top i o A)).get b := by
     intro ft h1 h2 h3 b hb
     cases hk : ft.kept b with
     | true => exact h3 b hk
     | false =>
     replace hb : ¬ (ft.writes = none ∨ (∃ W,ft.writes = some W ∧ b ∈ W) ∨ b ∈ ft.fresh) := fun h => hb ⟨hk,h⟩
     cases hwr : (footA C me o A (base + i)).writes with
     | none => exact absurd (.inl (h1.trans hwr)) hb
     | some W =>
      refine (hkeep W hwr).2.2 b fun hm => hb ?_
      rcases List.mem_append.1 hm with hm | hm
      ·exact .inr (.inl ⟨W,h1.trans hwr,hm⟩)
      ·exact .inr (.inr (by rw [h2];exact hm))
    -- what a local operation does,on other memory
    have hloc : locF o.op (visOf C me ws base top i o A) (footA C me o A (base + i)) = true → ∃ l eff,(footA C me o A (base + i)).reads = some l ∧ (∀ b ∈ l,visOf C me ws base top i o A b = true) ∧ (∀ b ob,eff = some (b,ob) → (b ∈ l ∨ b = base + i) ∧ visOf C me ws base top i o A b = true ∧ b < H.size) ∧ H1 = putO (H.hide (visOf C me ws base top i o A)) eff ∧
      ∀ K : Heap,K.lock = H.lock → base + i < K.size → (∀ b ∈ l,b < K.size ∧ b < H.size ∧ K.get b = H.get b) → opA C rec me o A (K.hide (visOf C me ws base top i o A)) (base + i) = some (r,putO (K.hide (visOf C me ws base top i o A)) eff) := by
     intro hl
     unfold locF at hl
     simp only [Bool.and_eq_true] at hl
     obtain ⟨hl1,hl2⟩ := hl
     obtain ⟨reads,hr,eff,he1,he2,he3⟩ := opA_loc hl1 ho
     rw [hr] at hl2
     simp only [List.all_eq_true] at hl2
     refine ⟨reads,eff,hr,hl2,fun b ob hb => ?_,he2,fun K hK1 hK2 hK3 => he3 _ hK1 fun b hb => ?_⟩
     ·rcases he1 b ob hb with ⟨h1,h2⟩ | h1
      ·obtain ⟨o2,ho2⟩ := Option.isSome_iff_exists.1 h2
       have := get_ltS ho2
       rw [hide_size] at this
       exact ⟨.inl h1,hl2 b h1,this⟩
      ·subst h1
       exact ⟨.inr rfl,by simp [visOf,visB],hlt⟩
     ·obtain ⟨k1,k2,k3⟩ := hK3 b hb
      rw [hide_get,hide_get,if_pos k1,if_pos k2,k3]
    split at h
    ·rename_i hid
     simp at h;obtain ⟨rfl,rfl,rfl⟩ := h
     refine .inr ⟨footI_same.2.2.2.1.trans foot_fresh.2,H1,_,rfl,footI_same.1,by rw [footI_same.2.2.2.2.2,foot_zero.2];exact Nat.zero_le _,footI_same.2.2.1,fun _ => .inr hid,.inl hid,by simp [behind,hid],htouch _ footI_same.2.1 footI_same.2.2.1 (fun b hb => by rw [footI_kept foot_kept] at hb;cases hb),fun K hK => ?_,fun hlc => ?_⟩
     ·simp only [hp,if_false,hK,ho,hid,if_true,behind,Bool.false_eq_true]
     ·obtain ⟨l,eff,q1,q0,q2,q3,q4⟩ := hloc (footI_loc foot_zero.1 hlc)
      refine ⟨l,none,footI_same.1.trans q1,q0,(fun b ob hb => nomatch hb),rfl,fun K k1 k2 k3 => ?_⟩
      simp only [hp,if_false,q4 K k1 k2 (fun b hb => k3 b (.inl hb)),hid,if_true,Bool.false_eq_true,putO]
    ·rename_i hid
     split at h
     ·rename_i hle
      simp at h;obtain ⟨rfl,rfl,rfl⟩ := h
      have hKs : ∀ K : Heap,K.hide (visOf C me ws base top i o A) = H.hide (visOf C me ws base top i o A) → K.size = H.size := fun K hK => by
       have := congrArg Heap.size hK
       rwa [hide_size,hide_size] at this
      have htch : ∀ b,¬ Touch ({ footN (C.near me o.dst) o.op (visOf C me ws base top i o A) (footA C me o A (base + i)) (H.hide (visOf C me ws base top i o A)) H1 with grows := !(Nat.beq H1.size H.size) }) b → H1.get b = (H.hide (visOf C me ws base top i o A)).get b := by
       cases hnr : C.near me o.dst
       ·refine htouch _ ?_ ?_ fun b hb => ?_
        ·simp [footN]
        ·simp [footN]
        ·simp [footN,foot_kept,noKept] at hb
       ·by_cases hlf : locF o.op (visOf C me ws base top i o A) (footA C me o A (base + i)) = true
        ·refine htouch _ ?_ ?_ fun b hb => ?_
         ·simp [footN,hlf]
         ·simp [footN,hlf]
         ·simp [footN,hlf,foot_kept,noKept] at hb
        ·refine htouch _ ?_ ?_ fun b hb => ?_
         ·simp [footN,hlf]
         ·simp [footN,hlf]
         ·have : sameO ((H.hide (visOf C me ws base top i o A)).get b) (H1.get b) = true := by simpa [footN,hlf] using hb
          exact (sameO_eq this).symm
      refine .inr ⟨footN_same.2.2.trans foot_fresh.2,H1,_,rfl,footN_same.1, ?_,footN_same.2.1,fun hg => .inl ?_,.inr (Nat.le_of_ble_eq_true hle),by simp [behind,hid],htch,fun K hK => ?_,fun hlc => ?_⟩
      ·have := footN_lim (b := C.near me o.dst) (op := o.op) (vis := visOf C me ws base top i o A) (ft := footA C me o A (base + i)) (H := H.hide (visOf C me ws base top i o A)) (H1 := H1) foot_zero.2
       rwa [hide_size] at this
      ·simp only [Bool.not_eq_false'] at hg
       exact (Nat.eq_of_beq_eq_true hg).symm
      ·simp only [hp,if_false,hK,ho,hid,behind,Bool.false_eq_true,hKs K hK,hle,if_true]
      ·have hlc' : (footN (C.near me o.dst) o.op (visOf C me ws base top i o A) (footA C me o A (base + i)) (H.hide (visOf C me ws base top i o A)) H1).loc = true := hlc
       obtain ⟨hlf,hsame⟩ := footN_loc foot_zero.1 hlc'
       obtain ⟨l,eff,q1,q0,q2,q3,q4⟩ := hloc hlf
       have hm0 := merge_putO (G := H) (vis := visOf C me ws base top i o A) (eff := eff) fun b ob hb => ⟨(q2 b ob hb).2.2,(q2 b ob hb).2.1⟩
       have hg0 : Nat.beq H1.size H.size = true := by rw [q3,hm0.2.1];exact Nat.beq_refl _
       have hK0 : ∀ K : Heap,K.lock = H.lock → base + i < K.size → (∀ b,(b ∈ l ∨ b = base + i) → b < K.size ∧ b < H.size ∧ K.get b = H.get b) → _ := fun K k1 k2 k3 => by
        have hmK := merge_putO (G := K) (vis := visOf C me ws base top i o A) (eff := eff) fun b ob hb => ⟨(k3 b (q2 b ob hb).1).1,(q2 b ob hb).2.1⟩
        have hstep : stepC C rec me ops ws base top i o A K = some ({ footN (C.near me o.dst) o.op (visOf C me ws base top i o A) (footA C me o A (base + i)) (H.hide (visOf C me ws base top i o A)) H1 with grows := !(Nat.beq H1.size H.size) },r.getD undefA,putO K eff) := by
         unfold stepC
         simp only [hw,hp,if_false,q4 K k1 k2 (fun b hb => k3 b (.inl hb)),hid,Bool.false_eq_true,hmK.2.1,Nat.ble_eq_true_of_le (Nat.le_refl K.size),if_true,hmK.1,hsame,Nat.beq_refl,hg0]
        exact hstep
       by_cases ht : ∀ b ob,eff = some (b,ob) → Touch ({ footN (C.near me o.dst) o.op (visOf C me ws base top i o A) (footA C me o A (base + i)) (H.hide (visOf C me ws base top i o A)) H1 with grows := !(Nat.beq H1.size H.size) }) b
       ·refine ⟨l,eff,footN_same.1.trans q1,q0,fun b ob hb => ⟨(q2 b ob hb).1,(q2 b ob hb).2.1,(q2 b ob hb).2.2,ht b ob hb⟩,by rw [q3];exact hm0.1,fun K k1 k2 k3 => ?_⟩
        have := hK0 K k1 k2 k3
        unfold stepC at this
        rw [hw] at this
        exact this
       ·have ht : ∃ b ob,eff = some (b,ob) ∧ ¬ Touch ({ footN (C.near me o.dst) o.op (visOf C me ws base top i o A) (footA C me o A (base + i)) (H.hide (visOf C me ws base top i o A)) H1 with grows := !(Nat.beq H1.size H.size) }) b := by
         refine Classical.byContradiction fun hc => ht fun b ob hb => Classical.byContradiction fun hb2 => hc ⟨b,ob,hb,hb2⟩
        obtain ⟨b,ob,he,hnt⟩ := ht
        subst he
        obtain ⟨z1,z2,z3⟩ := q2 b ob rfl
        have hb1 : H1.get b = some ob := by rw [q3];exact put_get_eq ob (by rw [hide_size];omega)
        have hb2 : H.get b = some ob := by
         rw [htch b hnt,hide_get,if_pos z3,if_pos z2] at hb1;exact hb1
        have hput : ∀ K : Heap,b < K.size → K.get b = some ob → K.put b ob = K := fun K k1 k2 => by
         refine heap_ext rfl (put_sizeI ob k1) fun c => ?_
         by_cases hc : c = b
         ·rw [hc,put_get_eq ob (by omega),k2]
         ·exact put_get_ne ob (by omega) hc
        refine ⟨l,none,footN_same.1.trans q1,q0,(fun b ob hb => nomatch hb),by rw [q3];exact hm0.1.trans (hput H z3 hb2),fun K k1 k2 k3 => ?_⟩
        have := hK0 K k1 k2 k3
        unfold stepC at this
        rw [hw] at this
        simp only [putO] at this ⊢
        rw [hput K (k3 b z1).1 ((k3 b z1).2.2.trans hb2)] at this
        exact this
     ·cases h
   ·cases h
 ·rename_i hw
  simp at h;obtain ⟨rfl,rfl,rfl⟩ := h
  exact .inl ⟨rfl,fun K => by simp only⟩
 ·cases h
end Go.Ev
namespace Go.Ev
variable {P : Program}
theorem meet_no {x y : Option (List Nat)} (h : meet x y = false) {b : Nat} (hx : x = none ∨ ∃ l,x = some l ∧ b ∈ l) (hy : y = none ∨ ∃ l,y = some l ∧ b ∈ l) : False := by
 unfold meet at h
 split at h
 ·rcases hx with hx | ⟨l,hx,hb⟩
  ·cases hx
  ·cases hx;cases hb
 ·rcases hy with hy | ⟨l,hy,hb⟩
  ·cases hy
  ·cases hy;cases hb
 ·rename_i l m _ _
  rcases hx with hx | ⟨l',hx,hb⟩
  ·cases hx
  ·cases hx
   rcases hy with hy | ⟨m',hy,hb'⟩
   ·cases hy
   ·cases hy
    rw [List.any_eq_false] at h
    exact h b hb (by simpa using hb')
 ·cases h
theorem kept_no {x : Foot} {r : Option (List Nat)} {b : Nat} (h : keptAll x r = true) (hk : x.kept b = false) (hr : r = none ∨ ∃ l,r = some l ∧ b ∈ l) : False := by
 rcases hr with hr | ⟨l,hr,hb⟩
 ·subst hr;cases h
 ·subst hr
  have := List.all_eq_true.1 (show l.all x.kept = true from h) b hb
  rw [hk] at this;cases this
theorem meet_kept {x : Foot} {w r : Option (List Nat)} {b : Nat} (h : (meet w r && !(keptAll x r)) = false) (hk : x.kept b = false) (hw : w = none ∨ ∃ l,w = some l ∧ b ∈ l) (hr : r = none ∨ ∃ l,r = some l ∧ b ∈ l) : False := by
 cases hm : meet w r with
 | false => exact meet_no hm hw hr
 | true =>
  rw [hm] at h
  exact kept_no (by simpa using h) hk hr
theorem meet_kept' {x : Foot} {w r : Option (List Nat)} {b : Nat} (h : (meet r w && !(keptAll x r)) = false) (hk : x.kept b = false) (hr : r = none ∨ ∃ l,r = some l ∧ b ∈ l) (hw : w = none ∨ ∃ l,w = some l ∧ b ∈ l) : False := by
 cases hm : meet r w with
 | false => exact meet_no hm hr hw
 | true =>
  rw [hm] at h
  exact kept_no (by simpa using h) hk hr
theorem vis_reads {C : Cfg} {me : FuncId} {ws : List Nat} {base top i : Nat} {o : Oper} {a : AAct} {b : Nat} (h : visOf C me ws base top i o a b = true) :
  b = base + i ∨ ((b < base ∨ top ≤ b ∨ (ws.getD i 0).testBit (b - base) = true) ∧ ((footA C me o a (base + i)).reads = none ∨ ∃ l,(footA C me o a (base + i)).reads = some l ∧ b ∈ l)) := by
 unfold visOf visB at h
 simp only [Bool.or_eq_true,Bool.and_eq_true] at h
 rcases h with h | ⟨h1,h2⟩
 ·exact .inl (Nat.eq_of_beq_eq_true h)
 ·refine .inr ⟨?_, ?_⟩
  ·rcases h1 with (h1 | h1) | h1
   ·exact .inl (by simpa [Nat.blt_eq] using h1)
   ·exact .inr (.inl (Nat.le_of_ble_eq_true h1))
   ·exact .inr (.inr h1)
  ·split at h2
   ·rename_i hr;exact .inl hr
   ·rename_i l hr
    refine .inr ⟨l,hr, ?_⟩
    rw [List.any_eq_true] at h2
    obtain ⟨y,hy,he⟩ := h2
    rw [Nat.eq_of_beq_eq_true he];exact hy
theorem behind_get {idle : Bool} {vis : Nat → Bool} {Hr H : Heap} (hle : idle = true ∨ H.size ≤ Hr.size) {b : Nat} (hb : b < H.size) : (behind idle vis Hr H).get b = if idle = false ∧ vis b = true then Hr.get b else H.get b := by
 unfold behind
 cases idle with
 | true => simp
 | false =>
  have hle : H.size ≤ Hr.size := by rcases hle with h | h;cases h;exact h
  simp only [Bool.false_eq_true,if_false,true_and,merge_get vis hle b,if_pos hb]
theorem behind_size {idle : Bool} {vis : Nat → Bool} {Hr H : Heap} (hs : H.size = Hr.size ∨ idle = true) : (behind idle vis Hr H).size = H.size := by
 unfold behind
 cases idle with
 | true => rfl
 | false =>
  rcases hs with hs | hs
  ·simp only [Bool.false_eq_true,if_false];rw [merge_size vis (Nat.le_of_eq hs),hs]
  ·cases hs
theorem behind_lock {idle : Bool} {vis : Nat → Bool} {Hr H : Heap} : (behind idle vis Hr H).lock = H.lock := by
 unfold behind;split <;> rfl
theorem hide_eq {H K : Heap} {vis : Nat → Bool} (hl : K.lock = H.lock) (hs : K.size = H.size) (h : ∀ b,b < H.size → vis b = true → K.get b = H.get b) : K.hide vis = H.hide vis := by
 refine heap_ext hl (by rw [hide_size,hide_size,hs]) fun b => ?_
 rw [hide_get,hide_get,hs]
 split
 ·rename_i hb
  split
  ·rename_i hv;exact h b hb hv
  ·rfl
 ·rfl
theorem putO_hide {H : Heap} {vis : Nat → Bool} {eff : Option (Nat × AObj)} (he : ∀ b ob,eff = some (b,ob) → b < H.size ∧ vis b = false) : (putO H eff).hide vis = H.hide vis := by
 cases eff with
 | none => rfl
 | some p =>
  obtain ⟨b,ob⟩ := p
  obtain ⟨h1,h2⟩ := he b ob rfl
  refine hide_eq rfl (put_sizeI ob h1) fun c hc hv => ?_
  by_cases hcb : c = b
  ·subst hcb;rw [h2] at hv;cases hv
  ·exact put_get_ne ob (by omega) hcb
theorem behind_putO {idle : Bool} {vis : Nat → Bool} {R H : Heap} {eff : Option (Nat × AObj)} (hle : idle = true ∨ H.size ≤ R.size) (he : ∀ b ob,eff = some (b,ob) → b < H.size ∧ vis b = false) : behind idle vis R (putO H eff) = putO (behind idle vis R H) eff := by
 cases eff with
 | none => rfl
 | some p =>
  obtain ⟨b,ob⟩ := p
  obtain ⟨h1,h2⟩ := he b ob rfl
  cases idle with
  | true => rfl
  | false =>
   have hle : H.size ≤ R.size := by rcases hle with h | h;cases h;exact h
   have hp : (H.put b ob).size = H.size := put_sizeI ob h1
   have hle2 : (H.put b ob).size ≤ R.size := by rw [hp];exact hle
   have hm : (H.merge vis R).size = R.size := merge_size vis hle
   simp only [behind,Bool.false_eq_true,if_false,putO]
   refine heap_ext rfl (by rw [merge_size vis hle2,put_sizeI ob (by omega),hm]) fun c => ?_
   rw [merge_get vis hle2,hp]
   by_cases hcb : c = b
   ·subst hcb
    rw [if_pos h1,h2,put_get_eq ob (by omega),put_get_eq ob (by omega)]
    simp
   ·rw [put_get_ne ob (by omega) hcb,put_get_ne ob (by omega) hcb,merge_get vis hle]
theorem swapC {C : Cfg} {rec : Task → Option Out} {me : FuncId} {ops : Array Oper} {ws : List Nat} {base n i j : Nat} {oi oj : Oper} {A : AAct} {H H1 H2 : Heap} {fi fj : Foot} {vi vj : AV}
  (hne : j ≠ i) (hi : i < n) (hj : j < n) (hsz : base + n ≤ H.size) (wij : (ws.getD i 0).testBit j = false) (wji : (ws.getD j 0).testBit i = false) (hcl : clash fj fi = false)
  (h1 : stepC C rec me ops ws base (base + n) j oj A H = some (fj,vj,H1)) (h2 : stepC C rec me ops ws base (base + n) i oi A H1 = some (fi,vi,H2)) :
  ∃ H1',stepC C rec me ops ws base (base + n) i oi A H = some (fi,vi,H1') ∧ stepC C rec me ops ws base (base + n) j oj A H1' = some (fj,vj,H2) := by
 rcases stepC_inv (by omega) h1 with ⟨rfl,sj⟩ | ⟨pj,Rj,f0j,rfl,rj,wj,frj,gj,lj,e1,tj,cj,pcj⟩
 ·exact ⟨H2,h2,sj H2⟩
 ·have hszle : H.size ≤ H1.size := by
   rw [e1];unfold behind
   split
   ·exact Nat.le_refl _
   ·rename_i hid
    rcases lj with h | h
    ·exact absurd h hid
    ·rw [merge_size _ h];exact h
  rcases stepC_inv (by omega) h2 with ⟨rfl,si⟩ | ⟨pi,Ri,f0i,rfl,ri,wi,fri,gi,li,e2,ti,ci,pci⟩
  ·exact ⟨H,si H,h1⟩
  ·-- both have to do with memory
   simp only [clash,Bool.or_eq_false_iff,pi,pj,Bool.false_or] at hcl
   obtain ⟨⟨⟨⟨⟨⟨c1,c2⟩,c3⟩,c4⟩,c5⟩,c6⟩,c7⟩ := hcl
   -- what the first turns,the second does not see,and the other way round
   have selfi : ∀ {k l : Nat} {o : Oper},k < n → l < n → l ≠ k → (ws.getD l 0).testBit k = false → visOf C me ws base (base + n) l o A (base + k) = true → False := by
    intro k l o hk hl hne hw hv
    rcases vis_reads hv with he | ⟨hw', -⟩
    ·omega
    ·rcases hw' with hw' | hw' | hw'
     ·omega
     ·omega
     ·rw [Nat.add_sub_cancel_left,hw] at hw';cases hw'
   have dji : ∀ b,visOf C me ws base (base + n) j oj A b = true → Touch fj b → visOf C me ws base (base + n) i oi A b = true → False := by
    intro b hvj ht hv
    rcases vis_reads hv with rfl | ⟨-,hr⟩
    ·exact selfi hi hj hne wji hvj
    ·rw [← ri] at hr
     obtain ⟨hk,ht⟩ := ht
     rcases ht with ht | ⟨W,hW,hb⟩ | hb
     ·exact meet_kept c1 hk (.inl ht) hr
     ·exact meet_kept c1 hk (.inr ⟨W,hW,hb⟩) hr
     ·rw [frj] at hb
      rw [foot_fresh.1 _ hb] at hv
      exact selfi hj hi (Ne.symm hne) wij hv
   have dij : ∀ b,visOf C me ws base (base + n) i oi A b = true → Touch fi b → visOf C me ws base (base + n) j oj A b = true → False := by
    intro b hvi ht hv
    rcases vis_reads hv with rfl | ⟨-,hr⟩
    ·exact selfi hj hi (Ne.symm hne) wij hvi
    ·rw [← rj] at hr
     obtain ⟨hk,ht⟩ := ht
     rcases ht with ht | ⟨W,hW,hb⟩ | hb
     ·exact meet_kept' c3 hk hr (.inl ht)
     ·exact meet_kept' c3 hk hr (.inr ⟨W,hW,hb⟩)
     ·rw [fri] at hb
      rw [foot_fresh.1 _ hb] at hv
      exact selfi hi hj hne wji hv
   have hlt1 : base + n ≤ H1.size := Nat.le_trans hsz hszle
   have hlk1 : H1.lock = H.lock := by rw [e1];exact behind_lock
   by_cases gj1 : fj.grows = true
   ·-- the first one grows memory: the other has to do with what it names only
    have hli : fi.loc = true ∧ below fj.lim fi.reads = true := by
     rw [gj1] at c6
     simpa using c6
    obtain ⟨l,eff,x1,x0,x2,x3,x4⟩ := pci hli.1
    have hbl : ∀ b,(b ∈ l ∨ b = base + i) → b < H.size := fun b hb => by
     rcases hb with hb | hb
     ·have := hli.2
      rw [x1] at this
      simp only [below,List.all_eq_true] at this
      have := this b hb
      rw [Nat.blt_eq] at this
      omega
     ·omega
    have hsame : ∀ b,(b ∈ l ∨ b = base + i) → H1.get b = H.get b := fun b hb => by
     have hbs := hbl b hb
     rw [e1,behind_get lj hbs]
     split
     ·rename_i hc
      rcases hb with hb | hb
      ·by_cases ht : Touch fj b
       ·exact (dji b hc.2 ht (x0 b hb)).elim
       ·rw [tj b ht,hide_get,if_pos hbs,if_pos hc.2]
      ·subst hb
       exact (selfi hi hj hne wji hc.2).elim
     ·rfl
    have stepI := x4 H hlk1.symm (by omega) fun b hb => ⟨hbl b hb,Nat.lt_of_lt_of_le (hbl b hb) hszle,(hsame b hb).symm⟩
    have heff : ∀ b ob,eff = some (b,ob) → b < H.size ∧ visOf C me ws base (base + n) j oj A b = false := fun b ob hb => by
     obtain ⟨y1,y2,y3,y4⟩ := x2 b ob hb
     refine ⟨hbl b y1, ?_⟩
     cases hv : visOf C me ws base (base + n) j oj A b with
     | false => rfl
     | true => exact (dij b y2 y4 hv).elim
    refine ⟨_,stepI, ?_⟩
    rw [cj _ (putO_hide heff),behind_putO lj heff,← e1,x3]
   by_cases gi1 : fi.grows = true
   ·have hlj : fj.loc = true ∧ below fi.lim fj.reads = true := by
     rw [gi1] at c7
     simpa using c7
    obtain ⟨l,eff,x1,x0,x2,x3,x4⟩ := pcj hlj.1
    have hs1 : H1.size = H.size := by
     rw [x3]
     cases eff with
     | none => rfl
     | some p => obtain ⟨b,ob⟩ := p;exact put_sizeI ob (x2 b ob rfl).2.2.1
    have hbl : ∀ b,(b ∈ l ∨ b = base + j) → b < H.size := fun b hb => by
     rcases hb with hb | hb
     ·have := hlj.2
      rw [x1] at this
      simp only [below,List.all_eq_true] at this
      have := this b hb
      rw [Nat.blt_eq] at this
      omega
     ·omega
    have heff : ∀ b ob,eff = some (b,ob) → b < H.size ∧ visOf C me ws base (base + n) i oi A b = false := fun b ob hb => by
     obtain ⟨y1,y2,y3,y4⟩ := x2 b ob hb
     refine ⟨y3, ?_⟩
     cases hv : visOf C me ws base (base + n) i oi A b with
     | false => rfl
     | true => exact (dji b y2 y4 hv).elim
    have hhide := putO_hide heff
    rw [← x3] at hhide
    have stepI := ci H hhide.symm
    have li' : (footA C me oi A (base + i)).idle = true ∨ H.size ≤ Ri.size := by rw [← hs1];exact li
    have hGs : H.size ≤ (behind (footA C me oi A (base + i)).idle (visOf C me ws base (base + n) i oi A) Ri H).size := by
     unfold behind
     split
     ·exact Nat.le_refl _
     ·rename_i hid
      rcases li' with h | h
      ·exact absurd h hid
      ·rw [merge_size _ h];exact h
    have stepJ := x4 (behind (footA C me oi A (base + i)).idle (visOf C me ws base (base + n) i oi A) Ri H) behind_lock (by omega) fun b hb => ⟨Nat.lt_of_lt_of_le (hbl b hb) hGs,hbl b hb,by
     have hbs := hbl b hb
     rw [behind_get li' hbs]
     split
     ·rename_i hc
      rcases hb with hb | hb
      ·by_cases ht : Touch fi b
       ·exact (dij b hc.2 ht (x0 b hb)).elim
       ·rw [ti b ht,hhide,hide_get,if_pos hbs,if_pos hc.2]
      ·subst hb
       exact (selfi hj hi (Ne.symm hne) wij hc.2).elim
     ·rfl⟩
    refine ⟨_,stepI, ?_⟩
    rw [stepJ,← behind_putO li' heff,← x3,e2]
   have sj := gj (by simpa using gj1)
   have si := gi (by simpa using gi1)
   have hs1 : H1.size = H.size := by rw [e1];exact behind_size sj
   -- where an operation turns nothing,it leaves what was there
   have leftj : ∀ b,b < H.size → visOf C me ws base (base + n) j oj A b = true → ¬ Touch fj b → Rj.get b = H.get b := fun b hb hv ht => by
    rw [tj b ht,hide_get,if_pos hb,if_pos hv]
   have leftj' : ∀ b,b < H.size → visOf C me ws base (base + n) i oi A b = true → H1.get b = H.get b := fun b hb hv => by
    rw [e1,behind_get lj hb]
    split
    ·rename_i hc
     by_cases ht : Touch fj b
     ·exact (dji b hc.2 ht hv).elim
     ·exact leftj b hb hc.2 ht
    ·rfl
   have hideI : H.hide (visOf C me ws base (base + n) i oi A) = H1.hide (visOf C me ws base (base + n) i oi A) :=
    (hide_eq (by rw [e1];exact behind_lock) hs1 leftj').symm
   have stepI := ci H hideI
   have si' : H.size = Ri.size ∨ (footA C me oi A (base + i)).idle = true := by rw [← hs1];exact si
   have li' : (footA C me oi A (base + i)).idle = true ∨ H.size ≤ Ri.size := by rw [← hs1];exact li
   have lefti : ∀ b,b < H.size → visOf C me ws base (base + n) i oi A b = true → ¬ Touch fi b → Ri.get b = H.get b := fun b hb hv ht => by
    rw [ti b ht,← hideI,hide_get,if_pos hb,if_pos hv]
   have lefti' : ∀ b,b < H.size → visOf C me ws base (base + n) j oj A b = true → (behind (footA C me oi A (base + i)).idle (visOf C me ws base (base + n) i oi A) Ri H).get b = H.get b := fun b hb hv => by
    rw [behind_get li' hb]
    split
    ·rename_i hc
     by_cases ht : Touch fi b
     ·exact (dij b hc.2 ht hv).elim
     ·exact lefti b hb hc.2 ht
    ·rfl
   have hideJ := hide_eq (vis := visOf C me ws base (base + n) j oj A) (behind_lock (idle := (footA C me oi A (base + i)).idle) (vis := visOf C me ws base (base + n) i oi A) (Hr := Ri) (H := H)) (behind_size si') lefti'
   refine ⟨_,stepI, ?_⟩
   rw [cj _ hideJ]
   have hsI := behind_size (vis := visOf C me ws base (base + n) i oi A) si'
   have hfin : behind (footA C me oj A (base + j)).idle (visOf C me ws base (base + n) j oj A) Rj (behind (footA C me oi A (base + i)).idle (visOf C me ws base (base + n) i oi A) Ri H) = H2 := by
    rw [e2]
    have sj' : (behind (footA C me oi A (base + i)).idle (visOf C me ws base (base + n) i oi A) Ri H).size = Rj.size ∨ (footA C me oj A (base + j)).idle = true := by rw [hsI];exact sj
    have lj' : (footA C me oj A (base + j)).idle = true ∨ (behind (footA C me oi A (base + i)).idle (visOf C me ws base (base + n) i oi A) Ri H).size ≤ Rj.size := by rw [hsI];exact lj
    refine heap_ext (by rw [behind_lock,behind_lock,behind_lock,e1,behind_lock]) (by rw [behind_size sj',hsI,behind_size si,hs1]) fun b => ?_
    by_cases hb : b < H.size
    ·rw [behind_get lj' (by rw [hsI];exact hb),behind_get li (by rw [hs1];exact hb),behind_get li' hb,e1,behind_get lj hb]
     by_cases hcj : (footA C me oj A (base + j)).idle = false ∧ visOf C me ws base (base + n) j oj A b = true
     ·rw [if_pos hcj,if_pos hcj]
      by_cases hci : (footA C me oi A (base + i)).idle = false ∧ visOf C me ws base (base + n) i oi A b = true
      ·rw [if_pos hci]
       rw [leftj b hb hcj.2 fun ht => dji b hcj.2 ht hci.2,lefti b hb hci.2 fun ht => dij b hci.2 ht hcj.2]
      ·rw [if_neg hci]
     ·rw [if_neg hcj,if_neg hcj]
    ·rw [get_none (by rw [behind_size sj',hsI];exact hb),get_none (by rw [behind_size si,hs1];exact hb)]
   rw [hfin]
end Go.Ev
namespace Go.Ev
variable {P : Program} {Z : Fzn} {ρ : Pls} {H : Heap} {w : World}
structure AEq (A B : AAct) : Prop where
 size : A.size = B.size
 marks : A.marks = B.marks
 tmps : ∀ t,assoc t A.tmps = assoc t B.tmps
theorem AEq.refl (A : AAct) : AEq A A := ⟨rfl,rfl,fun _ => rfl⟩
theorem AEq.symm {A B : AAct} (h : AEq A B) : AEq B A := ⟨h.1.symm,h.2.symm,fun t => (h.3 t).symm⟩
theorem AEq.trans {A B D : AAct} (h : AEq A B) (k : AEq B D) : AEq A D := ⟨h.1.trans k.1,h.2.trans k.2,fun t => (h.3 t).trans (k.3 t)⟩
theorem AEq.alike {A B : AAct} (h : AEq A B) (ops : Array Oper) (o : Oper) : Alike ops o A B := fun t _ => h.3 t
theorem AEq.sim {A B : AAct} {a : Act} (h : AEq A B) (s : SimA Z ρ A a) : SimA Z ρ B a := s.sub h.1.symm h.2.symm fun t v ht => by rw [h.3];exact ht
theorem put_get (A : AAct) (dst : Option Tmp) (v : AV) (t : Tmp) : assoc t (A.put dst v).tmps = if dst = some t ∧ t < A.size then some v else assoc t A.tmps := by
 cases dst with
 | none => simp [AAct.put]
 | some d =>
  simp only [AAct.put]
  by_cases hd : d < A.size
  ·simp only [hd,if_true,assoc_set]
   by_cases e : t = d
   ·subst e;simp [hd]
   ·rw [if_neg e,if_neg];rintro ⟨h, -⟩;exact e (Option.some.inj h).symm
  ·simp only [hd,if_false]
   rw [if_neg];rintro ⟨h,h'⟩;exact hd (by rw [Option.some.inj h];exact h')
theorem put_size (A : AAct) (dst : Option Tmp) (v : AV) : (A.put dst v).size = A.size ∧ (A.put dst v).marks = A.marks := by
 cases dst with
 | none => exact ⟨rfl,rfl⟩
 | some d => simp only [AAct.put];split <;> exact ⟨rfl,rfl⟩
theorem AEq.put {A B : AAct} (h : AEq A B) (dst : Option Tmp) (v : AV) : AEq (A.put dst v) (B.put dst v) :=
 ⟨by rw [(put_size A dst v).1,(put_size B dst v).1,h.1],by rw [(put_size A dst v).2,(put_size B dst v).2,h.2],fun t => by rw [put_get,put_get,h.1,h.3]⟩
theorem put_comm (A : AAct) {d e : Option Tmp} (u v : AV) (h : ∀ t,d = some t → e ≠ some t) : AEq ((A.put d u).put e v) ((A.put e v).put d u) := by
 refine ⟨by simp only [put_size],by simp only [put_size],fun t => ?_⟩
 simp only [put_get,put_size]
 by_cases h1 : d = some t ∧ t < A.size
 ·have : ¬ (e = some t ∧ t < A.size) := fun h2 => h t h1.1 h2.1
  rw [if_neg this,if_pos h1,if_pos h1]
 ·rw [if_neg h1,if_neg h1]
section
variable (C : Cfg) (rec : Task → Option Out) (me : FuncId) (ops : Array Oper) (ws : List Nat) (base top : Nat)
inductive Runs : List (Nat × Foot) → AAct → Heap → AAct → Heap → Prop
 | nil {A B H} (h : AEq A B) : Runs [] A H B H
 | cons {i o ft v A H H1 l B HB} (ho : ops[i]? = some o) (h : stepC C rec me ops ws base top i o A H = some (ft,v,H1)) (hr : Runs l (A.put o.dst v) H1 B HB) : Runs ((i,ft) :: l) A H B HB
end
section
variable {C : Cfg} {rec : Task → Option Out} {me : FuncId} {ops : Array Oper} {ws : List Nat} {base n : Nat}
theorem Runs.aeq {top : Nat} {l : List (Nat × Foot)} {A B : AAct} {H HB : Heap} (hr : Runs C rec me ops ws base top l A H B HB) : ∀ {A'},AEq A A' → Runs C rec me ops ws base top l A' H B HB := by
 induction hr with
 | nil h => exact fun e => .nil (e.symm.trans h)
 | cons ho h hr ih => exact fun e => .cons ho ((stepC_congr (e.symm.alike ops _)).trans h) (ih (e.put _ _))
theorem stepC_size {i : Nat} {o : Oper} {A : AAct} {H H' : Heap} {ft : Foot} {v : AV} {top : Nat} (hlt : base + i < H.size) (h : stepC C rec me ops ws base top i o A H = some (ft,v,H')) : H.size ≤ H'.size ∧ H'.lock = H.lock := by
 rcases stepC_inv hlt h with ⟨rfl, -⟩ | ⟨-,Hr,f0,rfl, -, -, -, -,hle,rfl, -, -⟩
 ·exact ⟨Nat.le_refl _,rfl⟩
 ·refine ⟨?_,behind_lock⟩
  unfold behind
  split
  ·exact Nat.le_refl _
  ·rename_i hid
   rcases hle with h | h
   ·exact absurd h hid
   ·rw [merge_size _ h];exact h
theorem pull {fi : Foot} {i : Nat} {l2 : List (Nat × Foot)} {B : AAct} {HB : Heap} (hi : i < n) : ∀ {l1 : List (Nat × Foot)} {A : AAct} {H : Heap},base + n ≤ H.size →
  (∀ p ∈ l1,p.1 < n ∧ p.1 ≠ i ∧ (ws.getD i 0).testBit p.1 = false ∧ (ws.getD p.1 0).testBit i = false ∧ clash p.2 fi = false ∧ ∀ oj oi,ops[p.1]? = some oj → ops[i]? = some oi → oj.apart ops oi = true) →
  Runs C rec me ops ws base (base + n) (l1 ++ (i,fi) :: l2) A H B HB → Runs C rec me ops ws base (base + n) ((i,fi) :: (l1 ++ l2)) A H B HB
 | [],A,H,_,_,h => h
 | (j,fj) :: l1,A,H,hsz,hall,h => by
  obtain ⟨hj,hne,w1,w2,hcl,hap⟩ := hall (j,fj) (by simp)
  cases h with
  | cons hoj h1 hr =>
   rename_i oj vj H1
   have hs1 := (stepC_size (by omega) h1).1
   have h2 := pull hi (by omega) (fun p hp => hall p (by simp [hp])) hr
   cases h2 with
   | cons hoi h3 hr2 =>
    rename_i oi vi H2
    obtain ⟨a1,a2,a3⟩ := Oper.apart_spec (hap oj oi hoj hoi)
    rw [stepC_congr (alike_put a1)] at h3
    obtain ⟨H1',q1,q2⟩ := swapC hne hi hj hsz w1 w2 hcl h1 h3
    refine .cons hoi q1 (.cons hoj ?_ (hr2.aeq (put_comm A vj vi fun t ht => ?_)))
    ·rw [stepC_congr (alike_put a3)];exact q2
    ·exact fun he => a2 t ht he
end
end Go.Ev
namespace Go.Ev
variable {P : Program} {Z : Fzn} {ρ : Pls} {H : Heap} {w : World}
structure WaitsSpec (ops : Array Oper) (ws : List Nat) : Prop where
 lt : ∀ i,i < ops.size → ∀ b,(ws.getD i 0).testBit b = true → b < i
 edge : ∀ i o,ops[i]? = some o → ∀ e ∈ o.after.toList,Region.binds .any e = true → (ws.getD i 0).testBit e.on = true
 only : ∀ i o,ops[i]? = some o → ∀ b,(ws.getD i 0).testBit b = true → ∃ e ∈ o.after.toList,Region.binds .any e = true ∧ (b = e.on ∨ (ws.getD e.on 0).testBit b = true)
theorem stepC_slot {C : Cfg} {rec : Task → Option Out} {me : FuncId} {ops : Array Oper} {ws : List Nat} {base n i k : Nat} {o : Oper} {A : AAct} {H H' : Heap} {ft : Foot} {v : AV} (hsz : base + n ≤ H.size) (hi : i < n) (hk : k < n) (hne : k ≠ i) (hw : (ws.getD i 0).testBit k = false)
  (h : stepC C rec me ops ws base (base + n) i o A H = some (ft,v,H')) : H'.get (base + k) = H.get (base + k) := by
 rcases stepC_inv (by omega) h with ⟨rfl, -⟩ | ⟨-,Hr,f0,rfl, -, -, -, -,hle,rfl, -, -⟩
 ·rfl
 ·rw [behind_get hle (by omega),if_neg]
  rintro ⟨-,hv⟩
  rcases vis_reads hv with he | ⟨hw', -⟩
  ·omega
  ·rcases hw' with hw' | hw' | hw'
   ·omega
   ·omega
   ·rw [Nat.add_sub_cancel_left,hw] at hw';cases hw'
theorem any_sound {C : Cfg} {rec : Task → Option Out} (hrec : RecOK C.P rec) (hext : ExtOK C) {me : FuncId} {rb : Option Nat} {ops : Array Oper} {ws : List Nat} {base : Nat} {B : AAct} {HB : Heap} {Q : Exit → Act → World → Prop} (hws : WaitsSpec ops ws)
  (hap : ∀ i j oi oj,i < j → ops[i]? = some oi → ops[j]? = some oj → (ws.getD j 0).testBit i = true ∨ oi.apart ops oj = true) :
  ∀ (m : Nat) (l : List (Nat × Foot)),l.length = m → ∀ (listed : Array Bool) (A : AAct) (H : Heap) (a : Act) (w : World) (Z : Fzn) (ρ : Pls),
  Runs C rec me ops ws base (base + ops.size) l A H B HB → listed.size = ops.size → (∀ k,k < ops.size → (listed[k]? = some false ↔ k ∈ l.map (·.1))) → (∀ p ∈ l,p.1 < ops.size) →
  (l.map (·.1)).Pairwise (· < ·) → (l.Pairwise fun p q => (ws.getD q.1 0).testBit p.1 = true ∨ clash p.2 q.2 = false) →
  (∀ k,k < ops.size → listed[k]? = some true → ∀ b,(ws.getD k 0).testBit b = true → listed[b]? = some true) →
  (∀ p ∈ l,H.get (base + p.1) = none) → base + ops.size ≤ H.size → H.lock ≤ base → Sim Z ρ H w → SimA Z ρ A a → Goes Z ρ H w B HB (Q .normal) →
  wpAnyIn (FR rb) 0 C.P .any ops Q m listed a w := by
 intro m
 induction m with
 | zero =>
  intro l hlen listed A H a w Z ρ hr hls hmem hlt hsort hpair hdown hslots hsz hlk hs ha hn
  have : l = [] := List.length_eq_zero_iff.1 hlen
  subst this
  cases hr with
  | nil heq =>
   refine ⟨?_,hn a w Z ρ (heq.sim ha) hs (.refl _ _ _ _)⟩
   unfold Region.ready
   rw [List.filter_eq_nil_iff]
   intro k hk
   have hk := List.mem_range.1 hk
   have hnot : listed[k]? ≠ some false := fun h => by have := (hmem k hk).1 h;simp at this
   have : listed.getD k true = true := by
    rw [Array.getD_eq_getD_getElem?]
    cases hx : listed[k]? with
    | none => rfl
    | some b => cases b with
     | true => rfl
     | false => exact absurd hx hnot
   simp [this]
 | succ m ih =>
  intro l hlen listed A H a w Z ρ hr hls hmem hlt hsort hpair hdown hslots hsz hlk hs ha hn
  -- what is listed and what is not
  have hcase : ∀ k,k < ops.size → listed[k]? = some true ∨ k ∈ l.map (·.1) := fun k hk => by
   cases hx : listed[k]? with
   | none => have := Array.getElem?_eq_none_iff.1 hx;omega
   | some b => cases b with
    | true => exact .inl rfl
    | false => exact .inr ((hmem k hk).1 hx)
  have hready : ∀ i,i ∈ Region.ready .any ops listed ↔ i < ops.size ∧ listed[i]? = some false ∧ ∀ o,ops[i]? = some o → ∀ e ∈ o.after.toList,Region.binds .any e = true → listed[e.on]? = some true := by
   intro i
   unfold Region.ready
   rw [List.mem_filter,List.mem_range]
   constructor
   ·rintro ⟨h1,h2⟩
    simp only [Bool.and_eq_true,Bool.not_eq_true'] at h2
    obtain ⟨h2,h3⟩ := h2
    refine ⟨h1, ?_,fun o ho e he hb => ?_⟩
    ·rw [Array.getD_eq_getD_getElem?] at h2
     cases hx : listed[i]? with
     | none => rw [hx] at h2;simp at h2
     | some b => rw [hx] at h2;simp at h2;rw [h2]
    ·simp only [ho,Option.map_some,Option.getD_some,Array.all_eq_true_iff_forall_mem] at h3
     have := h3 e (by simpa using he)
     simp only [hb,Bool.not_true,Bool.false_or] at this
     rw [Array.getD_eq_getD_getElem?] at this
     cases hx : listed[e.on]? with
     | none => rw [hx] at this;simp at this
     | some b => rw [hx] at this;simp at this;rw [this]
   ·rintro ⟨h1,h2,h3⟩
    refine ⟨h1, ?_⟩
    simp only [Bool.and_eq_true,Bool.not_eq_true']
    refine ⟨by rw [Array.getD_eq_getD_getElem?,h2];rfl, ?_⟩
    have ho : ops[i]? = some ops[i] := Array.getElem?_eq_getElem h1
    simp only [ho,Option.map_some,Option.getD_some,Array.all_eq_true_iff_forall_mem]
    intro e he
    cases hb : Region.binds .any e with
    | false => rfl
    | true => simp only [Bool.not_true,Bool.false_or];rw [Array.getD_eq_getD_getElem?,h3 _ ho e (by simpa using he) hb];rfl
  refine ⟨fun hnil => ?_,fun i hi => ?_⟩
  ·-- the first that is left is ready
   exfalso
   cases l with
   | nil => simp at hlen
   | cons p l' =>
    have hp := hlt p (by simp)
    have : p.1 ∈ Region.ready .any ops listed := (hready p.1).2 ⟨hp,(hmem p.1 hp).2 (by simp),fun o ho e he hb => by
     have hbit := hws.edge p.1 o ho e he hb
     have hle := hws.lt p.1 hp _ hbit
     rcases hcase e.on (by omega) with h | h
     ·exact h
     ·exfalso
      simp only [List.map_cons,List.mem_cons] at h
      rcases h with h | h
      ·have h : e.on = p.1 := h
       omega
      ·have : p.1 < e.on := (List.pairwise_cons.1 hsort).1 _ h
       omega⟩
    rw [hnil] at this
    cases this
  ·obtain ⟨hin,hnl,hedges⟩ := (hready i).1 hi
   have hmemi := (hmem i hin).1 hnl
   obtain ⟨p,hp,hpi⟩ := List.mem_map.1 hmemi
   obtain ⟨l1,l2,rfl⟩ := List.append_of_mem hp
   obtain ⟨i',fi⟩ := p
   simp only at hpi;subst hpi
   -- all for which it waits are listed
   have hbits : ∀ b,(ws.getD i' 0).testBit b = true → listed[b]? = some true := fun b hb => by
    have ho : ops[i']? = some ops[i'] := Array.getElem?_eq_getElem hin
    obtain ⟨e,he,hbe,h⟩ := hws.only i' _ ho b hb
    have hl := hedges _ ho e he hbe
    rcases h with rfl | h
    ·exact hl
    ·have : e.on < ops.size := by have := (Array.getElem?_eq_some_iff.1 hl).1;omega
     exact hdown e.on this hl b h
   have hnotbit : ∀ k,k < ops.size → k ∈ (l1 ++ (i',fi) :: l2).map (·.1) → (ws.getD i' 0).testBit k = false := fun k hk hkm => by
    cases hx : (ws.getD i' 0).testBit k with
    | false => rfl
    | true =>
     have h1 := hbits k hx
     rw [(hmem k hk).2 hkm] at h1
     cases h1
   have hsort' := hsort
   rw [List.map_append,List.map_cons,List.pairwise_append] at hsort'
   obtain ⟨so1,so2,so3⟩ := hsort'
   have hpair' := hpair
   rw [List.pairwise_append] at hpair'
   have hruns := pull (n := ops.size) hin hsz (fun p hp => by
    have hpn := hlt p (List.mem_append_left _ hp)
    have hplt : p.1 < i' := so3 p.1 (List.mem_map_of_mem hp) i' (by simp)
    have hb := hnotbit p.1 hpn (by rw [List.map_append];exact List.mem_append_left _ (List.mem_map_of_mem hp))
    refine ⟨hpn,by omega,hb, ?_, ?_,fun oj oi hoj hoi => ?_⟩
    ·cases hx : (ws.getD p.1 0).testBit i' with
     | false => rfl
     | true => have := hws.lt p.1 hpn _ hx;omega
    ·rcases hpair'.2.2 p hp (i',fi) (by simp) with h | h
     ·rw [hb] at h;cases h
     ·exact h
    ·rcases hap p.1 i' oj oi hplt hoj hoi with h | h
     ·rw [hb] at h;cases h
     ·exact h) hr
   cases hruns with
   | cons ho h1 hr2 =>
   rename_i o v H1
   have hstep : stepD C rec me ops ws base (base + ops.size) i' o A H = some (fi,A.put o.dst v,H1) := by rw [stepD_eq,h1];rfl
   have hsl : (l1 ++ l2).Sublist (l1 ++ (i',fi) :: l2) := List.Sublist.append_left (List.sublist_cons_self _ _) _
   have hnin : ∀ p ∈ l1 ++ l2,p.1 ≠ i' := fun p hp => by
    rcases List.mem_append.1 hp with hp | hp
    ·have := so3 p.1 (List.mem_map_of_mem hp) i' (by simp);omega
    ·have := (List.pairwise_cons.1 so2).1 p.1 (List.mem_map_of_mem hp);omega
   have hgoes : Goes Z ρ H w (A.put o.dst v) H1 (wpAnyIn (FR rb) 0 C.P .any ops Q m (listed.setIfInBounds i' true)) := by
    intro a' w' Z' ρ' g1 g2 g3
    have hget : ∀ k,(listed.setIfInBounds i' true)[k]? = if k = i' then some true else listed[k]? := fun k => by
     rw [Array.getElem?_setIfInBounds]
     by_cases hk : i' = k
     ·subst hk;simp [hls,hin]
     ·rw [if_neg hk,if_neg (Ne.symm hk)]
    refine ih (l1 ++ l2) ?_ _ _ _ _ _ _ _ hr2 (by simpa using hls) (fun k hk => ?_) (fun p hp => hlt p (hsl.subset hp)) (List.Pairwise.sublist (hsl.map _) hsort) (List.Pairwise.sublist hsl hpair) (fun k hk hkl b hb => ?_) (fun p hp => ?_) ?_ ?_ g2 g1 (fun a2 w2 Z2 ρ2 k1 k2 k3 => hn a2 w2 Z2 ρ2 k1 k2 (g3.trans k3))
    ·simp only [List.length_append,List.length_cons] at hlen ⊢;omega
    ·rw [hget]
     by_cases e : k = i'
     ·subst e
      rw [if_pos rfl]
      constructor
      ·intro h;cases h
      ·intro h
       obtain ⟨p,hp,e⟩ := List.mem_map.1 h
       exact absurd e (hnin p hp)
     ·rw [if_neg e,hmem k hk]
      simp only [List.map_append,List.map_cons,List.mem_append,List.mem_cons]
      constructor
      ·rintro (h | h | h)
       ·exact .inl h
       ·exact absurd h e
       ·exact .inr h
      ·rintro (h | h)
       ·exact .inl h
       ·exact .inr (.inr h)
    ·rw [hget] at hkl ⊢
     split
     ·rfl
     ·split at hkl
      ·rename_i e;subst e;exact hbits b hb
      ·exact hdown k hk hkl b hb
    ·have hpn := hlt p (hsl.subset hp)
     rw [stepC_slot hsz hin hpn (hnin p hp) (hnotbit p.1 hpn (List.mem_map_of_mem (hsl.subset hp))) h1]
     exact hslots p (hsl.subset hp)
    ·exact Nat.le_trans hsz (stepC_size (by omega) h1).1
    ·rw [(stepC_size (by omega) h1).2];exact hlk
   have := stepD_sound (rb := rb) (Q := Q) hrec hext hs ha (by omega) (hslots (i',fi) (by simp)) (by omega) hstep hgoes
   unfold wpOpIn
   rw [ho]
   exact this
end Go.Ev
namespace Go.Ev
variable {P : Program} {Z : Fzn} {ρ : Pls} {H : Heap} {w : World}
theorem waits_bits (acc : List Nat) (b : Nat) : ∀ (l : List Edge) (s : Nat),(l.foldl (fun s e => if Region.binds .any e then s ||| 2 ^ e.on ||| acc.getD e.on 0 else s) s).testBit b = true ↔ s.testBit b = true ∨ ∃ e ∈ l,Region.binds .any e = true ∧ (b = e.on ∨ (acc.getD e.on 0).testBit b = true)
 | [],s => by simp
 | e :: l,s => by
  rw [List.foldl_cons,waits_bits acc b l]
  by_cases hb : Region.binds .any e = true
  ·rw [if_pos hb,Nat.testBit_or,Nat.testBit_or,Nat.testBit_two_pow]
   simp only [Bool.or_eq_true,decide_eq_true_eq,List.mem_cons,exists_eq_or_imp]
   constructor
   ·rintro (((h | h) | h) | h)
    ·exact .inl h
    ·exact .inr (.inl ⟨hb,.inl h.symm⟩)
    ·exact .inr (.inl ⟨hb,.inr h⟩)
    ·exact .inr (.inr h)
   ·rintro (h | ⟨-,h | h⟩ | h)
    ·exact .inl (.inl (.inl h))
    ·exact .inl (.inl (.inr h.symm))
    ·exact .inl (.inr h)
    ·exact .inr h
  ·rw [if_neg hb]
   simp only [List.mem_cons,exists_eq_or_imp]
   constructor
   ·rintro (h | h)
    ·exact .inl h
    ·exact .inr (.inr h)
   ·rintro (h | ⟨h, -⟩ | h)
    ·exact .inl h
    ·exact absurd h hb
    ·exact .inr h
theorem waitsAll_spec : ∀ (l : List Oper) (acc : List Nat),(l.foldl (fun acc o => acc ++ [waits acc o]) acc).take acc.length = acc ∧ ∀ i o,l[i]? = some o → (l.foldl (fun acc o => acc ++ [waits acc o]) acc)[acc.length + i]? = some (waits ((l.foldl (fun acc o => acc ++ [waits acc o]) acc).take (acc.length + i)) o)
 | [],acc => ⟨by simp,fun i o h => by simp at h⟩
 | x :: l,acc => by
  obtain ⟨h1,h2⟩ := waitsAll_spec l (acc ++ [waits acc x])
  rw [List.foldl_cons]
  generalize l.foldl (fun acc o => acc ++ [waits acc o]) (acc ++ [waits acc x]) = W at h1 h2 ⊢
  simp only [List.length_append,List.length_cons,List.length_nil,Nat.zero_add] at h1 h2
  have h3 : W.take acc.length = acc := by
   have := congrArg (List.take acc.length) h1
   rw [List.take_take,Nat.min_eq_left (by omega),List.take_left'] at this
   ·exact this
   ·rfl
  refine ⟨h3,fun i o h => ?_⟩
  cases i with
  | zero =>
   simp at h;subst h
   have := congrArg (fun q => q[acc.length]?) h1
   simp only [List.getElem?_take,if_pos (show acc.length < acc.length + 1 by omega)] at this
   rw [Nat.add_zero,this,h3]
   simp
  | succ i =>
   have := h2 i o (by simpa using h)
   rw [show acc.length + (i + 1) = acc.length + 1 + i by omega]
   exact this
theorem waits_spec {ops : Array Oper} (hok : waitsOk (waitsAll ops.toList) ops.toList.length = true) : WaitsSpec ops (waitsAll ops.toList) := by
 have key : ∀ i o,ops[i]? = some o → (waitsAll ops.toList).getD i 0 = waits ((waitsAll ops.toList).take i) o := fun i o ho => by
  have := (waitsAll_spec ops.toList []).2 i o (by simpa using ho)
  simp only [List.length_nil,Nat.zero_add] at this
  unfold waitsAll
  rw [List.getD_eq_getElem?_getD,this]
  rfl
 refine ⟨fun i hi b hb => ?_,fun i o ho e he hbe => ?_,fun i o ho b hb => ?_⟩
 ·unfold waitsOk at hok
  have := List.all_eq_true.1 hok i (List.mem_range.2 (by simpa using hi))
  simp only [Nat.blt_eq] at this
  apply Classical.byContradiction
  intro hge
  have h2 : (waitsAll ops.toList).getD i 0 < 2 ^ b := Nat.lt_of_lt_of_le this (Nat.pow_le_pow_right (by omega) (by omega))
  rw [Nat.testBit_lt_two_pow h2] at hb
  cases hb
 ·rw [key i o ho]
  exact (waits_bits _ _ _ _).2 (.inr ⟨e,he,hbe,.inl rfl⟩)
 ·rw [key i o ho] at hb
  rcases (waits_bits _ _ _ _).1 hb with h | ⟨e,he,hbe,h⟩
  ·simp at h
  ·refine ⟨e,he,hbe,h.imp id fun h => ?_⟩
   rw [List.getD_eq_getElem?_getD,List.getElem?_take] at h
   rw [List.getD_eq_getElem?_getD]
   split at h
   ·exact h
   ·simp at h
theorem freeOf_spec {feet : List Foot} {w : Nat} {me : Foot} : ∀ {n : Nat},freeOf feet w me n = true → ∀ k,k < n → w.testBit k = true ∨ ∃ f,feet[k]? = some f ∧ clash f me = false
 | 0,_,k,hk => by omega
 | n + 1,h,k,hk => by
  simp only [freeOf,Bool.and_eq_true,Bool.or_eq_true] at h
  by_cases e : k = n
  ·subst e
   rcases h.1 with h | h
   ·exact .inl h
   ·refine .inr ?_
    split at h
    ·rename_i f hf;exact ⟨f,hf,by simpa using h⟩
    ·cases h
  ·exact freeOf_spec h.2 k (by omega)
theorem draw_runs {C : Cfg} {rec : Task → Option Out} {me : FuncId} {ops : Array Oper} {ws : List Nat} {base top : Nat} : ∀ {r : List Oper} {i : Nat} {feet : List Foot} {A A' : AAct} {H H' : Heap},(∀ k,r[k]? = ops[i + k]?) → feet.length = i → drawA C rec me ops base top ws r i feet A H = some (A',H') →
  ∃ l : List (Nat × Foot),l.map (·.1) = List.range' i r.length ∧ Runs C rec me ops ws base top l A H A' H' ∧ (∀ p ∈ l,∀ k,k < i → (ws.getD p.1 0).testBit k = true ∨ ∃ f,feet[k]? = some f ∧ clash f p.2 = false) ∧ (l.Pairwise fun p q => (ws.getD q.1 0).testBit p.1 = true ∨ clash p.2 q.2 = false)
 | [],i,feet,A,A',H,H',hr,hf,h => by
  simp [drawA] at h;obtain ⟨rfl,rfl⟩ := h
  exact ⟨[],rfl,.nil (.refl _),fun p hp => by simp at hp,.nil⟩
 | o :: r,i,feet,A,A',H,H',hr,hf,h => by
  simp only [drawA] at h
  split at h
  ·rename_i ft A1 H1 h1
   split at h
   ·rename_i hfree
    rw [stepD_eq] at h1
    simp only [Option.map_eq_some_iff,Prod.mk.injEq] at h1
    obtain ⟨⟨ft',v,H1'⟩,h1,rfl,rfl,rfl⟩ := h1
    obtain ⟨l,k1,k2,k3,k4⟩ := draw_runs (fun k => by have := hr (k + 1);rw [List.getElem?_cons_succ] at this;rw [this,show i + (k + 1) = i + 1 + k by omega]) (by simp [hf]) h
    have hget : ∀ k f,k < i → (feet ++ [ft'])[k]? = some f → feet[k]? = some f := fun k f hk hkf => by
     rwa [List.getElem?_append_left (by omega)] at hkf
    refine ⟨(i,ft') :: l,by rw [List.map_cons,k1,List.length_cons,List.range'_succ],.cons (by have := hr 0;simpa using this.symm) h1 k2,fun p hp k hk => ?_,List.pairwise_cons.2 ⟨fun q hq => ?_,k4⟩⟩
    ·rcases List.mem_cons.1 hp with rfl | hp
     ·exact freeOf_spec hfree k hk
     ·rcases k3 p hp k (by omega) with h | ⟨f,h1,h2⟩
      ·exact .inl h
      ·exact .inr ⟨f,hget k f hk h1,h2⟩
    ·rcases k3 q hq i (by omega) with h | ⟨f,h1,h2⟩
     ·exact .inl h
     ·rw [List.getElem?_append_right (by omega),hf,Nat.sub_self] at h1
      simp at h1;subst h1
      exact .inr h2
   ·cases h
  ·cases h
theorem maskT_mem {d : Nat} : ∀ {l : List Nat},d ∈ l → (maskT l).testBit d = true
 | t :: r,h => by
  show (2 ^ t ||| maskT r).testBit d = true
  rw [Nat.testBit_or]
  rcases List.mem_cons.1 h with h | h
  ·subst h;rw [Nat.testBit_two_pow_self];rfl
  ·rw [maskT_mem h,Bool.or_true]
theorem land_no {a b d : Nat} (h : Nat.beq (Nat.land a b) 0 = true) (ha : a.testBit d = true) (hb : b.testBit d = true) : False := by
 have h0 : a &&& b = 0 := Nat.eq_of_beq_eq_true h
 have := Nat.testBit_and a b d
 rw [h0,ha,hb] at this
 simp at this
theorem okM_spec {look dst w : Nat} : ∀ {l : List (Nat × Nat)} {k : Nat},okM look dst w k l = true → ∀ i p,l[i]? = some p → w.testBit (k + i) = true ∨ (Nat.beq (Nat.land look p.2) 0 = true ∧ Nat.beq (Nat.land dst p.1) 0 = true ∧ Nat.beq (Nat.land dst p.2) 0 = true)
 | [],_,_,i,p,hp => by simp at hp
 | q :: r,k,h,0,p,hp => by
  simp only [List.getElem?_cons_zero,Option.some.injEq] at hp
  subst hp
  simp only [okM,Bool.and_eq_true,Bool.or_eq_true] at h
  rcases h.1 with h | h
  ·exact .inl h
  ·exact .inr ⟨h.1.1,h.1.2,h.2⟩
 | q :: r,k,h,i + 1,p,hp => by
  simp only [okM,Bool.and_eq_true] at h
  have := okM_spec h.2 i p (by simpa using hp)
  rwa [show k + 1 + i = k + (i + 1) by omega] at this
theorem apartM_spec {ws : List Nat} : ∀ {l : List (Nat × Nat)} {prev : List (Nat × Nat)} {j : Nat},prev.length = j → apartM ws j prev l = true → ∀ k p,l[k]? = some p → okM p.1 p.2 (ws.getD (j + k) 0) 0 ((prev ++ l).take (j + k)) = true
 | [],_,_,_,_,k,p,hp => by simp at hp
 | q :: r,prev,j,hj,h,0,p,hp => by
  simp only [List.getElem?_cons_zero,Option.some.injEq] at hp
  subst hp
  simp only [apartM,Bool.and_eq_true] at h
  rw [Nat.add_zero,← hj,List.take_left]
  rw [hj];exact h.1
 | q :: r,prev,j,hj,h,k + 1,p,hp => by
  simp only [apartM,Bool.and_eq_true] at h
  have := apartM_spec (prev := prev ++ [q]) (j := j + 1) (by simp [hj]) h.2 k p (by simpa using hp)
  rw [show j + 1 + k = j + (k + 1) by omega] at this
  simpa using this
theorem rowsM_get {arr : Array Oper} : ∀ {l : List Oper} {i : Nat} {o : Oper},l[i]? = some o → (rowsM arr l)[i]? = some (maskT (o.looksAt arr),maskD o.dst)
 | [],_,_,h => by simp at h
 | x :: r,0,o,h => by simp only [List.getElem?_cons_zero,Option.some.injEq] at h;subst h;rfl
 | x :: r,i + 1,o,h => by simp only [rowsM,List.getElem?_cons_succ];exact rowsM_get (by simpa using h)
theorem maskD_some {d : Nat} : (maskD (some d)).testBit d = true := Nat.testBit_two_pow_self
theorem apart_of {ops : Array Oper} {ws : List Nat} (h : apartM ws 0 [] (rowsM ops ops.toList) = true) {i j : Nat} {oi oj : Oper} (hij : i < j) (hi : ops[i]? = some oi) (hj : ops[j]? = some oj) :
  (ws.getD j 0).testBit i = true ∨ oi.apart ops oj = true := by
 have h1 := apartM_spec (prev := []) (j := 0) rfl h j _ (rowsM_get (arr := ops) (l := ops.toList) (i := j) (o := oj) (by simpa using hj))
 rw [Nat.zero_add,List.nil_append] at h1
 have h2 := okM_spec h1 i (maskT (oi.looksAt ops),maskD oi.dst) (by rw [List.getElem?_take,if_pos hij];exact rowsM_get (by simpa using hi))
 rw [Nat.zero_add] at h2
 refine h2.imp id fun ⟨g1,g2,g3⟩ => ?_
 simp only at g1 g2 g3
 unfold Oper.apart
 simp only [Bool.and_eq_true]
 refine ⟨?_, ?_⟩
 ·split
  ·rename_i d hd
   rw [hd] at g1 g3
   simp only [Bool.and_eq_true,Bool.not_eq_true',bne_iff_ne]
   refine ⟨?_,fun he => ?_⟩
   ·cases hc : (oj.looksAt ops).contains d with
    | false => rfl
    | true => exact (land_no g1 (maskT_mem (by simpa using hc)) maskD_some).elim
   ·rw [he] at g3
    exact land_no g3 maskD_some maskD_some
  ·rfl
 ·split
  ·rename_i d hd
   rw [hd] at g2
   cases hc : (oi.looksAt ops).contains d with
   | false => rfl
   | true => exact (land_no g2 maskD_some (maskT_mem (by simpa using hc))).elim
  ·rfl
theorem draw_ok {C : Cfg} (hm : C.P.follows .mixedOrders = true) (hext : ExtOK C) : DrawOK C := by
 intro rec hrec me id ops A H A' H' h Z ρ w a rb Q hs ha hn
 simp only [regionA,if_true] at h
 split at h
 ·rename_i hc
  simp only [Bool.and_eq_true] at hc
  obtain ⟨hap,hok⟩ := hc
  obtain ⟨l,k1,k2, -,k4⟩ := draw_runs (i := 0) (feet := []) (fun k => by simp) rfl h
  let Hx : Heap := { H with objs := H.objs ++ List.replicate ops.toList.length none }
  have hg : ∀ b,Hx.get b = H.get b := fun b => by
   simp only [Heap.get,Hx]
   by_cases hb : b < H.objs.length
   ·rw [List.getElem?_append_left hb]
   ·rw [List.getElem?_append_right (Nat.le_of_not_lt hb),List.getElem?_eq_none (Nat.le_of_not_lt hb),List.getElem?_replicate]
    split <;> rfl
  have hsx : Hx.size = H.size + ops.size := by simp [Hx,Heap.size]
  have hs' : Sim Z ρ Hx { w with drawn := w.drawn + 1 } := (same_sim hs hg rfl (by rw [hsx];exact Nat.le_add_right_of_le hs.lk)).of_heap rfl
  have hmem : ∀ k,k ∈ l.map (·.1) ↔ k < ops.size := fun k => by
   rw [k1,List.mem_range'_1];simp
  refine wpIn_region_any hm ?_
  refine any_sound (base := H.size) hrec hext (waits_spec hok) (fun i j oi oj hij hi hj => ?_) ops.size l (by rw [← List.length_map (f := (·.1)),k1];simp) _ A Hx a _ Z ρ (by rw [Array.length_toList] at k2;exact k2) (by simp) (fun k hk => ?_) (fun p hp => (hmem p.1).1 (List.mem_map_of_mem hp)) (by rw [k1];exact List.pairwise_lt_range') k4 (fun k hk hkl => ?_) (fun p hp => ?_) (by rw [hsx];exact Nat.le_refl _) hs.lk hs' ha ?_
  ·exact apart_of hap hij hi hj
  ·rw [hmem]
   simp [hk]
  ·simp [hk] at hkl
  ·rw [hg];exact get_none (by omega)
  ·intro a' w' Z' ρ' g1 g2 g3
   have e0 : Ext Z ρ H w Z ρ Hx { w with drawn := w.drawn + 1 } := same_ext (Ext.of_heap (w := w) (w' := { w with drawn := w.drawn + 1 }) rfl rfl rfl rfl (Nat.le_succ _)) hg rfl (by rw [hsx];exact Nat.le_add_right _ _)
   exact hn a' w' Z' ρ' g1 g2 (e0.trans g3)
 ·cases h
theorem ev_right {C : Cfg} (hgo : NoGo C.P) (hm : C.P.follows .mixedOrders = true) (hext : ExtOK C) {n : Nat} {f : FuncId} {args : List AV} {v : AV} {H H' : Heap} (h : evT C n (.call f args H) = some (.ret v H')) {vals : List Value} (hs : Sim Z ρ H w) (hl : RepL Z ρ args vals) :
  Calls C.P f vals.toArray w fun e w' => ∃ x,e = .returned x ∧ After Z ρ H w v H' x w' :=
 ev_calls hgo hext (draw_ok hm hext) h hs hl
end Go.Ev
namespace Go.Ev
def Le (r r' : Task → Option Out) : Prop := ∀ t o,r t = some o → r' t = some o
section
variable {C : Cfg} {r r' : Task → Option Out} (hle : Le r r')
include hle
theorem callB_le {me f : FuncId} {dst : Option Tmp} {args : List AV} {H : Heap} {x : AV × Heap} (h : callB C r me f dst args H = some x) : callB C r' me f dst args H = some x := by
 unfold callB at h ⊢
 split at h <;> (
  split at h
  ·rename_i hk
   simp only [hle _ _ hk]
   exact h
  ·cases h)
theorem callA_le {me f : FuncId} {dst : Option Tmp} {args : List AV} {H : Heap} {x : AV × Heap} (h : callA C r me f dst args H = some x) : callA C r' me f dst args H = some x := by
 unfold callA at h ⊢
 split at h
 ·exact h
 ·split at h
  ·exact h
  ·exact callB_le hle h
theorem opA_le {me : FuncId} {o : Oper} {a : AAct} {H : Heap} {slot : Nat} {x : Option AV × Heap} (h : opA C r me o a H slot = some x) : opA C r' me o a H slot = some x := by
 unfold opA at h ⊢
 cases ho : o.op <;> rw [ho] at h
 case call c =>
  simp only [] at h ⊢
  split at h
  ·rename_i hc ha;first | exact h | (simp only [hc,ha];exact h)
  ·rename_i hc ha;first | exact h | (simp only [hc,ha];exact h)
  ·rename_i hc ha;first | exact h | (simp only [hc,ha];exact h)
  ·rename_i hc ha;first | exact h | (simp only [hc,ha];exact h)
  ·rename_i hc ha;first | exact h | (simp only [hc,ha];exact h)
  ·rename_i hc ha;first | exact h | (simp only [hc,ha];exact h)
  ·rename_i hc ha;first | exact h | (simp only [hc,ha];exact h)
  ·rename_i hc ha;first | exact h | (simp only [hc,ha];exact h)
  ·rename_i hc ha;first | exact h | (simp only [hc,ha];exact h)
  ·rename_i hc ha;first | exact h | (simp only [hc,ha];exact h)
  ·rename_i hc ha
   (try simp only [hc,ha])
   split at h
   ·rename_i hg
    (try simp only [hg])
    simp only [Option.map_eq_some_iff] at h ⊢
    obtain ⟨y,h1,h2⟩ := h
    exact ⟨y,callA_le hle h1,h2⟩
   ·rename_i hg
    (try simp only [hg])
    split at h
    ·rename_i hk
     simp only [hle _ _ hk];exact h
    ·cases h
   ·cases h
  ·cases h
 case makeMap t q => cases q <;> exact h
 all_goals exact h
theorem stepA_le {me : FuncId} {ops : Array Oper} {o : Oper} {a : AAct} {H : Heap} {slot : Nat} {x : AAct × Heap} (h : stepA C r me ops o a H slot = some x) : stepA C r' me ops o a H slot = some x := by
 unfold stepA at h ⊢
 split at h
 ·split at h
  ·rename_i ho;simp only [opA_le hle ho];exact h
  ·rename_i ho;simp only [opA_le hle ho];exact h
  ·cases h
 ·exact h
 ·cases h
theorem stepZ_le {me : FuncId} {ops : Array Oper} {o : Oper} {a : AAct} {H : Heap} {x : AAct × Heap} (h : stepZ C r me ops o a H = some x) : stepZ C r' me ops o a H = some x := by
 unfold stepZ at h ⊢
 split at h
 ·rename_i hf
  rw [if_pos hf]
  split at h
  ·split at h
   ·rename_i ho;simp only [opA_le hle ho];exact h
   ·cases h
  ·exact h
  ·cases h
 ·rename_i hf
  rw [if_neg hf]
  exact stepA_le hle h
theorem seqA_le {me : FuncId} {ops : Array Oper} : ∀ {l : List Oper} {a : AAct} {H : Heap} {x : AAct × Heap},seqA C r me ops l a H = some x → seqA C r' me ops l a H = some x
 | [],_,_,_,h => h
 | o :: l,a,H,x,h => by
  simp only [seqA] at h ⊢
  split at h
  ·rename_i h1;simp only [stepZ_le hle h1];exact seqA_le h
  ·cases h
theorem stepD_le {me : FuncId} {ops : Array Oper} {ws : List Nat} {base top i : Nat} {o : Oper} {a : AAct} {H : Heap} {x : Foot × AAct × Heap} (h : stepD C r me ops ws base top i o a H = some x) : stepD C r' me ops ws base top i o a H = some x := by
 unfold stepD at h ⊢
 split at h
 ·split at h
  ·rename_i hp
   simp only [hp,if_true]
   split at h
   ·rename_i ho;simp only [opA_le hle ho];exact h
   ·cases h
  ·rename_i hp
   simp only [hp,if_false,Bool.false_eq_true]
   split at h
   ·rename_i ho;simp only [opA_le hle ho];exact h
   ·cases h
 ·exact h
 ·cases h
theorem drawA_le {me : FuncId} {ops : Array Oper} {base top : Nat} {ws : List Nat} : ∀ {l : List Oper} {i : Nat} {feet : List Foot} {a : AAct} {H : Heap} {x : AAct × Heap},drawA C r me ops base top ws l i feet a H = some x → drawA C r' me ops base top ws l i feet a H = some x
 | [],_,_,_,_,_,h => h
 | o :: l,i,feet,a,H,x,h => by
  simp only [drawA] at h ⊢
  split at h
  ·rename_i h1
   simp only [stepD_le hle h1]
   split at h
   ·rename_i hf;simp only [hf,if_true];exact drawA_le h
   ·cases h
  ·cases h
theorem regionA_le {me : FuncId} {ops : Array Oper} {draw : Bool} {a : AAct} {H : Heap} {x : AAct × Heap} (h : regionA C r me ops draw a H = some x) : regionA C r' me ops draw a H = some x := by
 unfold regionA at h ⊢
 split at h
 ·rename_i hd
  simp only [hd,if_true] at h ⊢
  split at h
  ·rename_i hc;simp only [hc,if_true];exact drawA_le hle h
  ·cases h
 ·rename_i hd
  simp only [hd,if_false,Bool.false_eq_true];exact seqA_le hle h
theorem codeA_le {me : FuncId} {rd : Option Nat} : ∀ (c : Code) {a : AAct} {H : Heap} {x : AExit × AAct × Heap},codeA C r me rd c a H = some x → codeA C r' me rd c a H = some x := by
 intro c
 induction c <;> intro a H x h
 case region id ops draw =>
  simp only [codeA,Option.map_eq_some_iff] at h ⊢
  obtain ⟨y,h1,h2⟩ := h
  exact ⟨y,regionA_le hle h1,h2⟩
 case seq p q ihp ihq =>
  simp only [codeA] at h ⊢
  split at h
  ·rename_i h1;simp only [ihp h1];exact ihq h
  ·rename_i hne
   rw [ihp h]
   split
   ·rename_i h1
    cases h1
    exact absurd h (hne _ _)
   ·rfl
 case cond c p q ihp ihq =>
  simp only [codeA] at h ⊢
  split at h
  ·rename_i hc; (try simp only [hc]);exact ihp h
  ·rename_i hc; (try simp only [hc]);exact ihq h
  ·cases h
 case block id p ih =>
  simp only [codeA] at h ⊢
  split at h
  ·rename_i h1;simp only [ih h1];exact h
  ·rename_i hne
   rw [ih h]
   split
   ·rename_i h1
    cases h1
    exact absurd h (hne _ _ _)
   ·rfl
 case loop p ih =>
  simp only [codeA] at h ⊢
  split at h
  ·rename_i h1;simp only [hle _ _ h1];exact h
  ·cases h
 case scope p ih => exact ih h
 case rangeFunc g ps p q ihp ihq =>
  simp only [codeA] at h ⊢
  split at h
  ·rename_i hg
   (try simp only [hg])
   split at h
   ·rename_i h1;simp only [callB_le hle h1];exact h
   ·cases h
  ·rename_i hg
   (try simp only [hg])
   split at h
   ·cases h
   ·rename_i hl
    (try simp only [hl])
    split at h
    ·rename_i h1;simp only [callB_le hle h1];exact h
    ·cases h
  ·cases h
 all_goals exact h
theorem taskA_le : Le (taskA C r) (taskA C r') := by
 intro t x h
 cases t with
 | call f args H =>
  simp only [taskA] at h ⊢
  split at h
  ·exact h
  split at h
  ·split at h
   ·split at h
    ·cases h
    ·rename_i h1;simp only [codeA_le hle _ h1];exact h
    ·cases h
   ·cases h
  ·cases h
 | loop me rd ks c a H =>
  simp only [taskA] at h ⊢
  split at h
  ·rename_i h1;simp only [codeA_le hle _ h1];exact hle _ _ h
  ·rename_i h1;simp only [codeA_le hle _ h1];exact h
  ·rename_i h1;simp only [codeA_le hle _ h1];exact h
  ·cases h
 | round b args H =>
  simp only [taskA] at h ⊢
  split at h
  ·split at h
   ·rename_i hc
    simp only [hc,and_self,if_true]
    split at h
    ·rename_i h1
     simp only [codeA_le hle _ h1]
     split at h
     ·split at h
      ·rename_i hr
       simp only [hr,if_true]
       split at h
       ·rename_i h2;simp only [codeA_le hle _ h2];exact h
       ·cases h
      ·cases h
     ·cases h
    ·cases h
   ·cases h
  ·cases h
end
theorem evT_succ (C : Cfg) : ∀ n,Le (evT C n) (evT C (n + 1))
 | 0 => fun t x h => by simp [evT] at h
 | n + 1 => taskA_le (evT_succ C n)
theorem evT_le (C : Cfg) {n m : Nat} (h : n ≤ m) : Le (evT C n) (evT C m) := by
 induction h with
 | refl => exact fun _ _ h => h
 | step _ ih => exact fun t x hx => evT_succ C _ t x (ih t x hx)
end Go.Ev
namespace Go.Ev
open Classical in
noncomputable def lim (C : Cfg) (t : Task) : Option Out := if h : ∃ o n,evT C n t = some o then some h.choose else none
theorem lim_iff {C : Cfg} {t : Task} {o : Out} : lim C t = some o ↔ ∃ n,evT C n t = some o := by
 unfold lim
 constructor
 ·intro h
  split at h
  ·rename_i hx
   simp at h
   have := hx.choose_spec
   rw [h] at this
   exact this
  ·cases h
 ·rintro ⟨n,hn⟩
  have hx : ∃ o n,evT C n t = some o := ⟨o,n,hn⟩
  rw [dif_pos hx]
  obtain ⟨m,hm⟩ := hx.choose_spec
  have h1 := evT_le C (Nat.le_max_left n m) t _ hn
  have h2 := evT_le C (Nat.le_max_right n m) t _ hm
  rw [h1] at h2
  exact h2.symm
section
variable {C : Cfg}
theorem callB_lim {me f : FuncId} {dst : Option Tmp} {args : List AV} {H : Heap} {x : AV × Heap} (h : callB C (lim C) me f dst args H = some x) : ∃ n,callB C (evT C n) me f dst args H = some x := by
 unfold callB at h ⊢
 split at h <;> (
  split at h
  ·rename_i hk
   obtain ⟨n,hn⟩ := lim_iff.1 hk
   exact ⟨n,by simp only [hn];exact h⟩
  ·cases h)
theorem callA_lim {me f : FuncId} {dst : Option Tmp} {args : List AV} {H : Heap} {x : AV × Heap} (h : callA C (lim C) me f dst args H = some x) : ∃ n,callA C (evT C n) me f dst args H = some x := by
 unfold callA at h ⊢
 split at h
 ·exact ⟨0,h⟩
 ·split at h
  ·exact ⟨0,h⟩
  ·exact callB_lim h
theorem opA_lim {me : FuncId} {o : Oper} {a : AAct} {H : Heap} {slot : Nat} {x : Option AV × Heap} (h : opA C (lim C) me o a H slot = some x) : ∃ n,opA C (evT C n) me o a H slot = some x := by
 unfold opA at h ⊢
 cases ho : o.op <;> rw [ho] at h
 case call c =>
  simp only [] at h ⊢
  split at h
  ·rename_i hc ha;exact ⟨0,by first | exact h | (simp only [hc,ha];exact h)⟩
  ·rename_i hc ha;exact ⟨0,by first | exact h | (simp only [hc,ha];exact h)⟩
  ·rename_i hc ha;exact ⟨0,by first | exact h | (simp only [hc,ha];exact h)⟩
  ·rename_i hc ha;exact ⟨0,by first | exact h | (simp only [hc,ha];exact h)⟩
  ·rename_i hc ha;exact ⟨0,by first | exact h | (simp only [hc,ha];exact h)⟩
  ·rename_i hc ha;exact ⟨0,by first | exact h | (simp only [hc,ha];exact h)⟩
  ·rename_i hc ha;exact ⟨0,by first | exact h | (simp only [hc,ha];exact h)⟩
  ·rename_i hc ha;exact ⟨0,by first | exact h | (simp only [hc,ha];exact h)⟩
  ·rename_i hc ha;exact ⟨0,by first | exact h | (simp only [hc,ha];exact h)⟩
  ·rename_i hc ha;exact ⟨0,by first | exact h | (simp only [hc,ha];exact h)⟩
  ·rename_i hc ha
   (try simp only [hc,ha])
   split at h
   ·rename_i hg
    (try simp only [hg])
    simp only [Option.map_eq_some_iff] at h ⊢
    obtain ⟨y,h1,h2⟩ := h
    obtain ⟨n,hn⟩ := callA_lim h1
    exact ⟨n,y,hn,h2⟩
   ·rename_i hg
    (try simp only [hg])
    split at h
    ·rename_i hk
     obtain ⟨n,hn⟩ := lim_iff.1 hk
     exact ⟨n,by simp only [hn];exact h⟩
    ·cases h
   ·cases h
  ·cases h
 case makeMap t q => cases q <;> exact ⟨0,h⟩
 all_goals exact ⟨0,h⟩
theorem stepA_lim {me : FuncId} {ops : Array Oper} {o : Oper} {a : AAct} {H : Heap} {slot : Nat} {x : AAct × Heap} (h : stepA C (lim C) me ops o a H slot = some x) : ∃ n,stepA C (evT C n) me ops o a H slot = some x := by
 unfold stepA at h ⊢
 split at h
 ·split at h
  ·rename_i ho;obtain ⟨n,hn⟩ := opA_lim ho;exact ⟨n,by simp only [hn];exact h⟩
  ·rename_i ho;obtain ⟨n,hn⟩ := opA_lim ho;exact ⟨n,by simp only [hn];exact h⟩
  ·cases h
 ·exact ⟨0,h⟩
 ·cases h
theorem stepZ_lim {me : FuncId} {ops : Array Oper} {o : Oper} {a : AAct} {H : Heap} {x : AAct × Heap} (h : stepZ C (lim C) me ops o a H = some x) : ∃ n,stepZ C (evT C n) me ops o a H = some x := by
 unfold stepZ at h ⊢
 split at h
 ·rename_i hf
  split at h
  ·split at h
   ·rename_i ho;obtain ⟨n,hn⟩ := opA_lim ho;exact ⟨n,by rw [if_pos hf];simp only [hn];exact h⟩
   ·cases h
  ·exact ⟨0,by rw [if_pos hf];exact h⟩
  ·cases h
 ·rename_i hf
  obtain ⟨n,hn⟩ := stepA_lim h
  exact ⟨n,by rw [if_neg hf];exact hn⟩
theorem seqA_lim {me : FuncId} {ops : Array Oper} : ∀ {l : List Oper} {a : AAct} {H : Heap} {x : AAct × Heap},seqA C (lim C) me ops l a H = some x → ∃ n,seqA C (evT C n) me ops l a H = some x
 | [],_,_,_,h => ⟨0,h⟩
 | o :: l,a,H,x,h => by
  simp only [seqA] at h ⊢
  split at h
  ·rename_i h1
   obtain ⟨n,hn⟩ := stepZ_lim h1
   obtain ⟨m,hm⟩ := seqA_lim h
   exact ⟨max n m,by simp only [stepZ_le (evT_le C (Nat.le_max_left n m)) hn];exact seqA_le (evT_le C (Nat.le_max_right n m)) hm⟩
  ·cases h
theorem stepD_lim {me : FuncId} {ops : Array Oper} {ws : List Nat} {base top i : Nat} {o : Oper} {a : AAct} {H : Heap} {x : Foot × AAct × Heap} (h : stepD C (lim C) me ops ws base top i o a H = some x) : ∃ n,stepD C (evT C n) me ops ws base top i o a H = some x := by
 unfold stepD at h ⊢
 split at h
 ·split at h
  ·rename_i hp
   simp only [hp,if_true]
   split at h
   ·rename_i ho;obtain ⟨n,hn⟩ := opA_lim ho;exact ⟨n,by simp only [hn];exact h⟩
   ·cases h
  ·rename_i hp
   simp only [hp,if_false,Bool.false_eq_true]
   split at h
   ·rename_i ho;obtain ⟨n,hn⟩ := opA_lim ho;exact ⟨n,by simp only [hn];exact h⟩
   ·cases h
 ·exact ⟨0,h⟩
 ·cases h
theorem drawA_lim {me : FuncId} {ops : Array Oper} {base top : Nat} {ws : List Nat} : ∀ {l : List Oper} {i : Nat} {feet : List Foot} {a : AAct} {H : Heap} {x : AAct × Heap},drawA C (lim C) me ops base top ws l i feet a H = some x → ∃ n,drawA C (evT C n) me ops base top ws l i feet a H = some x
 | [],_,_,_,_,_,h => ⟨0,h⟩
 | o :: l,i,feet,a,H,x,h => by
  simp only [drawA] at h ⊢
  split at h
  ·rename_i h1
   split at h
   ·rename_i hf
    obtain ⟨n,hn⟩ := stepD_lim h1
    obtain ⟨m,hm⟩ := drawA_lim h
    exact ⟨max n m,by simp only [stepD_le (evT_le C (Nat.le_max_left n m)) hn,hf,if_true];exact drawA_le (evT_le C (Nat.le_max_right n m)) hm⟩
   ·cases h
  ·cases h
theorem regionA_lim {me : FuncId} {ops : Array Oper} {draw : Bool} {a : AAct} {H : Heap} {x : AAct × Heap} (h : regionA C (lim C) me ops draw a H = some x) : ∃ n,regionA C (evT C n) me ops draw a H = some x := by
 unfold regionA at h ⊢
 split at h
 ·rename_i hd
  simp only [hd,if_true] at h ⊢
  split at h
  ·rename_i hc;simp only [hc,if_true];exact drawA_lim h
  ·cases h
 ·rename_i hd
  simp only [hd,if_false,Bool.false_eq_true];exact seqA_lim h
theorem codeA_lim {me : FuncId} {rd : Option Nat} : ∀ (c : Code) {a : AAct} {H : Heap} {x : AExit × AAct × Heap},codeA C (lim C) me rd c a H = some x → ∃ n,codeA C (evT C n) me rd c a H = some x := by
 intro c
 induction c <;> intro a H x h
 case region id ops draw =>
  simp only [codeA,Option.map_eq_some_iff] at h ⊢
  obtain ⟨y,h1,h2⟩ := h
  obtain ⟨n,hn⟩ := regionA_lim h1
  exact ⟨n,y,hn,h2⟩
 case seq p q ihp ihq =>
  simp only [codeA] at h ⊢
  split at h
  ·rename_i h1
   obtain ⟨n,hn⟩ := ihp h1
   obtain ⟨m,hm⟩ := ihq h
   exact ⟨max n m,by simp only [codeA_le (evT_le C (Nat.le_max_left n m)) _ hn];exact codeA_le (evT_le C (Nat.le_max_right n m)) _ hm⟩
  ·rename_i hne
   obtain ⟨n,hn⟩ := ihp h
   refine ⟨n, ?_⟩
   rw [hn]
   split
   ·rename_i h1
    cases h1
    exact absurd h (hne _ _)
   ·rfl
 case cond c p q ihp ihq =>
  simp only [codeA] at h ⊢
  split at h
  ·rename_i hc;obtain ⟨n,hn⟩ := ihp h;exact ⟨n,by (try simp only [hc]);exact hn⟩
  ·rename_i hc;obtain ⟨n,hn⟩ := ihq h;exact ⟨n,by (try simp only [hc]);exact hn⟩
  ·cases h
 case block id p ih =>
  simp only [codeA] at h ⊢
  split at h
  ·rename_i h1;obtain ⟨n,hn⟩ := ih h1;exact ⟨n,by simp only [hn];exact h⟩
  ·rename_i hne
   obtain ⟨n,hn⟩ := ih h
   refine ⟨n, ?_⟩
   rw [hn]
   split
   ·rename_i h1
    cases h1
    exact absurd h (hne _ _ _)
   ·rfl
 case loop p ih =>
  simp only [codeA] at h ⊢
  split at h
  ·rename_i h1;obtain ⟨n,hn⟩ := lim_iff.1 h1;exact ⟨n,by simp only [hn];exact h⟩
  ·cases h
 case scope p ih => exact ih h
 case rangeFunc g ps p q ihp ihq =>
  simp only [codeA] at h ⊢
  split at h
  ·rename_i hg
   split at h
   ·rename_i h1
    obtain ⟨n,hn⟩ := callB_lim h1
    exact ⟨n,by (try simp only [hg]);simp only [hn];exact h⟩
   ·cases h
  ·rename_i hg
   split at h
   ·cases h
   ·rename_i hl
    split at h
    ·rename_i h1
     obtain ⟨n,hn⟩ := callB_lim h1
     exact ⟨n,by (try simp only [hg]); (try simp only [hl]);simp only [hn];exact h⟩
    ·cases h
  ·cases h
 all_goals exact ⟨0,h⟩
theorem taskA_lim {t : Task} {x : Out} (h : taskA C (lim C) t = some x) : ∃ n,taskA C (evT C n) t = some x := by
 cases t with
 | call f args H =>
  simp only [taskA] at h ⊢
  split at h
  ·exact ⟨0,h⟩
  split at h
  ·rename_i hf
   split at h
   ·rename_i hb
    split at h
    ·cases h
    ·rename_i h1
     obtain ⟨n,hn⟩ := codeA_lim _ h1
     exact ⟨n,by (try simp only [hf,hb]);simp only [hn];exact h⟩
    ·cases h
   ·cases h
  ·cases h
 | loop me rd ks c a H =>
  simp only [taskA] at h ⊢
  split at h
  ·rename_i h1
   obtain ⟨n,hn⟩ := codeA_lim _ h1
   obtain ⟨m,hm⟩ := lim_iff.1 h
   exact ⟨max n m,by simp only [codeA_le (evT_le C (Nat.le_max_left n m)) _ hn];exact evT_le C (Nat.le_max_right n m) _ _ hm⟩
  ·rename_i h1;obtain ⟨n,hn⟩ := codeA_lim _ h1;exact ⟨n,by simp only [hn];exact h⟩
  ·rename_i h1;obtain ⟨n,hn⟩ := codeA_lim _ h1;exact ⟨n,by simp only [hn];exact h⟩
  ·cases h
 | round b args H =>
  simp only [taskA] at h ⊢
  split at h
  ·rename_i hl
   split at h
   ·rename_i hc
    split at h
    ·rename_i h1
     split at h
     ·rename_i hl2
      split at h
      ·rename_i hr
       split at h
       ·rename_i h2
        obtain ⟨n,hn⟩ := codeA_lim _ h1
        obtain ⟨m,hm⟩ := codeA_lim _ h2
        exact ⟨max n m,by
         simp only [hc,and_self,if_true,codeA_le (evT_le C (Nat.le_max_left n m)) _ hn,hl2,hr,codeA_le (evT_le C (Nat.le_max_right n m)) _ hm];exact h⟩
       ·cases h
      ·cases h
     ·cases h
    ·cases h
   ·cases h
  ·cases h
theorem lim_step {t : Task} {x : Out} : lim C t = some x ↔ taskA C (lim C) t = some x := by
 constructor
 ·intro h
  obtain ⟨n,hn⟩ := lim_iff.1 h
  cases n with
  | zero => simp [evT] at hn
  | succ n => exact taskA_le (fun t o ho => lim_iff.2 ⟨n,ho⟩) _ _ hn
 ·intro h
  obtain ⟨n,hn⟩ := taskA_lim h
  exact lim_iff.2 ⟨n + 1,hn⟩
end
theorem lim_right {C : Cfg} {Z : Fzn} {ρ : Pls} {w : World} (hgo : NoGo C.P) (hm : C.P.follows .mixedOrders = true) (hext : ExtOK C) {f : FuncId} {args : List AV} {v : AV} {H H' : Heap} (h : lim C (.call f args H) = some (.ret v H')) {vals : List Value} (hs : Sim Z ρ H w) (hl : RepL Z ρ args vals) :
  Calls C.P f vals.toArray w fun e w' => ∃ x,e = .returned x ∧ After Z ρ H w v H' x w' := by
 obtain ⟨n,hn⟩ := lim_iff.1 h
 exact ev_right hgo hm hext hn hs hl
end Go.Ev
namespace Go.Ev
def allZ (w : World) : Fzn := fun k => w.heap[k]?
theorem start_sim (w : World) (hg : laidOk (allZ w)) : Sim (allZ w) noPls { objs := [],lock := 0 } w :=
 ⟨fun b o h => by simp [Heap.get] at h,fun b b' o o' pl pl' h => by simp [Heap.get] at h,fun k o h => h,fun b v pl h => by simp [noPls] at h,Nat.le_refl _,hg⟩
theorem start_own (_w : World) (k : Nat) : ¬ Own noPls { objs := [],lock := 0 } k := by
 rintro ⟨b,o,pl, -,h, -⟩
 simp [Heap.get] at h
theorem top_calls {C : Cfg} {w : World} (hg : laidOk (allZ w)) (hgo : NoGo C.P) (hm : C.P.follows .mixedOrders = true) (hext : ExtOK C) {f : FuncId} {args : List AV} {v : Value} {H' : Heap} (h : lim C (.call f args { objs := [],lock := 0 }) = some (.ret (.v v) H')) {vals : List Value} (hl : RepL (allZ w) noPls args vals) :
  Calls C.P f vals.toArray w fun e w' => e = .returned v ∧ (∀ k,k < w.heap.size → w'.heap[k]? = w.heap[k]?) ∧ w.heap.size ≤ w'.heap.size ∧ w'.os = w.os ∧ w'.output = w.output ∧ w'.tape = w.tape ∧ ∀ a : Addr,a.block < w.heap.size → w'.frozen? a = w.frozen? a := by
 refine Calls.mono' (lim_right hgo hm hext h (start_sim w hg) hl) ?_
 rintro e w' ⟨x,rfl,Z',ρ',h1,h2,h3⟩
 exact ⟨by rw [h1.v_inv.1],fun k hk => h3.frame k hk (start_own w k),h3.size,h3.os,h3.output,h3.tape,fun a ha => h3.fz a ha (start_own w _)⟩
end Go.Ev
namespace Go.Ev
section
variable {C : Cfg} {me : FuncId} {rd : Option Nat}
def bindO {α : Type} (o : Option α) (f : α → Prop) : Prop := match o with | some x => f x | none => False
@[congr] theorem bindO_congr {α : Type} {o o' : Option α} {f : α → Prop} (h : o = o') : bindO o f = bindO o' f := by rw [h]
@[go_sem] theorem bindO_some {α : Type} (x : α) (f : α → Prop) : bindO (some x) f = f x := rfl
theorem bindO_iff {α : Type} {o : Option α} {f : α → Prop} : bindO o f ↔ ∃ x,o = some x ∧ f x := by cases o <;> simp [bindO]
def nf {α : Type} (x : α) : Option α := some x
@[go_sem] theorem nf_eq {α : Type} (x : α) : nf x = some x := rfl
def iteB (b : Bool) (A B : Prop) : Prop := match b with | true => A | false => B
@[congr] theorem iteB_congr {b b' : Bool} {A B : Prop} (h : b = b') : iteB b A B = iteB b' A B := by rw [h]
@[go_sem] theorem iteB_true (A B : Prop) : iteB true A B = A := rfl
@[go_sem] theorem iteB_false (A B : Prop) : iteB false A B = B := rfl
def iteP (c : Prop) [Decidable c] (A B : Prop) : Prop := if c then A else B
@[congr] theorem iteP_congr {c c' : Prop} [Decidable c] [Decidable c'] {A B : Prop} (h : c = c') : iteP c A B = iteP c' A B := by subst h;unfold iteP;congr
@[go_sem] theorem iteP_true (A B : Prop) : iteP True A B = A := by simp [iteP]
@[go_sem] theorem iteP_false (A B : Prop) : iteP False A B = B := by simp [iteP]
def boolP (v : AV) (f : Bool → Prop) : Prop := match v with | .v (.bool b) => f b | _ => False
@[congr] theorem boolP_congr {v v' : AV} {f : Bool → Prop} (h : v = v') : boolP v f = boolP v' f := by rw [h]
@[go_sem] theorem boolP_bool (b : Bool) (f : Bool → Prop) : boolP (.v (.bool b)) f = f b := rfl
abbrev Post := AExit → AAct → Heap → Prop
def Wp (C : Cfg) (me : FuncId) (rd : Option Nat) (c : Code) (a : AAct) (H : Heap) (K : Post) : Prop :=
 bindO (codeA C (lim C) me rd c a H) fun r => K r.1 r.2.1 r.2.2
@[congr] theorem Wp_congr {c : Code} {a a' : AAct} {H H' : Heap} {K : Post} (ha : a = a') (hH : H = H') : Wp C me rd c a H K = Wp C me rd c a' H' K := by rw [ha,hH]
def AtK (K : Post) (e : AExit) (a : AAct) (H : Heap) : Prop := K e a H
@[congr] theorem AtK_congr {K : Post} {e : AExit} {a a' : AAct} {H H' : Heap} (ha : a = a') (hH : H = H') : AtK K e a H = AtK K e a' H' := by rw [ha,hH]
def seqK (C : Cfg) (me : FuncId) (rd : Option Nat) (c : Code) (K : Post) : Post := fun e a H => match e with | .normal => Wp C me rd c a H K | e => AtK K e a H
@[go_sem ↓] theorem seqK_normal (c : Code) (K : Post) (a : AAct) (H : Heap) : AtK (seqK C me rd c K) .normal a H = Wp C me rd c a H K := rfl
@[go_sem ↓] theorem seqK_ret (c : Code) (K : Post) (a : AAct) (H : Heap) : AtK (seqK C me rd c K) .ret a H = AtK K .ret a H := rfl
@[go_sem ↓] theorem seqK_exit (c : Code) (K : Post) (i : Nat) (a : AAct) (H : Heap) : AtK (seqK C me rd c K) (.exit i) a H = AtK K (.exit i) a H := rfl
def blkK (id : Nat) (K : Post) : Post := fun e a H => match e with | .exit i => AtK K (if i = id then .normal else .exit i) a H | e => AtK K e a H
@[go_sem ↓] theorem blkK_normal (id : Nat) (K : Post) (a : AAct) (H : Heap) : AtK (blkK id K) .normal a H = AtK K .normal a H := rfl
@[go_sem ↓] theorem blkK_ret (id : Nat) (K : Post) (a : AAct) (H : Heap) : AtK (blkK id K) .ret a H = AtK K .ret a H := rfl
theorem blkK_exit (id i : Nat) (K : Post) (a : AAct) (H : Heap) : AtK (blkK id K) (.exit i) a H = AtK K (if i = id then .normal else .exit i) a H := rfl
@[go_sem ↓] theorem blkK_exit' (id i : Nat) (K : Post) (a : AAct) (H : Heap) : AtK (blkK id K) (.exit i) a H = iteP (i = id) (AtK K .normal a H) (AtK K (.exit i) a H) := by
 rw [blkK_exit];unfold iteP;split <;> rfl
theorem Wp_mono {c : Code} {a : AAct} {H : Heap} {K K' : Post} (h : Wp C me rd c a H K) (hk : ∀ e a H,K e a H → K' e a H) : Wp C me rd c a H K' := by
 unfold Wp at *;rw [bindO_iff] at *;obtain ⟨x,h1,h2⟩ := h;exact ⟨x,h1,hk _ _ _ h2⟩
@[go_sem ↓] theorem wp_skip (a : AAct) (H : Heap) (K : Post) : Wp C me rd .skip a H K = AtK K .normal a H := rfl
@[go_sem ↓] theorem wp_label (s) (a : AAct) (H : Heap) (K : Post) : Wp C me rd (.label s) a H K = AtK K .normal a H := rfl
@[go_sem ↓] theorem wp_ret (a : AAct) (H : Heap) (K : Post) : Wp C me rd .ret a H K = AtK K .ret a H := rfl
@[go_sem ↓] theorem wp_exit (i : Nat) (a : AAct) (H : Heap) (K : Post) : Wp C me rd (.exit i) a H K = AtK K (.exit i) a H := rfl
@[go_sem ↓] theorem wp_scope (c : Code) (a : AAct) (H : Heap) (K : Post) : Wp C me rd (.scope c) a H K = Wp C me rd c a H K := rfl
@[go_sem ↓] theorem wp_seq (x y : Code) (a : AAct) (H : Heap) (K : Post) : Wp C me rd (.seq x y) a H K = Wp C me rd x a H (seqK C me rd y K) := by
 unfold Wp;simp only [codeA]
 rcases codeA C (lim C) me rd x a H with _ | ⟨e,a',H'⟩
 ·rfl
 ·cases e <;> rfl
@[go_sem ↓] theorem wp_block (id : Nat) (c : Code) (a : AAct) (H : Heap) (K : Post) : Wp C me rd (.block id c) a H K = Wp C me rd c a H (blkK id K) := by
 unfold Wp;simp only [codeA]
 rcases codeA C (lim C) me rd c a H with _ | ⟨e,a',H'⟩
 ·rfl
 ·cases e <;> rfl
@[go_sem ↓] theorem wp_cond (c : Operand) (x y : Code) (a : AAct) (H : Heap) (K : Post) :
  Wp C me rd (.cond c x y) a H K = bindO (a.eval c) fun v => boolP v fun b => iteB b (Wp C me rd x a H K) (Wp C me rd y a H K) := by
 unfold Wp;simp only [codeA]
 rcases a.eval c with _ | v
 ·rfl
 ·rcases v with v | _ | _ | _ | _ | _ | _ | _ | _ | _ | _ <;> try rfl
  cases v <;> try rfl
  rename_i b;cases b <;> rfl
abbrev PostS := AAct → Heap → Prop
def WpS (C : Cfg) (me : FuncId) (arr : Array Oper) (ops : List Oper) (a : AAct) (H : Heap) (K : PostS) : Prop :=
 bindO (seqA C (lim C) me arr ops a H) fun r => K r.1 r.2
@[congr] theorem WpS_congr {arr : Array Oper} {ops : List Oper} {a a' : AAct} {H H' : Heap} {K : PostS} (ha : a = a') (hH : H = H') : WpS C me arr ops a H K = WpS C me arr ops a' H' K := by rw [ha,hH]
def settleH (n : Nat) (H : Heap) : Heap := if (H.objs.drop n).all Option.isNone then { H with objs := H.objs.take n } else H
def keepT (ks : List Nat) (l : List (Tmp × AV)) : List (Tmp × AV) := l.filter fun x => memNat x.1 ks
def setK (C : Cfg) (me : FuncId) (n : Nat) (K : Post) : PostS := fun a H => AtK K .normal { a with tmps := keepT (C.keep me) a.tmps } (settleH n H)
def AtS (K : PostS) (a : AAct) (H : Heap) : Prop := K a H
@[congr] theorem AtS_congr {K : PostS} {a a' : AAct} {H H' : Heap} (ha : a = a') (hH : H = H') : AtS K a H = AtS K a' H' := by rw [ha,hH]
@[go_sem ↓] theorem setK_at (n : Nat) (K : Post) (s : Nat) (l : List (Tmp × AV)) (m : List Nat) (H : Heap) : AtS (setK C me n K) ⟨s,l,m⟩ H = bindO (nf (keepT (C.keep me) l)) fun l' => bindO (nf (settleH n H)) fun H' => AtK K .normal ⟨s,l',m⟩ H' := rfl
@[go_sem ↓] theorem wp_region (id : Nat) (ops : Array Oper) (a : AAct) (H : Heap) (K : Post) : Wp C me rd (.region id ops false) a H K = WpS C me ops ops.toList a H (setK C me H.size K) := by
 unfold Wp WpS;simp only [codeA,regionA]
 rcases h : seqA C (lim C) me ops ops.toList a H with _ | ⟨a',H'⟩ <;> simp [bindO,settle,setK,AtK,keepT,settleH]
@[go_sem ↓] theorem wpS_nil (arr : Array Oper) (a : AAct) (H : Heap) (K : PostS) : WpS C me arr [] a H K = AtS K a H := rfl
abbrev PostO := AV → Heap → Prop
def WpO (C : Cfg) (me : FuncId) (d : Option Tmp) (op : Op) (a : AAct) (H : Heap) (slot : Nat) (K : PostO) : Prop :=
 bindO (opA C (lim C) me { dst := d,op := op,type := 0,pos := "",after := #[],guard := none } a H slot) fun r => K (r.1.getD undefA) r.2
@[congr] theorem WpO_congr {d : Option Tmp} {op : Op} {a a' : AAct} {H H' : Heap} {s s' : Nat} {K : PostO} (ha : a = a') (hH : H = H') (hs : s = s') : WpO C me d op a H s K = WpO C me d op a' H' s' K := by rw [ha,hH,hs]
def contS (C : Cfg) (me : FuncId) (arr : Array Oper) (r : List Oper) (d : Option Tmp) (a : AAct) (K : PostS) : PostO := fun v H => WpS C me arr r (a.put d v) H K
def AtO (K : PostO) (v : AV) (H : Heap) : Prop := K v H
@[congr] theorem AtO_congr {K : PostO} {v v' : AV} {H H' : Heap} (hv : v = v') (hH : H = H') : AtO K v H = AtO K v' H' := by rw [hv,hH]
theorem contS_at (arr : Array Oper) (r : List Oper) (d : Option Tmp) (a : AAct) (K : PostS) (v : AV) (H : Heap) : AtO (contS C me arr r d a K) v H = WpS C me arr r (a.put d v) H K := rfl
def putT (s d : Tmp) (v : AV) (l : List (Tmp × AV)) : List (Tmp × AV) := if d < s then setAssoc d v l else l
@[go_sem ↓] theorem contS_some (arr : Array Oper) (r : List Oper) (d : Tmp) (s : Nat) (l : List (Tmp × AV)) (m : List Nat) (K : PostS) (v : AV) (H : Heap) : AtO (contS C me arr r (some d) ⟨s,l,m⟩ K) v H = WpS C me arr r ⟨s,putT s d v l,m⟩ H K := by
 rw [contS_at];simp only [AAct.put,putT];split <;> rfl
@[go_sem ↓] theorem contS_none (arr : Array Oper) (r : List Oper) (a : AAct) (K : PostS) (v : AV) (H : Heap) : AtO (contS C me arr r none a K) v H = WpS C me arr r a H K := rfl
theorem opA_same (rec : Task → Option Out) (o : Oper) (a : AAct) (H : Heap) (slot : Nat) : opA C rec me o a H slot = opA C rec me { dst := o.dst,op := o.op,type := 0,pos := "",after := #[],guard := none } a H slot := rfl
theorem wpS_cons (arr : Array Oper) (o : Oper) (r : List Oper) (a : AAct) (H : Heap) (K : PostS) (hfz : C.frz me o.dst = false) :
  WpS C me arr (o :: r) a H K = bindO (wantedA arr a o) fun w => iteB w (WpO C me o.dst o.op a H H.size (contS C me arr r o.dst a K)) (WpS C me arr r (a.put o.dst undefA) H K) := by
 unfold WpS WpO
 simp only [seqA,stepZ,hfz,Bool.false_eq_true,if_false,stepA]
 rcases wantedA arr a o with _ | w
 ·rfl
 ·cases w
  ·rfl
  ·simp only [bindO_some,iteB_true]
   rw [opA_same]
   rcases opA C (lim C) me { dst := o.dst,op := o.op,type := 0,pos := "",after := #[],guard := none } a H H.size with _ | ⟨v,H'⟩
   ·rfl
   ·cases v <;> rfl
@[go_sem ↓] theorem wpS_op (arr : Array Oper) (d : Option Tmp) (op : Op) (ty : TypeId) (p : String) (af : Array Edge) (r : List Oper) (a : AAct) (H : Heap) (K : PostS) (hfz : C.frz me d = false) :
  WpS C me arr (⟨d,op,ty,p,af,none⟩ :: r) a H K = WpO C me d op a H H.size (contS C me arr r d a K) := by
 rw [wpS_cons _ _ _ _ _ _ hfz];rfl
def frzO (H : Heap) (K : PostO) : PostO := fun v X => bindO (freezeV { X with lock := H.size } 1000000 v) fun v => AtO K v H
theorem yields_app {rec : Task → Option Out} {d : Option Tmp} {args : Array Operand} {ts : Array TypeId} {a : AAct} {H : Heap} {s : Nat} {r : Option AV × Heap} (h : opA C rec me { dst := d,op := .call ⟨.builtin .append,args,ts⟩,type := 0,pos := "",after := #[],guard := none } a H s = some r) : ∃ v,r.1 = some v := by
 simp only [opA] at h
 cases he : evals a args.toList with
 | none => rw [he] at h;exact nomatch h
 | some l =>
  rw [he] at h
  simp only [Option.map_eq_some_iff] at h
  obtain ⟨x, -,rfl⟩ := h
  exact ⟨_,rfl⟩
@[go_sem ↓] theorem wpS_frzApp (arr : Array Oper) (d : Option Tmp) (args : Array Operand) (ts : Array TypeId) (ty : TypeId) (p : String) (af : Array Edge) (r : List Oper) (a : AAct) (H : Heap) (K : PostS) (hfz : C.frz me d = true) :
  WpS C me arr (⟨d,.call ⟨.builtin .append,args,ts⟩,ty,p,af,none⟩ :: r) a H K = WpO C me d (.call ⟨.builtin .append,args,ts⟩) a { H with lock := H.size } H.size (frzO H (contS C me arr r d a K)) := by
 unfold WpS WpO
 simp only [seqA,stepZ,hfz,if_true,wantedA]
 have hsame : opA C (lim C) me ⟨d,.call ⟨.builtin .append,args,ts⟩,ty,p,af,none⟩ a { H with lock := H.size } H.size = opA C (lim C) me { dst := d,op := .call ⟨.builtin .append,args,ts⟩,type := 0,pos := "",after := #[],guard := none } a { H with lock := H.size } H.size := rfl
 rw [hsame]
 rcases h : opA C (lim C) me { dst := d,op := .call ⟨.builtin .append,args,ts⟩,type := 0,pos := "",after := #[],guard := none } a { H with lock := H.size } H.size with _ | ⟨v,X⟩
 ·rfl
 ·obtain ⟨v,rfl⟩ : ∃ w,v = some w := yields_app h
  simp only [bindO_some,Option.getD_some]
  unfold frzO
  rcases h2 : freezeV { X with lock := H.size } 1000000 v with _ | v'
  ·simp only [h2,Option.map_none];rfl
  ·simp only [h2,Option.map_some];rfl
def yieldAt (d : Option Tmp) (a : AAct) : Option (Option Bool) :=
 match d with
 | some d => match assoc d a.tmps with | some (.v (.bool b)) => some (some b) | some (.tup []) => some none | _ => none
 | none => some none
theorem wpS_guard0 (arr : Array Oper) (d : Option Tmp) (op : Op) (ty : TypeId) (p : String) (af : Array Edge) (j : Nat) (w : Bool) (r : List Oper) (a : AAct) (H : Heap) (K : PostS) (hfz : C.frz me d = false) :
  WpS C me arr (⟨d,op,ty,p,af,some (j,w)⟩ :: r) a H K = bindO (yieldAt ((arr.toList[j]?).bind (·.dst)) a) fun y => iteB (y == some w) (WpO C me d op a H H.size (contS C me arr r d a K)) (WpS C me arr r (a.put d undefA) H K) := by
 rw [wpS_cons _ _ _ _ _ _ hfz]
 simp only [wantedA,yieldedA,yieldAt,Array.getElem?_toList]
 cases (arr[j]?).bind (·.dst) with
 | none => rfl
 | some d =>
  simp only
  rcases assoc d a.tmps with _ | v
  ·rfl
  ·rcases v with v | _ | l | _ | _ | _ | _ | _ | _ | _ | _ <;> try rfl
   ·cases v <;> rfl
   ·cases l <;> rfl
def yieldV (o : Option AV) : Option (Option Bool) := match o with | some (.v (.bool b)) => some (some b) | some (.tup []) => some none | _ => none
@[go_sem] theorem yieldV_bool (b : Bool) : yieldV (some (.v (.bool b))) = some (some b) := rfl
@[go_sem] theorem yieldAt_some (d s : Tmp) (l : List (Tmp × AV)) (m : List Nat) : yieldAt (some d) ⟨s,l,m⟩ = yieldV (assoc d l) := rfl
@[go_sem ↓] theorem wpS_guard (arr : Array Oper) (d : Tmp) (op : Op) (ty : TypeId) (p : String) (af : Array Edge) (j : Nat) (w : Bool) (r : List Oper) (s : Nat) (l : List (Tmp × AV)) (m : List Nat) (H : Heap) (K : PostS) (hfz : C.frz me (some d) = false) :
  WpS C me arr (⟨some d,op,ty,p,af,some (j,w)⟩ :: r) ⟨s,l,m⟩ H K = bindO (yieldAt ((arr.toList[j]?).bind (·.dst)) ⟨s,l,m⟩) fun y => iteB (y == some w) (WpO C me (some d) op ⟨s,l,m⟩ H H.size (contS C me arr r (some d) ⟨s,l,m⟩ K)) (WpS C me arr r ⟨s,putT s d undefA l,m⟩ H K) := by
 rw [wpS_guard0 _ _ _ _ _ _ _ _ _ _ _ _ hfz]
 have : (AAct.mk s l m).put (some d) undefA = ⟨s,putT s d undefA l,m⟩ := by simp only [AAct.put,putT];split <;> rfl
 rw [this]
end
end Go.Ev
namespace Go.Ev
section
variable {C : Cfg} {me : FuncId} {d : Option Tmp} {a : AAct} {H : Heap} {s : Nat} {K : PostO}
@[go_sem ↓] theorem wpO_move (x : Operand) : WpO C me d (.move x) a H s K = bindO (a.eval x) fun v => AtO K v H := by
 unfold WpO;simp only [opA];cases a.eval x <;> rfl
@[go_sem ↓] theorem wpO_assign (x : Operand) : WpO C me d (.assign x) a H s K = bindO (a.eval x) fun v => AtO K v H := by
 unfold WpO;simp only [opA];cases a.eval x <;> rfl
@[go_sem ↓] theorem wpO_pick (c x y : Operand) : WpO C me d (.pick c x y) a H s K = bindO (a.eval c) fun v => boolP v fun b => iteB b (bindO (a.eval x) fun v => AtO K v H) (bindO (a.eval y) fun v => AtO K v H) := by
 unfold WpO;simp only [opA]
 rcases a.eval c with _ | v
 ·rfl
 ·rcases v with v | _ | _ | _ | _ | _ | _ | _ | _ | _ | _ <;> try rfl
  cases v <;> try rfl
  rename_i b;cases b
  ·simp only [bindO_some,boolP_bool,iteB_false,Bool.false_eq_true,if_false];cases a.eval y <;> rfl
  ·simp only [bindO_some,boolP_bool,iteB_true,if_true];cases a.eval x <;> rfl
@[go_sem ↓] theorem wpO_alloc (e : TypeId) : WpO C me d (.alloc e) a H s K = bindO (zeroT C.P e) fun z => iteB (z.cells.all AV.flat) (bindO (nf s) fun s' => bindO (nf (H.put s (.cells 0 0 e 1 false z.cells))) fun H' => AtO K (.ptr s' 0 0) H') False := by
 unfold WpO;simp only [opA]
 rcases zeroT C.P e with _ | z
 ·rfl
 ·simp only [bindO_some];cases z.cells.all AV.flat <;> rfl
@[go_sem ↓] theorem wpO_box (e : TypeId) (x : Operand) : WpO C me d (.box e x) a H s K = bindO (a.eval x) fun v => iteB (v.cells.all AV.flat) (bindO (nf s) fun s' => bindO (nf (H.put s (.cells 0 (bound v) e 1 false v.cells))) fun H' => AtO K (.ptr s' 0 0) H') False := by
 unfold WpO;simp only [opA]
 rcases a.eval x with _ | z
 ·rfl
 ·simp only [bindO_some];cases z.cells.all AV.flat <;> rfl
@[go_sem ↓] theorem wpO_build (t : TypeId) (ps : Array (Nat × Operand)) : WpO C me d (.build t ps) a H s K = bindO (evalParts a ps.toList) fun l => bindO (buildA C.P t l) fun v => AtO K v H := by
 unfold WpO;simp only [opA]
 cases evalParts a ps.toList with
 | none => rfl
 | some l => simp only [bindO_some];cases buildA C.P t l <;> rfl
@[go_sem ↓] theorem wpO_buildSlice (t : TypeId) (n : Nat) (ps : Array (Nat × Operand)) : WpO C me d (.buildSlice t n ps) a H s K = bindO (evalParts a ps.toList) fun l => bindO (buildSliceA C.P (C.alter me d) H s t n l) fun v => AtO K v.1 v.2 := by
 unfold WpO;simp only [opA]
 cases evalParts a ps.toList with
 | none => rfl
 | some l => simp only [bindO_some];cases buildSliceA C.P (C.alter me d) H s t n l <;> rfl
@[go_sem ↓] theorem wpO_load (t : TypeId) (x : Operand) : WpO C me d (.load t x) a H s K = bindO (a.eval x) fun p => bindO (loadA C.P H t p) fun v => AtO K v H := by
 unfold WpO;simp only [opA]
 cases a.eval x with
 | none => rfl
 | some p => simp only [bindO_some];cases loadA C.P H t p <;> rfl
@[go_sem ↓] theorem wpO_store (t : TypeId) (x y : Operand) : WpO C me d (.store t x y) a H s K = bindO (a.eval x) fun p => bindO (a.eval y) fun v => bindO (storeA C.P H t p v) fun H' => AtO K undefA H' := by
 unfold WpO;simp only [opA]
 rcases a.eval x with _ | p <;> rcases a.eval y with _ | v <;> try rfl
 simp only [bindO_some];cases storeA C.P H t p v <;> rfl
def nilCk (v : AV) : Option AV := match v with
 | .ptr b w k => some (.ptr b w k)
 | .ro y k => some (.ro y k)
 | .fn (.func f) x y => some (.fn (.func f) x y)
 | .yld b => some (.yld b)
 | .ifc t y => some (.ifc t y)
 | _ => none
@[go_sem ↓] theorem wpO_bin (op : BinOp) (t t' : TypeId) (x y : Operand) : WpO C me d (.binOp op t x y t') a H s K = bindO (a.eval x) fun u => bindO (a.eval y) fun w => bindO (binA C.P op t x y u w) fun v => AtO K v H := by
 unfold WpO;simp only [opA]
 rcases a.eval x with _ | u <;> rcases a.eval y with _ | w <;> try rfl
 simp only [bindO_some];cases binA C.P op t x y u w <;> rfl
def unA (P : Program) (op : UnOp) (v : AV) : Option AV := match v with | .v u => atomA (runPure P (Op.unary op u)) | _ => none
@[go_sem ↓] theorem wpO_un (op : UnOp) (t : TypeId) (x : Operand) : WpO C me d (.unOp op t x) a H s K = bindO (a.eval x) fun v => bindO (unA C.P op v) fun v => AtO K v H := by
 unfold WpO;simp only [opA]
 rcases a.eval x with _ | v
 ·rfl
 ·rcases v with v | _ | _ | _ | _ | _ | _ | _ | f | _ | _ <;> try rfl
  simp only [bindO_some,unA];cases atomA (runPure C.P (Op.unary op v)) <;> rfl
@[go_sem] theorem unA_not (P : Program) (b : Bool) : unA P .not (.v (.bool b)) = some (.v (.bool !b)) := rfl
def convA (P : Program) (src dst : TypeId) (v : AV) : Option AV := match v with
 | .v (.int k n) => atomA (runPure P (convert src dst (.int k n)))
 | .v (.string s) => (match P.underlying src,P.underlying dst with | some _,some .string => some (.v (.string s)) | _,_ => none)
 | .vs _ xs _ => (match P.underlying src,P.underlying dst with | some (.slice e),some .string => (match P.underlying e,bytesV xs with | some (.int .u8),some (b :: l) => some (.v (.string ⟨(b :: l).toArray⟩)) | _,_ => none) | _,_ => none)
 | _ => none
@[go_sem ↓] theorem wpO_conv (src dst : TypeId) (x : Operand) : WpO C me d (.convert src dst x) a H s K = bindO (a.eval x) fun v => bindO (convA C.P src dst v) fun v => AtO K v H := by
 unfold WpO;simp only [opA]
 rcases a.eval x with _ | v
 ·rfl
 ·rcases v with v | _ | _ | _ | _ | _ | _ | _ | f | _ | _ <;> try rfl
  cases v <;> try rfl
  ·rename_i k n;simp only [bindO_some,convA];cases atomA (runPure C.P (convert src dst (.int k n))) <;> rfl
  ·simp only [bindO_some,convA]
   split <;> simp [*,bindO,AtO]
  ·simp only [bindO_some,convA]
   split
   ·split <;> simp [*,bindO,AtO]
   ·simp [*,bindO]
def lookO (a : AAct) (b : Option Operand) : Option (Option AV) := match b with | none => some none | some y => (a.eval y).map some
@[go_sem] theorem lookO_none (a : AAct) : lookO a none = some none := rfl
@[go_sem] theorem lookO_some (a : AAct) (y : Operand) : lookO a (some y) = (a.eval y).map some := rfl
@[go_sem ↓] theorem wpO_slice (t : TypeId) (x : Operand) (l h m : Option Operand) : WpO C me d (.slice t x l h m) a H s K = bindO (a.eval x) fun v => bindO (lookO a l) fun l => bindO (lookO a h) fun h => bindO (lookO a m) fun m => bindO (sliceA C.P H t v l h m) fun v => AtO K v H := by
 unfold WpO;simp only [opA]
 show bindO (match a.eval x,lookO a l,lookO a h,lookO a m with | some v,some l,some h,some m => (sliceA C.P H t v l h m).map fun v => (some v,H) | _,_,_,_ => none) _ = _
 rcases a.eval x with _ | v <;> rcases lookO a l with _ | l <;> rcases lookO a h with _ | h <;> rcases lookO a m with _ | m <;> try rfl
 simp only [bindO_some];cases sliceA C.P H t v l h m <;> rfl
@[go_sem ↓] theorem wpO_fieldAddr (t : TypeId) (x : Operand) (i : Nat) : WpO C me d (.fieldAddr t x i) a H s K = bindO (a.eval x) fun v => bindO (fieldAddrA C.P t v i) fun v => AtO K v H := by
 unfold WpO;simp only [opA]
 rcases a.eval x with _ | v
 ·rfl
 ·simp only [bindO_some];cases fieldAddrA C.P t v i <;> rfl
@[go_sem ↓] theorem wpO_indexAddr (t : TypeId) (x i : Operand) : WpO C me d (.indexAddr t x i) a H s K = bindO (a.eval x) fun v => bindO (a.eval i) fun i => bindO (indexAddrA C.P t v i) fun v => AtO K v H := by
 unfold WpO;simp only [opA]
 rcases a.eval x with _ | u <;> rcases a.eval i with _ | w <;> try rfl
 simp only [bindO_some];cases indexAddrA C.P t u w <;> rfl
@[go_sem ↓] theorem wpO_index (t : TypeId) (x i : Operand) : WpO C me d (.index t x i) a H s K = bindO (a.eval x) fun v => bindO (a.eval i) fun i => bindO (indexA C.P t v i) fun v => AtO K v H := by
 unfold WpO;simp only [opA]
 rcases a.eval x with _ | u <;> rcases a.eval i with _ | w <;> try rfl
 simp only [bindO_some];cases indexA C.P t u w <;> rfl
def extA (v : AV) (i : Nat) : Option AV := match v with | .tup cs => cs[i]? | _ => none
@[go_sem] theorem extA_tup (cs : List AV) (i : Nat) : extA (.tup cs) i = cs[i]? := rfl
@[go_sem ↓] theorem wpO_extract (x : Operand) (i : Nat) : WpO C me d (.extract x i) a H s K = bindO (a.eval x) fun v => bindO (extA v i) fun v => AtO K v H := by
 unfold WpO;simp only [opA]
 rcases a.eval x with _ | v
 ·rfl
 ·rcases v with v | _ | l | _ | _ | _ | _ | _ | f | _ | _ <;> try rfl
  simp only [bindO_some,extA];cases l[i]? <;> rfl
@[go_sem ↓] theorem wpO_append (args : Array Operand) (ts : Array TypeId) : WpO C me d (.call ⟨.builtin .append,args,ts⟩) a H s K = bindO (evals a args.toList) fun l => bindO (appendA C.P H s ts.toList l) fun v => AtO K v.1 v.2 := by
 unfold WpO;simp only [opA]
 rcases evals a args.toList with _ | l
 ·rfl
 ·simp only [bindO_some];cases appendA C.P H s ts.toList l <;> rfl
@[go_sem ↓] theorem wpO_len (args : Array Operand) (ts : Array TypeId) : WpO C me d (.call ⟨.builtin .len,args,ts⟩) a H s K = bindO (evals a args.toList) fun l => bindO (lenA C.P H ts.toList l) fun v => AtO K v H := by
 unfold WpO;simp only [opA]
 rcases evals a args.toList with _ | l
 ·rfl
 ·simp only [bindO_some];cases lenA C.P H ts.toList l <;> rfl
@[go_sem ↓] theorem wpO_cap (args : Array Operand) (ts : Array TypeId) : WpO C me d (.call ⟨.builtin .cap,args,ts⟩) a H s K = bindO (evals a args.toList) fun l => bindO (capA C.P ts.toList l) fun v => AtO K v H := by
 unfold WpO;simp only [opA]
 rcases evals a args.toList with _ | l
 ·rfl
 ·simp only [bindO_some];cases capA C.P ts.toList l <;> rfl
def mmA (mx : Bool) (l : List AV) : Option AV := match l with | x :: r => minmaxA mx x r | [] => none
@[go_sem] theorem mmA_cons (mx : Bool) (x : AV) (r : List AV) : mmA mx (x :: r) = minmaxA mx x r := rfl
@[go_sem ↓] theorem wpO_min (args : Array Operand) (ts : Array TypeId) : WpO C me d (.call ⟨.builtin .min,args,ts⟩) a H s K = bindO (evals a args.toList) fun l => bindO (mmA false l) fun v => AtO K v H := by
 unfold WpO;simp only [opA]
 rcases evals a args.toList with _ | l
 ·rfl
 ·rcases l with _ | ⟨x,r⟩
  ·rfl
  ·simp only [bindO_some,mmA];cases minmaxA false x r <;> rfl
def WpC (C : Cfg) (me : FuncId) (d : Option Tmp) (g : AV) (l : List AV) (H : Heap) (K : PostO) : Prop :=
 match g with
 | .fn (.func f) first cap => bindO (callA C (lim C) me f d (first ++ l ++ cap) H) fun x => AtO K x.1 x.2
 | .yld b => bindO (lim C (.round b l H)) fun o => match o with | .ret v H' => AtO K v H' | _ => False
 | _ => False
@[congr] theorem WpC_congr {g g' : AV} {l l' : List AV} {H' : Heap} (hg : g = g') (hl : l = l') (hH : H = H') : WpC C me d g l H K = WpC C me d g' l' H' K := by rw [hg,hl,hH]
@[go_sem ↓] theorem wpC_fn (f : FuncId) (x y l : List AV) : WpC C me d (.fn (.func f) x y) l H K = bindO (callA C (lim C) me f d (x ++ l ++ y) H) fun x => AtO K x.1 x.2 := rfl
def retP (o : Out) (K : PostO) : Prop := match o with | .ret v H' => AtO K v H' | _ => False
@[go_sem ↓] theorem wpO_call (g : Operand) (args : Array Operand) (ts : Array TypeId) : WpO C me d (.call ⟨.value g,args,ts⟩) a H s K = bindO (evals a args.toList) fun l => bindO (a.eval g) fun v => WpC C me d v l H K := by
 unfold WpO;simp only [opA]
 rcases evals a args.toList with _ | l
 ·cases a.eval g <;> rfl
 ·simp only [bindO_some]
  rcases a.eval g with _ | v
  ·rfl
  ·rcases v with v | _ | _ | _ | _ | _ | _ | _ | ⟨f,x,y⟩ | b | _ <;> try rfl
   ·cases f <;> try rfl
    rename_i f;simp only [bindO_some,WpC];cases callA C (lim C) me f d (x ++ l ++ y) H <;> rfl
   ·simp only [bindO_some,WpC]
    rcases lim C (.round b l H) with _ | o
    ·rfl
    ·cases o <;> rfl
end
end Go.Ev
