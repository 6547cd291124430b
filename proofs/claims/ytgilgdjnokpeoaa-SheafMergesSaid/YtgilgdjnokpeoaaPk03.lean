/- What the proof of this claim stands on, part 4: an evaluator of the model, proved right, and what it answers for functions of the program. -/
import Derived.Test.YtgilgdjnokpeoaaPk02
set_option maxHeartbeats 8000000
set_option maxRecDepth 1000000
set_option linter.unusedSimpArgs false
namespace Go.Ev
open Go.Proofs
def All2 {α β : Type} (R : α → β → Prop) (l : List α) (m : List β) : Prop := l.length = m.length ∧ ∀ (i : Nat) a b,l[i]? = some a → m[i]? = some b → R a b
theorem All2.get {α β : Type} {R : α → β → Prop} {l : List α} {m : List β} (h : All2 R l m) {i : Nat} {a : α} (ha : l[i]? = some a) : ∃ b,m[i]? = some b ∧ R a b := by
 have hi := (List.getElem?_eq_some_iff.1 ha).1
 exact ⟨m[i]'(h.1 ▸ hi),List.getElem?_eq_getElem _,h.2 i a _ ha (List.getElem?_eq_getElem _)⟩
theorem all2_of {α β : Type} {R : α → β → Prop} : ∀ (xs : List β),(∀ y ∈ xs,∃ a,R a y) → ∃ l,All2 R l xs
 | [],_ => ⟨[],rfl,fun i a b h => by simp at h⟩
 | y :: r,h => by
  obtain ⟨a,ha⟩ := h y List.mem_cons_self
  obtain ⟨l,hl⟩ := all2_of r fun z hz => h z (List.mem_cons_of_mem _ hz)
  refine ⟨a :: l,by simp [hl.1],fun i x z hx hz => ?_⟩
  cases i with
  | zero => simp at hx hz;subst hx;subst hz;exact ha
  | succ i => exact hl.2 i x z (by simpa using hx) (by simpa using hz)
theorem All2.mem_left {α β : Type} {R : α → β → Prop} {l : List α} {m : List β} (h : All2 R l m) {a : α} (ha : a ∈ l) : ∃ b ∈ m,R a b := by
 obtain ⟨i,hi⟩ := List.getElem?_of_mem ha
 obtain ⟨b,hb,hr⟩ := h.get hi
 exact ⟨b,List.mem_of_getElem? hb,hr⟩
theorem plain_slice {P : Program} {N t e c : Nat} {cs : List AV} (hu : P.underlying t = some (.slice e)) (hc : P.cellsOf e = c) (h : Plain P (N + 1) t cs) : ∃ x xs,cs = [x] ∧ SlOf c xs x ∧ xs.length ≤ maxLen ∧ ∀ y ∈ xs,∃ d,y = elemOf d ∧ d.length = c ∧ Plain P N e d := by
 unfold Plain at h;rw [hu] at h;subst hc;exact h
theorem plain_string {P : Program} {N t : Nat} {cs : List AV} (hu : P.underlying t = some .string) (h : Plain P (N + 1) t cs) : ∃ s,cs = [.v (.string s)] ∧ s.size ≤ maxLen := by
 unfold Plain at h;rw [hu] at h;exact h
theorem maxLen_lt : maxLen < 2 ^ 63 := by decide
theorem line_of {N : Nat} {cs : List AV} (h : Plain Try.prog (N + 2) 22 cs) : ∃ ws x,cs = [x] ∧ SlOf 1 (strs ws) x ∧ FitsR ws := by
 obtain ⟨x,xs,rfl,hx,hlen,hxs⟩ := plain_slice (c := 1) (by kernel_rfl : Try.prog.underlying 22 = some (.slice 9)) (by kernel_rfl) h
 have key : ∀ y ∈ xs,∃ s : ByteArray,y = .v (.string s) ∧ s.size ≤ maxLen := by
  intro y hy
  obtain ⟨d,rfl, -,hd⟩ := hxs y hy
  obtain ⟨s,rfl,hs⟩ := plain_string (by kernel_rfl : Try.prog.underlying 9 = some .string) hd
  exact ⟨s,rfl,hs⟩
 obtain ⟨ws,hws⟩ := all2_of (R := fun (s : ByteArray) y => y = AV.v (.string s) ∧ s.size ≤ maxLen) xs key
 have he : xs = strs ws := by
  unfold strs
  apply List.ext_getElem?
  intro i
  rw [List.getElem?_map]
  cases hi : ws[i]? with
  | none =>
   rw [List.getElem?_eq_none_iff] at hi
   rw [Option.map_none,List.getElem?_eq_none_iff]
   rw [← hws.1];exact hi
  | some s =>
   obtain ⟨b,hb,rfl, -⟩ := hws.get hi
   rw [hb];rfl
 have := maxLen_lt
 subst he
 refine ⟨ws,x,rfl,hx,by rw [strs_len] at hlen;omega,fun s hs => ?_⟩
 obtain ⟨b, -, -,h2⟩ := hws.mem_left hs
 omega
theorem rows_arg {N : Nat} {x : AV} (h : Arg Try.prog (N + 2) 22 x) : ∃ l,SlOf 1 (strs l) x ∧ FitsR l := by
 unfold Arg at h
 have hu : Try.prog.underlying 22 = some (.slice 9) := by kernel_rfl
 rw [hu] at h
 obtain ⟨ws,y,hy,h1,h2⟩ := line_of h
 simp only [List.cons.injEq,and_true] at hy
 subst hy
 exact ⟨ws,h1,h2⟩
theorem freeze_to_v {H : Heap} {K : Nat} {x : AV} {y : Value} (h : freezeV H K x = some (.v y)) : x = .v y := by
 cases K with
 | zero => cases h
 | succ K =>
  unfold freezeV at h
  cases x with
  | v z => simpa using h
  | ro z k => simp at h
  | vs s l c => simp at h
  | agg l => simp only [Option.map_eq_some_iff] at h;obtain ⟨_,_,h⟩ := h;cases h
  | tup l => simp only [Option.map_eq_some_iff] at h;obtain ⟨_,_,h⟩ := h;cases h
  | ifc t z => simp only [Option.map_eq_some_iff] at h;obtain ⟨_,_,h⟩ := h;cases h
  | mp b => simp only at h;split at h <;> simp at h
  | yld b => simp only at h;split at h <;> simp at h
  | fn f a b => simp only at h;split at h <;> simp at h
  | ptr b v k =>
   simp only at h
   split at h
   ·simp at h
   ·split at h
    ·split at h
     ·split at h <;> simp at h
     ·simp at h
    ·simp at h
  | sl b v off len c =>
   simp only at h
   split at h
   ·simp at h
   ·split at h
    ·split at h
     ·split at h
      ·simp at h
      ·split at h
       ·split at h <;> simp at h
       ·simp at h
     ·simp at h
    ·simp at h
theorem Ans.lim {C : Cfg} {f : FuncId} {args : List AV} (h : Ans C f args (.v (.bool true))) : ∃ H',Go.Ev.lim C (.call f args { objs := [],lock := 0 }) = some (.ret (.v (.bool true)) H') := by
 obtain ⟨x,H,h1,h2⟩ := Ans.iff.1 h
 rw [freeze_to_v h2] at h1
 exact ⟨H,h1⟩
theorem mixed (e : Exts) : (Cx e).P.follows .mixedOrders = true := by show Try.prog.follows .mixedOrders = true;kernel_rfl
theorem nogo_all : (Try.prog.funcs.toList.all fun fn => !(fn.body.isSome && (fn.name == "runtime.NumGoroutine"))) = true := by kernel_rfl
theorem nogo (e : Exts) : NoGo (Cx e).P := by
 intro f fn hf hb
 have h := List.all_eq_true.1 nogo_all fn (by
  have : Try.prog.funcs[f]? = some fn := hf
  exact List.mem_of_getElem? (by simpa using this))
 rw [hb] at h
 simpa using h
end Go.Ev
namespace Go.Ev
open Go.Proofs
attribute [local irreducible] Wp WpS
def bigR (l : List ByteArray) : Bool := decide (250 < l.length) || l.any fun r => decide (200 < r.size)
theorem ans55 {e : Exts} (l : List ByteArray) (hf : FitsR l) (x : AV) (hx : SlOf 1 (strs l) x) : Ans (Cx e) 6 [x] (.v (.bool (bigR l))) := by
 unfold Ans
 rw [fn_step (fn_6 e) (show Try.f6.body = some _ from rfl)]
 have hlx := hx.len
 rw [strs_len] at hlx
 by_cases hbig : 250 < l.length
 ·have hb : (l.length : Int) > 250 := by omega
  have hr : bigR l = true := by unfold bigR;rw [decide_eq_true hbig];rfl
  simp -implicitDefEqProofs only [Try.f6,go_sem,↓reduceIte,Int.reduceEq,Int.reduceLT,Int.reduceLE,List.reduceReplicate,intA,setT_nil,setT_cons,hx.cells,hx.flat,hx.bound,hlx,hb,hr,↓boolP_bool,↓iteB_true,↓iteB_false]
 have hb : ¬ (l.length : Int) > 250 := by omega
 have hr : bigR l = l.any fun r => decide (200 < r.size) := by unfold bigR;rw [decide_eq_false hbig];rfl
 simp -implicitDefEqProofs only [Try.f6,go_sem,↓reduceIte,Int.reduceEq,Int.reduceLT,Int.reduceLE,List.reduceReplicate,intA,setT_nil,setT_cons,hx.cells,hx.flat,hx.bound,hlx,hb,↓boolP_bool,↓iteB_true,↓iteB_false]
 refine Lp_ruleQ (P := fun μ a H => ∃ j,j + μ = l.length ∧ bigR l = ((l.drop j).any fun r => decide (200 < r.size)) ∧ a = ⟨19,[(0,x),(2,.v (.bool false)),(6,.v (.bool false)),(3,intA (j : Nat))],[]⟩ ∧ H = ⟨[],0⟩) ?_ l.length _ _ ⟨0,by omega,hr,rfl,rfl⟩
 rintro Q KK hQ hKK μ _ _ ⟨j,hj,hall,rfl,rfl⟩
 cases μ with
 | zero =>
  obtain rfl : j = l.length := by omega
  rw [List.drop_length] at hall
  have hlt : ¬ (l.length : Int) < (l.length : Int) := by omega
  simp -implicitDefEqProofs only [go_sem,↓reduceIte,Int.reduceEq,Int.reduceLT,Int.reduceLE,List.reduceReplicate,intA,setT_nil,setT_cons,hx.cells,hx.flat,hx.bound,hlx,hlt,↓boolP_bool,↓iteB_true,↓iteB_false]
  refine hKK _ _ _ ?_
  rw [hall]
  simp -implicitDefEqProofs only [go_sem,↓reduceIte,Int.reduceEq,Int.reduceLT,Int.reduceLE,List.reduceReplicate,intA,setT_nil,setT_cons,List.any_nil,hx.cells,hx.flat,hx.bound,↓boolP_bool,↓iteB_true,↓iteB_false]
 | succ μ =>
  obtain ⟨r,hr1⟩ := at_lt l j (by omega)
  have hlt : (j : Int) < (l.length : Int) := by omega
  have hix := hx.idx (strs_get hr1)
  have hw := wrap_succ j (by have := hf.1;omega)
  rw [drop_eq_cons hr1,List.any_cons] at hall
  by_cases h2 : 200 < r.size
  ·have h3 : (r.size : Int) > 200 := by omega
   rw [decide_eq_true h2,Bool.true_or] at hall
   simp -implicitDefEqProofs only [go_sem,↓reduceIte,Int.reduceEq,Int.reduceLT,Int.reduceLE,List.reduceReplicate,intA,setT_nil,setT_cons,hx.cells,hx.flat,hx.bound,hlx,hlt,hix,h3,↓boolP_bool,↓iteB_true,↓iteB_false]
   refine hKK _ _ _ ?_
   rw [hall]
   simp -implicitDefEqProofs only [go_sem,↓reduceIte,Int.reduceEq,Int.reduceLT,Int.reduceLE,List.reduceReplicate,intA,setT_nil,setT_cons,↓boolP_bool,↓iteB_true,↓iteB_false]
  ·have h3 : ¬ (r.size : Int) > 200 := by omega
   rw [decide_eq_false h2,Bool.false_or] at hall
   simp -implicitDefEqProofs only [go_sem,↓reduceIte,Int.reduceEq,Int.reduceLT,Int.reduceLE,List.reduceReplicate,intA,setT_nil,setT_cons,hx.cells,hx.flat,hx.bound,hlx,hlt,hix,h3,hw,↓boolP_bool,↓iteB_true,↓iteB_false]
   exact Again.mk' μ (by omega) (hQ _ _ _ ⟨j + 1,by omega,hall,rfl,rfl⟩)
theorem call55 {e : Exts} (he : Quiet e) (l : List ByteArray) (hf : FitsR l) (x : AV) (hx : SlOf 1 (strs l) x) (me : FuncId) (d : Option Tmp) (H : Heap) : callA (Cx e) (lim (Cx e)) me 6 d [x] H = some (.v (.bool (bigR l)),H) :=
 (ans55 l hf x hx).call (ext_6 he) (pure_6 _ _ _) (by simp only [boundL_cons,hx.bound,boundL_nil];rfl) H
end Go.Ev
namespace Go.Ev
open Go.Proofs
attribute [local irreducible] Wp WpS
end Go.Ev
namespace Go.Ev
open Go.Proofs
attribute [local irreducible] Wp WpS
end Go.Ev
namespace Go.Ev
open Go.Proofs
attribute [local irreducible] Wp WpS
def h10 : List ByteArray → Heap
 | [] => ⟨[],0⟩
 | z :: Z => ⟨[some (.cells Z.length 0 9 1 true (strs (z :: Z)))],0⟩
end Go.Ev
namespace Go.Ev
open Go.Proofs Go.Shelf Go.RowKit
theorem lay_cc240 {P : Program} {ρn : Ren} (L : Lays.n240 P ρn) (X : Builder.X72 P ρn) {f : FuncId} (hf : ρn.f 240 = f) (hbody : HasBody P f) {args : List AV} {H H' : Heap} {v : AV} (h : ccA (ρn.t 72) args H = some (v,H')) : MeetsCall P f args H v H' := by
 subst hf
 refine ⟨hbody,fun Z ρ w vals hs hl => ?_⟩
 unfold ccA at h
 split at h
 ·rename_i b ver
  obtain ⟨x,ws,rfl,hx,hl⟩ := hl.uncons
  have : ws = [] := List.length_eq_zero_iff.1 hl.1.symm
  subst this
  cases hx with
  | ptr hp =>
  rename_i pl
  split at h
  ·rename_i m e sz y hrow
   split at h
   ·rename_i he
    subst he
    simp only [Option.map_eq_some_iff,Prod.mk.injEq] at h
    obtain ⟨H2,hst,rfl,rfl⟩ := h
    obtain ⟨pl1,arr,e',h1,h2,h3,h3b,h3c,h4,pre,vs,post,h5,h6,h7,h7b,h8⟩ := hs.row hrow
    rw [hp] at h1;cases h1
    obtain rfl := hs.rowE hrow hp h2
    have hb0 := hs.row0 hrow hp
    have hpre : pre = [] := List.length_eq_zero_iff.1 (h6.trans hb0)
    have hpost := h7b rfl
    subst hpre hpost
    obtain ⟨z0,us,rfl,hz0,h8⟩ := h8.uncons
    obtain ⟨z1,us,rfl,hz1,h8⟩ := h8.uncons
    have : us = [] := List.length_eq_zero_iff.1 h8.1.symm
    subst this
    obtain ⟨rfl, -⟩ := hz0.v_inv
    have harr : arr = #[.pointer none,z1] := by
     apply Array.toList_inj.1
     rw [h5];rfl
    subst harr
    obtain ⟨w1,Z1,ρ1,r1,s1,x1⟩ := cells_does (P := P) hs hp (k := 0) (xs := [.ptr b ver 0]) (ys := [.pointer (some ⟨pl.blk,pl.base + 0,none⟩)]) ⟨rfl,fun i c v hc hv => by
     cases i with
     | zero => simp at hc hv;subst hc hv;exact .ptr hp
     | succ i => simp at hc⟩ hst
    have hfr := Any.Builder_copyCheck_fresh L X pl.blk w (by simp [World.cell?,h2]) (by simp [World.shape?,h2]) (by simp [World.frozen?,h2])
    rw [hb0]
    refine Calls.mono' hfr ?_
    rintro e w' ⟨rfl,rfl⟩
    rw [hb0] at r1
    have hw : w1 = w.setCell ⟨pl.blk,0,none⟩ (.pointer (some ⟨pl.blk,0,none⟩)) := by
     have hrun := run_storeCells_at P pl.blk 0 (ρn.t 72) [.pointer (some ⟨pl.blk,0,none⟩)] 0 #[.pointer none,z1] w h2 (by simp) (fun y hy => by simp at hy;subst hy;rfl)
     rw [show (0 : Nat) + 0 = 0 from rfl] at r1
     rw [r1] at hrun
     simp only [Result.ok.injEq,true_and] at hrun
     rw [hrun]
     unfold World.setRow World.setCell
     congr 1
     refine Array.ext_getElem? fun k => ?_
     rw [Array.getElem?_modify,Array.getElem?_modify]
     split
     ·rename_i hk;subst hk
      rw [h2];rfl
     ·rfl
    rw [← hw]
    exact ⟨_,rfl,Z1,ρ1,.tup (cs := []) (vs := []) rfl (fun i c v h => by simp at h),s1,x1⟩
   ·cases h
  ·rename_i m e sz b' v' y hrow
   split at h
   ·rename_i he
    obtain ⟨rfl,rfl⟩ := he
    simp only [Option.some.injEq,Prod.mk.injEq] at h
    obtain ⟨rfl,rfl⟩ := h
    obtain ⟨pl1,arr,e',h1,h2,h3,h3b,h3c,h4,pre,vs,post,h5,h6,h7,h7b,h8⟩ := hs.row hrow
    rw [hp] at h1;cases h1
    have hb0 := hs.row0 hrow hp
    have hpre : pre = [] := List.length_eq_zero_iff.1 (h6.trans hb0)
    have hpost := h7b rfl
    subst hpre hpost
    obtain ⟨z0,us,rfl,hz0,h8⟩ := h8.uncons
    cases hz0 with
    | ptr hp2 =>
    rename_i pl2
    rw [hp] at hp2;cases hp2
    have hus := Any.Builder_copyCheck_used L X pl.blk w (by
     have := cell_at (w := w) h2 h5 (k := 0) (x := .pointer (some ⟨pl.blk,pl.base + 0,none⟩)) rfl
     rw [hb0] at this
     exact this)
    rw [hb0]
    refine Calls.mono' hus ?_
    rintro e w' ⟨rfl,rfl⟩
    exact ⟨_,rfl,Z,ρ,.tup (cs := []) (vs := []) rfl (fun i c v h => by simp at h),hs,Ext.refl _ _ _ _⟩
   ·cases h
  ·cases h
 ·cases h
def ren240 : Go.Shelf.Ren := ⟨fun | 240 => 47 | 276 => 58 | n => n,fun | 70 => 62 | 72 => 65 | 37 => 63 | 164 => 105 | n => n,fun | n => n⟩
theorem lays240 : Go.Proofs.Lays.n240 Try.prog ren240 := {
 mixed := by kernel_rfl
 f240 := Try.func47.trans (congrArg some (by kernel_rfl))
 f276 := Try.func58.trans (congrArg some (by kernel_rfl))
 t0 := Try.underlying0
 a0 := Try.isAgg0
 z0 := Try.sizeOf0
 v0 := Try.zeroValue0
 t4 := Try.underlying4
 a4 := Try.isAgg4
 z4 := Try.sizeOf4
 v4 := Try.zeroValue4
 t9 := Try.underlying9
 a9 := Try.isAgg9
 z9 := Try.sizeOf9
 v9 := Try.zeroValue9
 t20 := Try.underlying20
 a20 := Try.isAgg20
 z20 := Try.sizeOf20
 v20 := Try.zeroValue20
 t70 := Try.underlying62
 a70 := Try.isAgg62
 z70 := Try.sizeOf62
 v70 := Try.zeroValue62
 t72 := Try.underlying65
 a72 := Try.isAgg65
 z72 := Try.sizeOf65
 v72 := Try.zeroValue65
 t164 := Try.underlying105
 a164 := Try.isAgg105
 z164 := Try.sizeOf105
 v164 := Try.zeroValue105 }
theorem x72 : Builder.X72 Try.prog ren240 := { sizeBuilder := by kernel_rfl,liesBuilder := by kernel_rfl }
noncomputable def eN : Exts := ⟨fun _ => none⟩
theorem extOKN0 : ExtOK { Cx eN with lay := fun _ => none } := ⟨fun _ _ h => (nomatch h),fun _ _ h => (nomatch h),fun _ _ h => (nomatch h)⟩
theorem extOKN : ExtOK (Cx eN) := by
 refine extOK_lay (C := { Cx eN with lay := fun _ => none }) (f := 47) (g := ccA 65) rfl ?_ extOKN0 rfl rfl rfl
 intro args H v H' h
 exact lay_cc240 lays240 x72 (f := 47) rfl ⟨_,Try.func47,by kernel_rfl,by kernel_rfl⟩ h
noncomputable def eA : Exts := eN.more 63 idxStr
theorem extOKA : ExtOK (Cx eA) := by
 refine extOK_more (C := Cx eN) (f := 63) (g := idxStr) rfl ?_ extOKN rfl
 intro args v h Z ρ H w vals hs hl
 exact ext_idx (fn := Try.f63) Try.func63 (by kernel_rfl) (by kernel_rfl) (by kernel_rfl) (by kernel_rfl) h Z ρ H w vals hs hl
theorem quietA : Quiet eA := by
 intro f h1 h2 h3 h4
 show (if Nat.beq f 63 then _ else none) = none
 rw [if_neg (fun h => h4 (Nat.eq_of_beq_eq_true h))]
end Go.Ev
namespace Go.Ev
open Go.Proofs
attribute [local irreducible] Wp WpS
theorem frzAt (l : List (Option AObj)) (b : List ByteArray) (_h0 : 0 < b.length) : freezeV ⟨l ++ [some (rowO b)],l.length⟩ 1000000 (.sl l.length 0 0 b.length none) = some (.vs 1 (strs b) none) := by
 have hr : (⟨l ++ [some (rowO b)],l.length⟩ : Heap).row l.length 0 = some (0,9,1,true,strs b) := by
  unfold Heap.row Heap.get rowO;simp
 show freezeV _ (999999 + 1) _ = _
 unfold freezeV
 simp only [hr]
 rw [if_neg (Nat.lt_irrefl _),if_pos ⟨by rw [strs_len];omega,by omega⟩,if_pos trivial,List.drop_zero,Nat.mul_one,List.take_of_length_le (by rw [strs_len];exact Nat.le_refl _),← strs_len b,chunk1]
def cpyV (a : List ByteArray) : AV := if a = [] then .vs 1 [] (some 0) else .vs 1 (strs a) none
theorem cpyV_of (a : List ByteArray) : SlOf 1 (strs a) (cpyV a) := by
 unfold cpyV
 split
 ·rename_i h;rw [h];exact Or.inr ⟨_,rfl⟩
 ·exact Or.inr ⟨_,rfl⟩
theorem cpyF (a : List ByteArray) (ha : a.length ≤ 100000) (x : AV) (hx : SlOf 1 (strs a) x) (l : List (Option AObj)) (K : PostO) (hK : AtO K (cpyV a) ⟨l,0⟩) : bindO (appG 9 1 16 ⟨l,l.length⟩ l.length (.vs 1 [] (some 0)) (cellsFrom ⟨l,l.length⟩ 1 x)) fun v => AtO (frzO ⟨l,0⟩ K) v.1 v.2 := by
 by_cases h0 : a = []
 ·have hx3 : ∀ H,cellsFrom H 1 x = some (0,[]) := by
   intro H
   subst h0
   rcases hx with ⟨rfl, -⟩ | ⟨cap,rfl⟩ <;> rfl
  unfold cpyV at hK
  rw [if_pos h0] at hK
  rw [hx3]
  exact hK
 ·obtain ⟨cap,rfl⟩ : ∃ cap,x = .vs 1 (strs a) cap := by
   rcases hx with ⟨-,h⟩ | h
   ·exact absurd (by cases a with | nil => rfl | cons z l => exact nomatch h) h0
   ·exact h
  have hl0 : 0 < a.length := List.length_pos_iff.2 h0
  have hf : fitsA 16 a.length = true := by unfold fitsA;exact decide_eq_true (by omega)
  unfold cpyV at hK
  rw [if_neg h0] at hK
  have hc : cellsFrom ⟨l,l.length⟩ 1 (.vs 1 (strs a) cap) = some (a.length,strs a) := by
   show (if 1 = 1 then some ((strs a).length,(strs a).flatMap AV.cells) else none) = _
   rw [if_pos rfl,strs_len,strs_cells]
  rw [hc]
  have ha : appG 9 1 16 ⟨l,l.length⟩ l.length (.vs 1 [] (some 0)) (some (a.length,strs a)) = some (.sl l.length 0 0 a.length none,⟨l ++ [some (rowO a)],l.length⟩) := by
   unfold appG
   simp only [strs_flat]
   have hp : (⟨l,l.length⟩ : Heap).put l.length (rowO a) = ⟨l ++ [some (rowO a)],l.length⟩ := by
    unfold Heap.put
    congr 1
    clear hK hc
    induction l with
    | nil => rfl
    | cons o r ih => show o :: setOrPush _ r.length r = _;rw [ih];rfl
   rw [← hp]
   exact appE1 _ _ a hl0 hf
  rw [ha]
  show bindO (freezeV ⟨l ++ [some (rowO a)],l.length⟩ 1000000 (.sl l.length 0 0 a.length none)) fun v => AtO K v ⟨l,0⟩
  rw [frzAt l a hl0]
  exact hK
theorem slice22B {xs : List AV} {x : AV} (h : SlOf 1 xs x) (i j : Nat) (hij : i ≤ j) (hj : j ≤ xs.length) : ∃ y,(∀ H,sliceA Try.prog H 22 x (some (.v (.int .i64 (i : Nat)))) (some (.v (.int .i64 (j : Nat)))) none = some y) ∧ SlOf 1 ((xs.take j).drop i) y := by
 rcases h with ⟨rfl,rfl⟩ | ⟨cap,rfl⟩
 ·obtain rfl : j = 0 := by simpa using hj
  obtain rfl : i = 0 := by omega
  refine ⟨.v (.slice none 0 0),fun H => ?_,Or.inl ⟨rfl,rfl⟩⟩
  unfold sliceA
  simp only [und_22,und22s]
  rfl
 ·have b1 : boundA (some (.v (.int .i64 (i : Nat)))) 0 j = some i := by
   unfold boundA
   simp only [Int.toNat_natCast]
   rw [if_pos (by omega)]
  have b2 : boundA (some (.v (.int .i64 (j : Nat)))) xs.length xs.length = some j := by
   unfold boundA
   simp only [Int.toNat_natCast]
   rw [if_pos (by omega)]
  have b3 : boundA none xs.length xs.length = some xs.length := rfl
  refine ⟨.vs 1 ((xs.take j).drop i) (capOf none xs.length i cap),fun H => ?_,Or.inr ⟨_,rfl⟩⟩
  unfold sliceA
  simp only [und_22,und22s,b1,b2,b3]
  rfl
def cell39 : Heap := ⟨[some (.cells 0 0 60 1 false [.v (.int .i64 0),.v (.int .i64 0),.v (.slice none 0 0)])],0⟩
end Go.Ev
namespace Go.Ev
open Go.Proofs
attribute [local irreducible] Wp WpS
theorem appN1 (H : Heap) (slot : Nat) (p : List ByteArray) (h0 : 0 < p.length) (h1 : p.length < 100000) : appTo 9 1 16 H slot p.length (strs p) (.v (.slice none 0 0)) = some (.sl slot 0 0 p.length none,H.put slot (rowO p)) := by
 have hf : fitsA 16 p.length = true := by unfold fitsA;exact decide_eq_true (by omega)
 unfold appTo
 simp only []
 rw [if_neg (by omega),hf]
 show some (AV.sl slot 0 0 p.length none,H.put slot (.cells 0 (Nat.max (boundL []) (boundL (strs p))) 9 1 true ([] ++ strs p))) = _
 rw [List.nil_append,strs_bd];rfl
theorem appN0 (H : Heap) (slot : Nat) : appTo 9 1 16 H slot 0 [] (.v (.slice none 0 0)) = some (.v (.slice none 0 0),H) := rfl
theorem sop_last (x y : Option AObj) : ∀ R : List (Option AObj),setOrPush x R.length (R ++ [y]) = R ++ [x]
 | [] => rfl
 | r :: R => by
  show r :: setOrPush x R.length (R ++ [y]) = _
  rw [sop_last x y R];rfl
theorem appGr (R : List (Option AObj)) (k b v slot : Nat) (acc p : List ByteArray) (hb : R.length = b) (hk : k ≤ b) (h0 : 0 < p.length) (h1 : acc.length + p.length < 100000) : appTo 9 1 16 ⟨R ++ [some (.cells v 0 9 1 true (strs acc))],k⟩ slot p.length (strs p) (.sl b v 0 acc.length none) = some (.sl b (v + 1) 0 (acc.length + p.length) none,⟨R ++ [some (.cells (v + 1) 0 9 1 true (strs (acc ++ p)))],k⟩) := by
 subst hb
 have hr : (⟨R ++ [some (.cells v 0 9 1 true (strs acc))],k⟩ : Heap).row R.length v = some (0,9,1,true,strs acc) := by unfold Heap.row Heap.get;simp
 have hf : fitsA 16 (acc.length + p.length) = true := by unfold fitsA;exact decide_eq_true (by omega)
 rw [appTo_own hr (by rw [strs_len];omega) hk hf h0 (by omega)]
 have hs : strs acc ++ strs p = strs (acc ++ p) := by unfold strs;rw [List.map_append]
 rw [strs_bd,hs]
 have hp : (⟨R ++ [some (.cells v 0 9 1 true (strs acc))],k⟩ : Heap).put R.length (.cells (v + 1) (Nat.max 0 0) 9 1 true (strs (acc ++ p))) = ⟨R ++ [some (.cells (v + 1) 0 9 1 true (strs (acc ++ p)))],k⟩ := by
  unfold Heap.put
  simp [sop_last]
 rw [hp]
theorem appG1 (B : Option AObj) (v slot : Nat) (acc p : List ByteArray) (h0 : 0 < p.length) (h1 : acc.length + p.length < 100000) : appTo 9 1 16 ⟨[B,some (.cells v 0 9 1 true (strs acc))],0⟩ slot p.length (strs p) (.sl 1 v 0 acc.length none) = some (.sl 1 (v + 1) 0 (acc.length + p.length) none,⟨[B,some (.cells (v + 1) 0 9 1 true (strs (acc ++ p)))],0⟩) := appGr [B] 0 1 v slot acc p rfl (by omega) h0 h1
theorem frzRowL {H : Heap} {b v e n : Nat} {cs : List AV} (hk : H.lock ≤ b) (hr : H.row b v = some (0,e,1,true,cs)) (hn : n = cs.length) (k : Nat) : freezeV H (k + 1) (.sl b v 0 n none) = some (.vs 1 cs none) := by
 subst hn
 unfold freezeV
 simp only [hr]
 rw [if_neg (by omega),if_pos ⟨by omega,by omega⟩,if_pos trivial,List.drop_zero,List.take_of_length_le (by omega),chunk1]
theorem frzT2 {H : Heap} {b v n : Nat} {l : List ByteArray} (hk : H.lock ≤ b) (hr : H.row b v = some (0,9,1,true,strs l)) (hn : n = l.length) (y : Value) : freezeV H 1000000 (.tup [.sl b v 0 n none,.v y]) = some (.tup [.vs 1 (strs l) none,.v y]) := by
 have h1 := frzRowL hk hr (hn.trans (strs_len l).symm) 999997
 show (freezeL H 999999 _).map AV.tup = _
 simp only [freezeL]
 rw [h1]
 rfl
theorem slice22A {xs : List AV} {x : AV} (h : SlOf 1 xs x) (j : Nat) (hj : j ≤ xs.length) : ∃ y,(∀ H,sliceA Try.prog H 22 x none (some (.v (.int .i64 (j : Nat)))) none = some y) ∧ SlOf 1 (xs.take j) y := by
 obtain ⟨y,h1,h2⟩ := slice22 h ⟨[],0⟩ j hj
 refine ⟨y,fun H => ?_,h2⟩
 rcases h with ⟨rfl,rfl⟩ | ⟨cap,rfl⟩ <;> exact h1
theorem slice22L {xs : List AV} {x : AV} (h : SlOf 1 xs x) (j : Nat) (hj : j ≤ xs.length) : ∃ y,(∀ H,sliceA Try.prog H 22 x (some (.v (.int .i64 (j : Nat)))) none none = some y) ∧ SlOf 1 (xs.drop j) y := by
 obtain ⟨y,h1,h2⟩ := slice22I h j hj
 refine ⟨y,fun H => ?_,h2⟩
 rcases h with ⟨rfl,rfl⟩ | ⟨cap,rfl⟩ <;> exact h1
theorem ans17 {e : Exts} (he : Quiet e) (l : List ByteArray) (h : Hnk) (hl : l.length < 30000) (hp : h.2.2.length < 30000) (hh : h.1 + h.2.1 ≤ l.length) (x y : AV) (hx : SlOf 1 (strs l) x) (hy : HunkA h y) : ∃ v,SlOf 1 (strs (chL l h)) v ∧ Ans (Cx e) 40 [x,y] (.tup [v,.v (.bool true)]) := by
 obtain ⟨a,d,P⟩ := h
 obtain ⟨p,rfl,hp2⟩ := hy
 simp only at hp hh hp2 ⊢
 have hlx := hx.len
 rw [strs_len] at hlx
 obtain ⟨x1,hx1,hx2⟩ := slice22A hx a (by rw [strs_len];omega)
 obtain ⟨x3,hx3,hx4⟩ := slice22L hx (a + d) (by rw [strs_len];omega)
 rw [strs_take] at hx2
 rw [strs_drop] at hx4
 have k1 := fun H => cells_SlOf (H := H) hx2
 have k3 := fun H => cells_SlOf (H := H) hx4
 have k2 := fun H => cells_SlOf (H := H) hp2
 have w1 : IntKind.i64.wrap ((a : Int) + (d : Int)) = ((a + d : Nat) : Int) := by rw [wrap_in _ (by omega) (by omega)];omega
 have w2 : IntKind.i64.wrap ((l.length : Int) - (a : Int)) = ((l.length - a : Nat) : Int) := by rw [wrap_in _ (by omega) (by omega)];omega
 have c1 := fun me dd H => call49 he (a : Int) 0 (l.length : Nat) me dd H
 have c2 := fun me dd H => call49 he (d : Int) 0 ((l.length - a : Nat) : Int) me dd H
 rw [decide_eq_true (by omega : (0 : Int) ≤ (a : Int)),decide_eq_true (by omega : (a : Int) ≤ (l.length : Int))] at c1
 rw [decide_eq_true (by omega : (0 : Int) ≤ (d : Int)),decide_eq_true (by omega : (d : Int) ≤ ((l.length - a : Nat) : Int))] at c2
 have hA : (l.take a).length = a := by rw [List.length_take];omega
 have hC : (l.drop (a + d)).length = l.length - (a + d) := List.length_drop
 have hch : chL l (a,d,P) = l.take a ++ (P ++ l.drop (a + d)) := rfl
 rw [hch]
 generalize hAA : l.take a = A at *
 generalize hCC : l.drop (a + d) = C at *
 have key : ∀ v,SlOf 1 (strs (A ++ (P ++ C))) v → (Ans (Cx e) 40 [x,.agg [.v (.int .i64 a),.v (.int .i64 d),p]] (.tup [v,.v (.bool true)])) → ∃ v,SlOf 1 (strs (A ++ (P ++ C))) v ∧ (Ans (Cx e) 40 [x,.agg [.v (.int .i64 a),.v (.int .i64 d),p]] (.tup [v,.v (.bool true)])) := fun v h1 h2 => ⟨v,h1,h2⟩
 rcases Nat.eq_zero_or_pos A.length with nA | nA
 ·have zA : A = [] := List.length_eq_zero_iff.1 nA
  rw [zA,show strs [] = [] from rfl,List.length_nil] at k1
  rcases Nat.eq_zero_or_pos P.length with nP | nP
  ·have zP : P = [] := List.length_eq_zero_iff.1 nP
   rw [zP,show strs [] = [] from rfl,List.length_nil] at k2
   rcases Nat.eq_zero_or_pos C.length with nC | nC
   ·have zC : C = [] := List.length_eq_zero_iff.1 nC
    rw [zC,show strs [] = [] from rfl,List.length_nil] at k3
    refine key (.v (.slice none 0 0)) (Or.inl ⟨rfl,by simp [zA,zP,zC];rfl⟩) ?_
    unfold Ans
    rw [fn_step (fn_40 e) (show Try.f40.body = some _ from rfl)]
    simp -implicitDefEqProofs (maxSteps := 100000) only [Try.f40,go_sem,↓reduceIte,Int.reduceEq,Int.reduceLT,Int.reduceLE,List.reduceReplicate,intA,setT_nil,setT_cons,c1,c2,w1,w2,hlx,hx.cells,hx.flat,hx.bound,hx1,hx3,hx2.cells,hx2.flat,hx2.bound,hx4.cells,hx4.flat,hx4.bound,k1,k2,k3,rowO,appN0,appN0,appN0,hp2.cells,hp2.flat,hp2.bound,strs_flat,List.all_nil,List.flatMap_nil,Bool.not_true,Bool.and_true,↓boolP_bool,↓iteB_true,↓iteB_false]
    rfl
   ·have := nC
    have sC := fun H slot => appN1 H slot C nC (by omega)
    refine key (.vs 1 (strs (A ++ (P ++ C))) none) (Or.inr ⟨none,rfl⟩) ?_
    unfold Ans
    rw [fn_step (fn_40 e) (show Try.f40.body = some _ from rfl)]
    simp -implicitDefEqProofs (maxSteps := 100000) only [Try.f40,go_sem,↓reduceIte,Int.reduceEq,Int.reduceLT,Int.reduceLE,List.reduceReplicate,intA,setT_nil,setT_cons,c1,c2,w1,w2,hlx,hx.cells,hx.flat,hx.bound,hx1,hx3,hx2.cells,hx2.flat,hx2.bound,hx4.cells,hx4.flat,hx4.bound,k1,k2,k3,rowO,appN0,appN0,sC,hp2.cells,hp2.flat,hp2.bound,strs_flat,List.all_nil,List.flatMap_nil,Bool.not_true,Bool.and_true,↓boolP_bool,↓iteB_true,↓iteB_false]
    have hcat : C = A ++ (P ++ C) := by simp [zA,zP]
    rw [← hcat]
    exact frzT2 (by show 0 ≤ 1;decide) (by unfold Heap.row Heap.get;rfl) (by simp;try omega) _
  ·have := nP
   rcases Nat.eq_zero_or_pos C.length with nC | nC
   ·have zC : C = [] := List.length_eq_zero_iff.1 nC
    rw [zC,show strs [] = [] from rfl,List.length_nil] at k3
    have sP := fun H slot => appN1 H slot P nP (by omega)
    refine key (.vs 1 (strs (A ++ (P ++ C))) none) (Or.inr ⟨none,rfl⟩) ?_
    unfold Ans
    rw [fn_step (fn_40 e) (show Try.f40.body = some _ from rfl)]
    simp -implicitDefEqProofs (maxSteps := 100000) only [Try.f40,go_sem,↓reduceIte,Int.reduceEq,Int.reduceLT,Int.reduceLE,List.reduceReplicate,intA,setT_nil,setT_cons,c1,c2,w1,w2,hlx,hx.cells,hx.flat,hx.bound,hx1,hx3,hx2.cells,hx2.flat,hx2.bound,hx4.cells,hx4.flat,hx4.bound,k1,k2,k3,rowO,appN0,sP,appTo_none,hp2.cells,hp2.flat,hp2.bound,strs_flat,List.all_nil,List.flatMap_nil,Bool.not_true,Bool.and_true,↓boolP_bool,↓iteB_true,↓iteB_false]
    have hcat : P = A ++ (P ++ C) := by simp [zA,zC]
    rw [← hcat]
    exact frzT2 (by show 0 ≤ 1;decide) (by unfold Heap.row Heap.get;rfl) (by simp;try omega) _
   ·have := nC
    have sP := fun H slot => appN1 H slot P nP (by omega)
    have sC := fun B slot => appG1 B 0 slot P C nC (by omega)
    refine key (.vs 1 (strs (A ++ (P ++ C))) none) (Or.inr ⟨none,rfl⟩) ?_
    unfold Ans
    rw [fn_step (fn_40 e) (show Try.f40.body = some _ from rfl)]
    simp -implicitDefEqProofs (maxSteps := 100000) only [Try.f40,go_sem,↓reduceIte,Int.reduceEq,Int.reduceLT,Int.reduceLE,List.reduceReplicate,intA,setT_nil,setT_cons,c1,c2,w1,w2,hlx,hx.cells,hx.flat,hx.bound,hx1,hx3,hx2.cells,hx2.flat,hx2.bound,hx4.cells,hx4.flat,hx4.bound,k1,k2,k3,rowO,appN0,sP,sC,hp2.cells,hp2.flat,hp2.bound,strs_flat,List.all_nil,List.flatMap_nil,Bool.not_true,Bool.and_true,↓boolP_bool,↓iteB_true,↓iteB_false]
    have hcat : P ++ C = A ++ (P ++ C) := by simp [zA]
    rw [← hcat]
    exact frzT2 (by show 0 ≤ 1;decide) (by unfold Heap.row Heap.get;rfl) (by simp;try omega) _
 ·have na : 0 < a := by omega
  rcases Nat.eq_zero_or_pos P.length with nP | nP
  ·have zP : P = [] := List.length_eq_zero_iff.1 nP
   rw [zP,show strs [] = [] from rfl,List.length_nil] at k2
   rcases Nat.eq_zero_or_pos C.length with nC | nC
   ·have zC : C = [] := List.length_eq_zero_iff.1 nC
    rw [zC,show strs [] = [] from rfl,List.length_nil] at k3
    have sA := fun H slot => appN1 H slot A nA (by omega)
    refine key (.vs 1 (strs (A ++ (P ++ C))) none) (Or.inr ⟨none,rfl⟩) ?_
    unfold Ans
    rw [fn_step (fn_40 e) (show Try.f40.body = some _ from rfl)]
    simp -implicitDefEqProofs (maxSteps := 100000) only [Try.f40,go_sem,↓reduceIte,Int.reduceEq,Int.reduceLT,Int.reduceLE,List.reduceReplicate,intA,setT_nil,setT_cons,c1,c2,w1,w2,hlx,hx.cells,hx.flat,hx.bound,hx1,hx3,hx2.cells,hx2.flat,hx2.bound,hx4.cells,hx4.flat,hx4.bound,k1,k2,k3,rowO,sA,appTo_none,appTo_none,hp2.cells,hp2.flat,hp2.bound,strs_flat,List.all_nil,List.flatMap_nil,Bool.not_true,Bool.and_true,↓boolP_bool,↓iteB_true,↓iteB_false]
    have hcat : A = A ++ (P ++ C) := by simp [zP,zC]
    rw [← hcat]
    exact frzT2 (by show 0 ≤ 1;decide) (by unfold Heap.row Heap.get;rfl) (by simp;try omega) _
   ·have := nC
    have sA := fun H slot => appN1 H slot A nA (by omega)
    have sC := fun B slot => appG1 B 0 slot A C nC (by omega)
    refine key (.vs 1 (strs (A ++ (P ++ C))) none) (Or.inr ⟨none,rfl⟩) ?_
    unfold Ans
    rw [fn_step (fn_40 e) (show Try.f40.body = some _ from rfl)]
    simp -implicitDefEqProofs (maxSteps := 100000) only [Try.f40,go_sem,↓reduceIte,Int.reduceEq,Int.reduceLT,Int.reduceLE,List.reduceReplicate,intA,setT_nil,setT_cons,c1,c2,w1,w2,hlx,hx.cells,hx.flat,hx.bound,hx1,hx3,hx2.cells,hx2.flat,hx2.bound,hx4.cells,hx4.flat,hx4.bound,k1,k2,k3,rowO,sA,appTo_none,sC,hp2.cells,hp2.flat,hp2.bound,strs_flat,List.all_nil,List.flatMap_nil,Bool.not_true,Bool.and_true,↓boolP_bool,↓iteB_true,↓iteB_false]
    have hcat : A ++ C = A ++ (P ++ C) := by simp [zP]
    rw [← hcat]
    exact frzT2 (by show 0 ≤ 1;decide) (by unfold Heap.row Heap.get;rfl) (by simp;try omega) _
  ·have := nP
   rcases Nat.eq_zero_or_pos C.length with nC | nC
   ·have zC : C = [] := List.length_eq_zero_iff.1 nC
    rw [zC,show strs [] = [] from rfl,List.length_nil] at k3
    have sA := fun H slot => appN1 H slot A nA (by omega)
    have sP := fun B slot => appG1 B 0 slot A P nP (by omega)
    refine key (.vs 1 (strs (A ++ (P ++ C))) none) (Or.inr ⟨none,rfl⟩) ?_
    unfold Ans
    rw [fn_step (fn_40 e) (show Try.f40.body = some _ from rfl)]
    simp -implicitDefEqProofs (maxSteps := 100000) only [Try.f40,go_sem,↓reduceIte,Int.reduceEq,Int.reduceLT,Int.reduceLE,List.reduceReplicate,intA,setT_nil,setT_cons,c1,c2,w1,w2,hlx,hx.cells,hx.flat,hx.bound,hx1,hx3,hx2.cells,hx2.flat,hx2.bound,hx4.cells,hx4.flat,hx4.bound,k1,k2,k3,rowO,sA,sP,appTo_none,hp2.cells,hp2.flat,hp2.bound,strs_flat,List.all_nil,List.flatMap_nil,Bool.not_true,Bool.and_true,↓boolP_bool,↓iteB_true,↓iteB_false]
    have hcat : A ++ P = A ++ (P ++ C) := by simp [zC]
    rw [← hcat]
    exact frzT2 (by show 0 ≤ 1;decide) (by unfold Heap.row Heap.get;rfl) (by simp;try omega) _
   ·have := nC
    have sA := fun H slot => appN1 H slot A nA (by omega)
    have sP := fun B slot => appG1 B 0 slot A P nP (by omega)
    have sC := fun B slot => appG1 B 1 slot (A ++ P) C nC (by simp only [List.length_append];omega)
    simp only [List.length_append] at sC
    refine key (.vs 1 (strs (A ++ (P ++ C))) none) (Or.inr ⟨none,rfl⟩) ?_
    unfold Ans
    rw [fn_step (fn_40 e) (show Try.f40.body = some _ from rfl)]
    simp -implicitDefEqProofs (maxSteps := 100000) only [Try.f40,go_sem,↓reduceIte,Int.reduceEq,Int.reduceLT,Int.reduceLE,List.reduceReplicate,intA,setT_nil,setT_cons,c1,c2,w1,w2,hlx,hx.cells,hx.flat,hx.bound,hx1,hx3,hx2.cells,hx2.flat,hx2.bound,hx4.cells,hx4.flat,hx4.bound,k1,k2,k3,rowO,sA,sP,sC,hp2.cells,hp2.flat,hp2.bound,strs_flat,List.all_nil,List.flatMap_nil,Bool.not_true,Bool.and_true,↓boolP_bool,↓iteB_true,↓iteB_false]
    have hcat : (A ++ P) ++ C = A ++ (P ++ C) := by simp
    rw [← hcat]
    exact frzT2 (by show 0 ≤ 1;decide) (by unfold Heap.row Heap.get;rfl) (by simp;try omega) _
end Go.Ev
namespace Go.Ev
open Go.Proofs
attribute [local irreducible] Wp WpS
theorem sop_len {x : Option AObj} : ∀ {b : Nat} {l : List (Option AObj)},b < l.length → (setOrPush x b l).length = l.length
 | 0,_ :: _,_ => rfl
 | b + 1,_ :: l,h => by
  show (setOrPush x b l).length + 1 = l.length + 1
  rw [sop_len (Nat.lt_of_succ_lt_succ h)]
theorem storeRow {H : Heap} {b j : Nat} {L : List ByteArray} (hg : H.get b = some (rowO L)) (hk : H.lock = 0) (hj : j < L.length) (s : ByteArray) : storeCells H b 0 j [.v (.string s)] = some (H.put b (rowO (L.take j ++ s :: L.drop (j + 1)))) := by
 have hr := get_row hg
 unfold storeCells
 rw [hr]
 simp only []
 rw [if_pos ⟨by omega,by rw [strs_len];simp only [List.length_singleton];omega,rfl⟩]
 have hs : splice j [AV.v (.string s)] (strs L) = strs (L.take j ++ s :: L.drop (j + 1)) := by
  unfold splice
  rw [strs_take,strs_drop]
  unfold strs
  simp
 rw [hs]
 rfl
theorem ansP4 {e : Exts} (he : Quiet e) (o : List ByteArray) (ho : FitsR o) (x : AV) (hx : SlOf 1 (strs o) x) (a : List ByteArray) (ha : FitsR a) (y : AV) (hy : SlOf 1 (strs a) y) (b : List ByteArray) (hb : FitsR b) (z : AV) (hz : SlOf 1 (strs b) z)
  (h15 : ∃ v,SlOf 1 (strs (mergeL o a b).1) v ∧ Ans (Cx e) 15 [x,y,z] (.tup [v,.v (.int .i64 ((mergeL o a b).2 : Nat))])) (hlm : (mergeL o a b).1.length < 2 ^ 62) : Ans (Cx e) 4 [x,y,z] (.v (.bool true)) := by
 have c1 := fun me d H => call55 he o ho x hx me d H
 have c2 := fun me d H => call55 he a ha y hy me d H
 have c3 := fun me d H => call55 he b hb z hz me d H
 unfold Ans
 rw [fn_step (fn_4 e) (show Try.f4.body = some _ from rfl)]
 cases h1 : bigR o with
 | true =>
  rw [h1] at c1
  simp -implicitDefEqProofs only [Try.f4,go_sem,↓reduceIte,Int.reduceEq,Int.reduceLT,Int.reduceLE,List.reduceReplicate,intA,setT_nil,setT_cons,c1,hx.cells,hx.flat,hx.bound,hy.cells,hy.flat,hy.bound,hz.cells,hz.flat,hz.bound,↓boolP_bool,↓iteB_true,↓iteB_false]
 | false =>
 rw [h1] at c1
 cases h2 : bigR a with
 | true =>
  rw [h2] at c2
  simp -implicitDefEqProofs only [Try.f4,go_sem,↓reduceIte,Int.reduceEq,Int.reduceLT,Int.reduceLE,List.reduceReplicate,intA,setT_nil,setT_cons,c1,c2,hx.cells,hx.flat,hx.bound,hy.cells,hy.flat,hy.bound,hz.cells,hz.flat,hz.bound,↓boolP_bool,↓iteB_true,↓iteB_false]
 | false =>
 rw [h2] at c2
 cases h3 : bigR b with
 | true =>
  rw [h3] at c3
  simp -implicitDefEqProofs only [Try.f4,go_sem,↓reduceIte,Int.reduceEq,Int.reduceLT,Int.reduceLE,List.reduceReplicate,intA,setT_nil,setT_cons,c1,c2,c3,hx.cells,hx.flat,hx.bound,hy.cells,hy.flat,hy.bound,hz.cells,hz.flat,hz.bound,↓boolP_bool,↓iteB_true,↓iteB_false]
 | false =>
 rw [h3] at c3
 have len_of : ∀ {l : List ByteArray},bigR l = false → l.length ≤ 100000 := by
  intro l hl
  unfold bigR at hl
  rw [Bool.or_eq_false_iff,decide_eq_false_iff_not] at hl
  omega
 simp -implicitDefEqProofs only [Try.f4,go_sem,↓reduceIte,Int.reduceEq,Int.reduceLT,Int.reduceLE,List.reduceReplicate,intA,setT_nil,setT_cons,c1,c2,c3,hx.cells,hx.flat,hx.bound,hy.cells,hy.flat,hy.bound,hz.cells,hz.flat,hz.bound,↓boolP_bool,↓iteB_true,↓iteB_false]
 refine cpyF o (len_of h1) x hx [] _ ?_
 have hx2 := cpyV_of o
 generalize cpyV o = x2 at *
 simp -implicitDefEqProofs only [go_sem,↓reduceIte,Int.reduceEq,Int.reduceLT,Int.reduceLE,List.reduceReplicate,intA,setT_nil,setT_cons,hx.cells,hx.flat,hx.bound,hy.cells,hy.flat,hy.bound,hz.cells,hz.flat,hz.bound,hx2.cells,hx2.flat,hx2.bound,↓boolP_bool,↓iteB_true,↓iteB_false]
 refine cpyF a (len_of h2) y hy [] _ ?_
 have hy2 := cpyV_of a
 generalize cpyV a = y2 at *
 simp -implicitDefEqProofs only [go_sem,↓reduceIte,Int.reduceEq,Int.reduceLT,Int.reduceLE,List.reduceReplicate,intA,setT_nil,setT_cons,hx.cells,hx.flat,hx.bound,hy.cells,hy.flat,hy.bound,hz.cells,hz.flat,hz.bound,hx2.cells,hx2.flat,hx2.bound,hy2.cells,hy2.flat,hy2.bound,↓boolP_bool,↓iteB_true,↓iteB_false]
 refine cpyF b (len_of h3) z hz [] _ ?_
 have hz2 := cpyV_of b
 generalize cpyV b = z2 at *
 obtain ⟨m,hm,hA⟩ := h15
 obtain ⟨u,Y0,c14,hYl,hYr⟩ := liveT_call (me := 4) (d := some 39) (fn18T he o a b ho ha hb x2 y2 z2 hx2 hy2 hz2) (ext_14 he) rfl
 generalize hYe : settleH 0 Y0 = Y at hYl hYr
 obtain ⟨N,hN⟩ : ∃ N,Y.size = N := ⟨_,rfl⟩
 have c15 := fun me d H => hA.call (me := me) (d := d) (ext_15 he) (pure_15 _ _ _) (by rw [boundL_cons,boundL_cons,boundL_cons,hx.bound,hy.bound,hz.bound];rfl) H
 have s1 := fun me d H => call15 he o o ho.1 x2 x hx2 hx me d H
 have s2 := fun me d H => call15 he a a ha.1 y2 y hy2 hy me d H
 have s3 := fun me d H => call15 he b b hb.1 z2 z hz2 hz me d H
 rw [decide_eq_true rfl] at s1 s2 s3
 generalize (mergeL o a b).1 = L at *
 generalize (mergeL o a b).2 = n at *
 rcases hYr with ⟨hL0,hu⟩ | ⟨hL0,bb, -,rfl,hg⟩
 ·subst hL0
  have s4 := fun me d H => call15 he [] [] (by decide) u m hu hm me d H
  rw [decide_eq_true rfl] at s4
  have hlu : slLen u = some (.v (.int .i64 0)) := hu.len
  simp -implicitDefEqProofs only [go_sem,↓reduceIte,Int.reduceEq,Int.reduceLT,Int.reduceLE,List.reduceReplicate,intA,setT_nil,setT_cons,c14,hYe,hN,settle_eqN hN,trim_eqN hN,c15,s4,hlu,hu.cells,hu.flat,hu.bound,hm.cells,hm.flat,hm.bound,hz2.cells,hz2.flat,hz2.bound,hx.cells,hx.flat,hx.bound,hy.cells,hy.flat,hy.bound,hz.cells,hz.flat,hz.bound,hx2.cells,hx2.flat,hx2.bound,hy2.cells,hy2.flat,hy2.bound,decide_true,↓boolP_bool,↓iteB_true,↓iteB_false]
  refine Lp_ruleQ (P := fun μ a H => μ = 0 ∧ a = ⟨82,[(0,x),(1,y),(2,z),(6,.v (.bool false)),(25,.v (.bool false)),(7,x2),(8,y2),(9,z2),(10,u),(11,.v (.int .i64 (n : Nat))),(12,m),(13,.v (.int .i64 (n : Nat))),(14,.v (.bool true)),(58,.v (.int .i64 0)),(59,.v (.int .i64 0))],[]⟩ ∧ Y = H) ?_ 0 _ _ ⟨rfl,rfl,rfl⟩
  rintro Q KK hQ hKK μ _ _ ⟨rfl,rfl,rfl⟩
  simp -implicitDefEqProofs only [go_sem,↓reduceIte,Int.reduceEq,Int.reduceLT,Int.reduceLE,List.reduceReplicate,intA,setT_nil,setT_cons,hN,settle_eqN hN,trim_eqN hN,hu.cells,hu.flat,hu.bound,show ¬ ((0 : Int) < 0) by decide,hx.cells,hx.flat,hx.bound,hy.cells,hy.flat,hy.bound,hz.cells,hz.flat,hz.bound,hx2.cells,hx2.flat,hx2.bound,hy2.cells,hy2.flat,hy2.bound,hz2.cells,hz2.flat,hz2.bound,hm.cells,hm.flat,hm.bound,↓boolP_bool,↓iteB_true,↓iteB_false]
  refine hKK _ _ _ ?_
  simp -implicitDefEqProofs only [go_sem,↓reduceIte,Int.reduceEq,Int.reduceLT,Int.reduceLE,List.reduceReplicate,intA,setT_nil,setT_cons,hN,settle_eqN hN,trim_eqN hN,s1,s2,s3,hu.cells,hu.flat,hu.bound,hx.cells,hx.flat,hx.bound,hy.cells,hy.flat,hy.bound,hz.cells,hz.flat,hz.bound,hx2.cells,hx2.flat,hx2.bound,hy2.cells,hy2.flat,hy2.bound,hz2.cells,hz2.flat,hz2.bound,hm.cells,hm.flat,hm.bound,↓boolP_bool,↓iteB_true,↓iteB_false]
 ·have s4 := fun me d => call15L he L (by omega) m hm Y bb hg me d
  have hlu : slLen (.sl bb 0 0 L.length none) = some (.v (.int .i64 (L.length : Nat))) := rfl
  simp -implicitDefEqProofs only [go_sem,↓reduceIte,Int.reduceEq,Int.reduceLT,Int.reduceLE,List.reduceReplicate,intA,setT_nil,setT_cons,c14,hYe,hN,settle_eqN hN,trim_eqN hN,c15,s4,hlu,hm.cells,hm.flat,hm.bound,hz2.cells,hz2.flat,hz2.bound,hx.cells,hx.flat,hx.bound,hy.cells,hy.flat,hy.bound,hz.cells,hz.flat,hz.bound,hx2.cells,hx2.flat,hx2.bound,hy2.cells,hy2.flat,hy2.bound,decide_true,↓boolP_bool,↓iteB_true,↓iteB_false]
  refine Lp_ruleQ (P := fun μ a H => ∃ j L',j + μ = L.length ∧ L'.length = L.length ∧ a = ⟨82,[(0,x),(1,y),(2,z),(6,.v (.bool false)),(25,.v (.bool false)),(7,x2),(8,y2),(9,z2),(10,.sl bb 0 0 L.length none),(11,.v (.int .i64 (n : Nat))),(12,m),(13,.v (.int .i64 (n : Nat))),(14,.v (.bool true)),(58,.v (.int .i64 (L.length : Nat))),(59,.v (.int .i64 (j : Nat)))],[]⟩ ∧ H.size = N ∧ H.lock = 0 ∧ H.get bb = some (rowO L')) ?_ L.length _ _ ⟨0,L,by omega,rfl,rfl,hN,hYl,hg⟩
  clear hg s4 hYe hYl hN c14
  rintro Q KK hQ hKK μ _ H ⟨j,L',hj,hL',rfl,hN,hHl,hg⟩
  cases μ with
  | zero =>
   obtain rfl : j = L.length := by omega
   have hlt : ¬ (L.length : Int) < (L.length : Int) := by omega
   simp -implicitDefEqProofs only [go_sem,↓reduceIte,Int.reduceEq,Int.reduceLT,Int.reduceLE,List.reduceReplicate,intA,setT_nil,setT_cons,hN,settle_eqN hN,trim_eqN hN,hlt,hx.cells,hx.flat,hx.bound,hy.cells,hy.flat,hy.bound,hz.cells,hz.flat,hz.bound,hx2.cells,hx2.flat,hx2.bound,hy2.cells,hy2.flat,hy2.bound,hz2.cells,hz2.flat,hz2.bound,hm.cells,hm.flat,hm.bound,↓boolP_bool,↓iteB_true,↓iteB_false]
   refine hKK _ _ _ ?_
   simp -implicitDefEqProofs only [go_sem,↓reduceIte,Int.reduceEq,Int.reduceLT,Int.reduceLE,List.reduceReplicate,intA,setT_nil,setT_cons,hN,settle_eqN hN,trim_eqN hN,s1,s2,s3,hx.cells,hx.flat,hx.bound,hy.cells,hy.flat,hy.bound,hz.cells,hz.flat,hz.bound,hx2.cells,hx2.flat,hx2.bound,hy2.cells,hy2.flat,hy2.bound,hz2.cells,hz2.flat,hz2.bound,hm.cells,hm.flat,hm.bound,↓boolP_bool,↓iteB_true,↓iteB_false]
   done
  | succ μ =>
   have hlt : (j : Int) < (L.length : Int) := by omega
   have hsx : slIdx 1 (.sl bb 0 0 L.length none) (.v (.int .i64 (j : Nat))) = some (.ptr bb 0 j) := by
    unfold slIdx
    simp only [Int.toNat_natCast]
    rw [if_pos (by omega)]
    congr 2
    omega
   have hst := storeRow hg hHl (by omega : j < L'.length) ⟨#[122,122]⟩
   have hw := wrap_succ j (by omega)
   simp -implicitDefEqProofs only [go_sem,↓reduceIte,Int.reduceEq,Int.reduceLT,Int.reduceLE,List.reduceReplicate,intA,setT_nil,setT_cons,hN,settle_eqN hN,trim_eqN hN,hlt,hsx,hst,hw,hx.cells,hx.flat,hx.bound,hy.cells,hy.flat,hy.bound,hz.cells,hz.flat,hz.bound,hx2.cells,hx2.flat,hx2.bound,hy2.cells,hy2.flat,hy2.bound,hz2.cells,hz2.flat,hz2.bound,hm.cells,hm.flat,hm.bound,↓boolP_bool,↓iteB_true,↓iteB_false]
   have hbN := get_lt hg
   have hpS : (H.put bb (rowO (L'.take j ++ ⟨#[122,122]⟩ :: L'.drop (j + 1)))).size = N := by
    rw [← hN]
    unfold Heap.put Heap.size
    exact sop_len hbN
   rw [settle_eqN hpS,trim_eqN hpS]
   refine Again.mk' μ (by omega) (hQ _ _ _ ⟨j + 1,L'.take j ++ ⟨#[122,122]⟩ :: L'.drop (j + 1),by omega, ?_,rfl,hpS,hHl,put_get_eq _ (by omega)⟩)
   rw [List.length_append,List.length_cons,List.length_take,List.length_drop]
   omega
end Go.Ev
namespace Go.Ev
open Go.Proofs
attribute [local irreducible] Wp WpS
theorem frzH {H : Heap} {p : AV} {xs : List AV} (hp : SlOf 1 xs p) (a b : Int) : freezeV H 1000000 (.agg [.v (.int .i64 a),.v (.int .i64 b),p]) = some (.agg [.v (.int .i64 a),.v (.int .i64 b),p]) := by
 have h1 : freezeV H 999996 p = some p := by rcases hp with ⟨rfl, -⟩ | ⟨cap,rfl⟩ <;> rfl
 have h4 : freezeL H 999999 [.v (.int .i64 a),.v (.int .i64 b),p] = some [.v (.int .i64 a),.v (.int .i64 b),p] := by
  have h2 : freezeV H 999998 (.v (.int .i64 a)) = some (.v (.int .i64 a)) := rfl
  have h3 : freezeV H 999997 (.v (.int .i64 b)) = some (.v (.int .i64 b)) := rfl
  simp only [freezeL,h1,h2,h3]
 show (freezeL H 999999 _).map AV.agg = _
 rw [h4];rfl
theorem rev_get (t : List ByteArray) (q n : Nat) (h : n < t.length - q) : ((t.drop q).reverse)[n]? = t[t.length - 1 - n]? := by
 rw [List.getElem?_reverse (by rw [List.length_drop];omega),List.getElem?_drop,List.length_drop]
 congr 1
 omega
theorem ansP39 {e : Exts} (_he : Quiet e) (l m : List ByteArray) (hl : l.length < 100000) (hm : m.length < 100000) (x y : AV) (hx : SlOf 1 (strs l) x) (hy : SlOf 1 (strs m) y) : ∃ v,HunkA (hunkL l m) v ∧ Ans (Cx e) 39 [x,y] v := by
 have hlx := hx.len
 have hly := hy.len
 rw [strs_len] at hlx hly
 refine ⟨.agg [.v (.int .i64 (hunkL l m).1),.v (.int .i64 (hunkL l m).2.1),cpyV (hunkL l m).2.2],⟨_,rfl,cpyV_of _⟩, ?_⟩
 unfold Ans
 rw [fn_step (fn_39 e) (show Try.f39.body = some _ from rfl)]
 simp -implicitDefEqProofs only [Try.f39,go_sem,↓reduceIte,Int.reduceEq,Int.reduceLT,Int.reduceLE,List.reduceReplicate,intA,setT_nil,setT_cons,hx.cells,hx.flat,hx.bound,hy.cells,hy.flat,hy.bound,hlx,hly,↓boolP_bool,↓iteB_true,↓iteB_false]
 obtain ⟨k1,k2⟩ := comN_le l m
 refine Lp_ruleQ (P := fun μ a H => ∃ j,j + μ = l.length ∧ j ≤ m.length ∧ comN l m = comN (l.drop j) (m.drop j) + j ∧ a = ⟨82,[(0,x),(1,y),(4,.ptr 0 0 0),(5,.v (.int .i64 (j : Nat)))],[]⟩ ∧ H = cell39) ?_ l.length _ _ ⟨0,by omega,by omega,rfl,rfl,rfl⟩
 rintro Q KK hQ hKK μ _ _ ⟨j,hj,hjm,hall,rfl,rfl⟩
 have stop : comN (l.drop j) (m.drop j) = 0 → AtK KK (.exit 0) ⟨82,[(0,x),(1,y),(4,.ptr 0 0 0),(5,.v (.int .i64 (j : Nat)))],[]⟩ cell39 := by
  intro h0
  rw [h0,Nat.zero_add] at hall
  clear hQ hj
  subst hall
  refine hKK _ _ _ ?_
  simp -implicitDefEqProofs only [go_sem,↓reduceIte,Int.reduceEq,Int.reduceLT,Int.reduceLE,List.reduceReplicate,intA,setT_nil,setT_cons,cell39,hx.cells,hx.flat,hx.bound,hy.cells,hy.flat,hy.bound,hlx,hly,↓boolP_bool,↓iteB_true,↓iteB_false]
  generalize hq : comN l m = q at *
  have w1 : IntKind.i64.wrap ((l.length : Int) - (q : Int)) = ((l.length - q : Nat) : Int) := by rw [wrap_in _ (by omega) (by omega)];omega
  have w2 : IntKind.i64.wrap ((m.length : Int) - (q : Int)) = ((m.length - q : Nat) : Int) := by rw [wrap_in _ (by omega) (by omega)];omega
  have hh : hunkL l m = (q,(l.drop q).length - comN (l.drop q).reverse (m.drop q).reverse,(m.drop q).take ((m.drop q).length - comN (l.drop q).reverse (m.drop q).reverse)) := by unfold hunkL;rw [hq]
  refine Lp_ruleQ (P := fun μ a H => ∃ n,n + μ = l.length - q ∧ n ≤ m.length - q ∧ comN (l.drop q).reverse (m.drop q).reverse = comN ((l.drop q).reverse.drop n) ((m.drop q).reverse.drop n) + n ∧ a = ⟨82,[(0,x),(1,y),(4,.ptr 0 0 0),(5,.v (.int .i64 (q : Nat))),(6,.v (.int .i64 (n : Nat)))],[]⟩ ∧ H = cell39) ?_ (l.length - q) _ _ ⟨0,by omega,by omega,rfl,rfl,rfl⟩
  rintro Q2 K2 hQ2 hK2 μ2 _ _ ⟨n,hn,hnm,hall2,rfl,rfl⟩
  have stop2 : comN ((l.drop q).reverse.drop n) ((m.drop q).reverse.drop n) = 0 → AtK K2 (.exit 2) ⟨82,[(0,x),(1,y),(4,.ptr 0 0 0),(5,.v (.int .i64 (q : Nat))),(6,.v (.int .i64 (n : Nat)))],[]⟩ cell39 := by
   intro h0
   rw [h0,Nat.zero_add] at hall2
   rw [hall2,List.length_drop,List.length_drop] at hh
   refine hK2 _ _ _ ?_
   have w3 : IntKind.i64.wrap (((l.length - q : Nat) : Int) - (n : Int)) = ((l.length - q - n : Nat) : Int) := by rw [wrap_in _ (by omega) (by omega)];omega
   have w4 : IntKind.i64.wrap ((m.length : Int) - (n : Int)) = ((m.length - n : Nat) : Int) := by rw [wrap_in _ (by omega) (by omega)];omega
   obtain ⟨z,hz1,hz2⟩ := slice22B hy q (m.length - n) (by omega) (by rw [strs_len];omega)
   rw [strs_take,strs_drop,List.drop_take,show m.length - n - q = m.length - q - n by omega] at hz2
   rw [hh]
   have hPl : ((m.drop q).take (m.length - q - n)).length ≤ 100000 := by rw [List.length_take,List.length_drop];omega
   generalize (m.drop q).take (m.length - q - n) = P at *
   simp -implicitDefEqProofs only [go_sem,↓reduceIte,Int.reduceEq,Int.reduceLT,Int.reduceLE,List.reduceReplicate,intA,setT_nil,setT_cons,cell39,w1,w3,w4,hz1,hz2.cells,hz2.flat,hz2.bound,hx.lenI,hy.lenI,hx.cells,hx.flat,hx.bound,hy.cells,hy.flat,hy.bound,hlx,hly,↓boolP_bool,↓iteB_true,↓iteB_false]
   refine cpyF P hPl z hz2 [_] _ ?_
   have hp2 := cpyV_of P
   generalize cpyV P = p at *
   simp -implicitDefEqProofs only [go_sem,↓reduceIte,Int.reduceEq,Int.reduceLT,Int.reduceLE,List.reduceReplicate,intA,setT_nil,setT_cons,hp2.cells,hp2.flat,hp2.bound,hz2.cells,hz2.flat,hz2.bound,hx.lenI,hy.lenI,hx.cells,hx.flat,hx.bound,hy.cells,hy.flat,hy.bound,hlx,hly,↓boolP_bool,↓iteB_true,↓iteB_false]
   exact frzH hp2 _ _
  unfold cell39 at *
  have hwn := wrap_succ n (by omega)
  have w5 : 1 ≤ l.length → IntKind.i64.wrap ((l.length : Int) - 1) = ((l.length - 1 : Nat) : Int) := fun h => by rw [wrap_in _ (by omega) (by omega)];omega
  have w6 : 1 ≤ m.length → IntKind.i64.wrap ((m.length : Int) - 1) = ((m.length - 1 : Nat) : Int) := fun h => by rw [wrap_in _ (by omega) (by omega)];omega
  have zero2 : (l.length - q ≤ n ∨ m.length - q ≤ n) → comN ((l.drop q).reverse.drop n) ((m.drop q).reverse.drop n) = 0 := fun h => by
   have h2 := comN_le ((l.drop q).reverse.drop n) ((m.drop q).reverse.drop n)
   rw [List.length_drop,List.length_drop,List.length_reverse,List.length_reverse,List.length_drop,List.length_drop] at h2
   omega
  by_cases hnl : n < l.length - q
  ·have hlt : (n : Int) < ((l.length - q : Nat) : Int) := by omega
   by_cases hnm2 : n < m.length - q
   ·have hlt2 : (n : Int) < ((m.length - q : Nat) : Int) := by omega
    obtain ⟨r,hr⟩ := at_lt l (l.length - 1 - n) (by omega)
    obtain ⟨s,hs⟩ := at_lt m (m.length - 1 - n) (by omega)
    have hr2 := (rev_get l q n hnl).trans hr
    have hs2 := (rev_get m q n hnm2).trans hs
    have hix := hx.idx (strs_get hr)
    have hiy := hy.idx (strs_get hs)
    have w5 := w5 (by omega)
    have w6 := w6 (by omega)
    have w7 : IntKind.i64.wrap (((l.length - 1 : Nat) : Int) - (n : Int)) = ((l.length - 1 - n : Nat) : Int) := by rw [wrap_in _ (by omega) (by omega)];omega
    have w8 : IntKind.i64.wrap (((m.length - 1 : Nat) : Int) - (n : Int)) = ((m.length - 1 - n : Nat) : Int) := by rw [wrap_in _ (by omega) (by omega)];omega
    have hcm : comN ((l.drop q).reverse.drop n) ((m.drop q).reverse.drop n) = if r = s then comN ((l.drop q).reverse.drop (n + 1)) ((m.drop q).reverse.drop (n + 1)) + 1 else 0 := by rw [drop_eq_cons hr2,drop_eq_cons hs2,comN]
    simp -implicitDefEqProofs only [go_sem,↓reduceIte,Int.reduceEq,Int.reduceLT,Int.reduceLE,List.reduceReplicate,intA,setT_nil,setT_cons,hx.lenI,hy.lenI,hx.cells,hx.flat,hx.bound,hy.cells,hy.flat,hy.bound,hlx,hly,↓boolP_bool,↓iteB_true,↓iteB_false]
    refine wp_drawX [([],[],false),([],[],false),([],[],false),([],[],false),([],[],false),([],[],false),([],[],false),([],[],false),([],[],false),([],[],false),([],[],false),([],[],false),([],[],false),([],[],false),([],[],false),([],[],false),([],[],false),([],[],false),([],[],false),([],[],false),([],[],false),([],[],false),([],[],false),([],[],false),([],[],false),([17,22],[],false),([],[],false),([],[],false),([],[],false),([],[],false),([17,22],[],false),([],[],false),([],[],false)] (by kernel_rfl) (by kernel_rfl) ?_
    by_cases hd : r = s
    ·subst hd
     rw [if_pos rfl] at hcm
     simp -implicitDefEqProofs only [go_sem,↓reduceIte,Int.reduceEq,Int.reduceLT,Int.reduceLE,List.reduceReplicate,intA,setT_nil,setT_cons,hlt,hlt2,w1,w2,w5,w6,w7,w8,hix,hiy,hwn,decide_true,hx.lenI,hy.lenI,hx.cells,hx.flat,hx.bound,hy.cells,hy.flat,hy.bound,hlx,hly,↓boolP_bool,↓iteB_true,↓iteB_false]
     exact Again.mk' (μ2 - 1) (by omega) (hQ2 _ _ _ ⟨n + 1,by omega,by omega,by omega,rfl,rfl⟩)
    ·rw [if_neg hd] at hcm
     simp -implicitDefEqProofs only [go_sem,↓reduceIte,Int.reduceEq,Int.reduceLT,Int.reduceLE,List.reduceReplicate,intA,setT_nil,setT_cons,hlt,hlt2,w1,w2,w5,w6,w7,w8,hix,hiy,decide_true,decide_eq_false hd,hx.lenI,hy.lenI,hx.cells,hx.flat,hx.bound,hy.cells,hy.flat,hy.bound,hlx,hly,↓boolP_bool,↓iteB_true,↓iteB_false]
     exact stop2 hcm
   ·have hlt2 : ¬ (n : Int) < ((m.length - q : Nat) : Int) := by omega
    simp -implicitDefEqProofs only [go_sem,↓reduceIte,Int.reduceEq,Int.reduceLT,Int.reduceLE,List.reduceReplicate,intA,setT_nil,setT_cons,hx.lenI,hy.lenI,hx.cells,hx.flat,hx.bound,hy.cells,hy.flat,hy.bound,hlx,hly,↓boolP_bool,↓iteB_true,↓iteB_false]
    refine wp_drawX [([],[],false),([],[],false),([],[],false),([],[],false),([],[],false),([],[],false),([],[],false),([],[],false),([],[],false),([],[],false),([],[],false),([],[],false),([],[],false),([],[],false),([],[],false),([],[],false),([],[],false),([],[],false),([],[],false),([],[],false),([],[],false),([],[],false),([],[],false),([],[],false),([],[],false),([17,22],[],false),([],[],false),([],[],false),([],[],false),([],[],false),([17,22],[],false),([],[],false),([],[],false)] (by kernel_rfl) (by kernel_rfl) ?_
    simp -implicitDefEqProofs only [go_sem,↓reduceIte,Int.reduceEq,Int.reduceLT,Int.reduceLE,List.reduceReplicate,intA,setT_nil,setT_cons,hlt,hlt2,w1,w2,decide_true,decide_false,hx.lenI,hy.lenI,hx.cells,hx.flat,hx.bound,hy.cells,hy.flat,hy.bound,hlx,hly,↓boolP_bool,↓iteB_true,↓iteB_false]
    exact stop2 (zero2 (Or.inr (by omega)))
  ·have hlt : ¬ (n : Int) < ((l.length - q : Nat) : Int) := by omega
   simp -implicitDefEqProofs only [go_sem,↓reduceIte,Int.reduceEq,Int.reduceLT,Int.reduceLE,List.reduceReplicate,intA,setT_nil,setT_cons,hx.lenI,hy.lenI,hx.cells,hx.flat,hx.bound,hy.cells,hy.flat,hy.bound,hlx,hly,↓boolP_bool,↓iteB_true,↓iteB_false]
   refine wp_drawX [([],[],false),([],[],false),([],[],false),([],[],false),([],[],false),([],[],false),([],[],false),([],[],false),([],[],false),([],[],false),([],[],false),([],[],false),([],[],false),([],[],false),([],[],false),([],[],false),([],[],false),([],[],false),([],[],false),([],[],false),([],[],false),([],[],false),([],[],false),([],[],false),([],[],false),([17,22],[],false),([],[],false),([],[],false),([],[],false),([],[],false),([17,22],[],false),([],[],false),([],[],false)] (by kernel_rfl) (by kernel_rfl) ?_
   simp -implicitDefEqProofs only [go_sem,↓reduceIte,Int.reduceEq,Int.reduceLT,Int.reduceLE,List.reduceReplicate,intA,setT_nil,setT_cons,hlt,w1,w2,decide_false,hx.lenI,hy.lenI,hx.cells,hx.flat,hx.bound,hy.cells,hy.flat,hy.bound,hlx,hly,↓boolP_bool,↓iteB_true,↓iteB_false]
   exact stop2 (zero2 (Or.inl (by omega)))
 unfold cell39 at *
 by_cases hjl : j < l.length
 ·have hlt : (j : Int) < (l.length : Int) := by omega
  obtain ⟨r,hr⟩ := at_lt l j hjl
  have hix := hx.idx (strs_get hr)
  have hw := wrap_succ j (by omega)
  by_cases hjm2 : j < m.length
  ·have hlt2 : (j : Int) < (m.length : Int) := by omega
   obtain ⟨s,hs⟩ := at_lt m j hjm2
   have hiy := hy.idx (strs_get hs)
   have hcm : comN (l.drop j) (m.drop j) = if r = s then comN (l.drop (j + 1)) (m.drop (j + 1)) + 1 else 0 := by rw [drop_eq_cons hr,drop_eq_cons hs,comN]
   simp -implicitDefEqProofs only [go_sem,↓reduceIte,Int.reduceEq,Int.reduceLT,Int.reduceLE,List.reduceReplicate,intA,setT_nil,setT_cons,hx.cells,hx.flat,hx.bound,hy.cells,hy.flat,hy.bound,hlx,hly,↓boolP_bool,↓iteB_true,↓iteB_false]
   refine wp_drawX [([],[],false),([],[],false),([],[],false),([],[],false),([],[],false),([],[],false),([],[],false),([],[],false),([],[],false),([],[],false),([],[],false),([],[],false),([],[],false),([],[],false),([],[],false),([],[],false),([],[],false),([],[],false),([14],[],false),([],[],false),([],[],false)] (by kernel_rfl) (by kernel_rfl) ?_
   by_cases hd : r = s
   ·subst hd
    rw [if_pos rfl] at hcm
    simp -implicitDefEqProofs only [go_sem,↓reduceIte,Int.reduceEq,Int.reduceLT,Int.reduceLE,List.reduceReplicate,intA,setT_nil,setT_cons,hx.lenI,hy.lenI,hlt,hlt2,hix,hiy,hw,decide_true,hx.cells,hx.flat,hx.bound,hy.cells,hy.flat,hy.bound,hlx,hly,↓boolP_bool,↓iteB_true,↓iteB_false]
    exact Again.mk' (μ - 1) (by omega) (hQ _ _ _ ⟨j + 1,by omega,by omega,by omega,rfl,rfl⟩)
   ·rw [if_neg hd] at hcm
    simp -implicitDefEqProofs only [go_sem,↓reduceIte,Int.reduceEq,Int.reduceLT,Int.reduceLE,List.reduceReplicate,intA,setT_nil,setT_cons,hx.lenI,hy.lenI,hlt,hlt2,hix,hiy,decide_true,decide_eq_false hd,hx.cells,hx.flat,hx.bound,hy.cells,hy.flat,hy.bound,hlx,hly,↓boolP_bool,↓iteB_true,↓iteB_false]
    exact stop hcm
  ·have hlt2 : ¬ (j : Int) < (m.length : Int) := by omega
   have h0 : comN (l.drop j) (m.drop j) = 0 := by
    have h := comN_le (l.drop j) (m.drop j)
    rw [List.length_drop,List.length_drop] at h;omega
   simp -implicitDefEqProofs only [go_sem,↓reduceIte,Int.reduceEq,Int.reduceLT,Int.reduceLE,List.reduceReplicate,intA,setT_nil,setT_cons,hx.cells,hx.flat,hx.bound,hy.cells,hy.flat,hy.bound,hlx,hly,↓boolP_bool,↓iteB_true,↓iteB_false]
   refine wp_drawX [([],[],false),([],[],false),([],[],false),([],[],false),([],[],false),([],[],false),([],[],false),([],[],false),([],[],false),([],[],false),([],[],false),([],[],false),([],[],false),([],[],false),([],[],false),([],[],false),([],[],false),([],[],false),([14],[],false),([],[],false),([],[],false)] (by kernel_rfl) (by kernel_rfl) ?_
   simp -implicitDefEqProofs only [go_sem,↓reduceIte,Int.reduceEq,Int.reduceLT,Int.reduceLE,List.reduceReplicate,intA,setT_nil,setT_cons,hx.lenI,hy.lenI,hlt,hlt2,hix,decide_true,decide_false,hx.cells,hx.flat,hx.bound,hy.cells,hy.flat,hy.bound,hlx,hly,↓boolP_bool,↓iteB_true,↓iteB_false]
   exact stop h0
 ·have hlt : ¬ (j : Int) < (l.length : Int) := by omega
  have h0 : comN (l.drop j) (m.drop j) = 0 := by
   have h := comN_le (l.drop j) (m.drop j)
   rw [List.length_drop,List.length_drop] at h;omega
  simp -implicitDefEqProofs only [go_sem,↓reduceIte,Int.reduceEq,Int.reduceLT,Int.reduceLE,List.reduceReplicate,intA,setT_nil,setT_cons,hx.cells,hx.flat,hx.bound,hy.cells,hy.flat,hy.bound,hlx,hly,↓boolP_bool,↓iteB_true,↓iteB_false]
  refine wp_drawX [([],[],false),([],[],false),([],[],false),([],[],false),([],[],false),([],[],false),([],[],false),([],[],false),([],[],false),([],[],false),([],[],false),([],[],false),([],[],false),([],[],false),([],[],false),([],[],false),([],[],false),([],[],false),([14],[],false),([],[],false),([],[],false)] (by kernel_rfl) (by kernel_rfl) ?_
  simp -implicitDefEqProofs only [go_sem,↓reduceIte,Int.reduceEq,Int.reduceLT,Int.reduceLE,List.reduceReplicate,intA,setT_nil,setT_cons,hx.lenI,hy.lenI,hlt,decide_false,hx.cells,hx.flat,hx.bound,hy.cells,hy.flat,hy.bound,hlx,hly,↓boolP_bool,↓iteB_true,↓iteB_false]
  exact stop h0
end Go.Ev
namespace Go.Ev
open Go.Proofs
attribute [local irreducible] Wp WpS
theorem rows_chL {l : List ByteArray} {h : Hnk} (hl : ∀ r ∈ l,rowB r = true) (hp : ∀ r ∈ h.2.2,rowB r = true) : ∀ r ∈ chL l h,rowB r = true := by
 intro r hr
 unfold chL at hr
 rcases List.mem_append.1 hr with hr | hr
 ·exact hl r (List.mem_of_mem_take hr)
 ·rcases List.mem_append.1 hr with hr | hr
  ·exact hp r hr
  ·exact hl r (List.mem_of_mem_drop hr)
theorem rows_put {o a : List ByteArray} (ha : rowsB a = true) : ∀ r ∈ (hunkL o a).2.2,rowB r = true := by
 intro r hr
 refine rowsB_all ha r ?_
 unfold hunkL at hr
 exact List.mem_of_mem_drop (List.mem_of_mem_take hr)
theorem rows_is {L : List ByteArray} (h : ∀ r ∈ L,rowB r = true) : rowsB L = decide (L.length ≤ 200) := by
 unfold rowsB
 rw [List.all_eq_true.2 h,Bool.and_true]
theorem fits_rows {L : List ByteArray} (h : ∀ r ∈ L,rowB r = true) (hl : L.length < 2 ^ 63) : FitsR L := by
 refine ⟨hl,fun r hr => ?_⟩
 have := ((rows_of (l := [r]) (by rw [rows_one];exact h r hr)).2 r (List.mem_singleton.2 rfl)).2.1
 omega
theorem frzT {xs : List AV} {x : AV} (h : SlOf 1 xs x) (H : Heap) (y : Value) : freezeV H 1000000 (.tup [x,.v y]) = some (.tup [x,.v y]) := by
 rcases h with ⟨rfl, -⟩ | ⟨cap,rfl⟩ <;> rfl
theorem ansP15 {e : Exts} (he : Quiet e) (o a b : List ByteArray) (ho : FitsR o) (ha : FitsR a) (hb : FitsR b) (x y z : AV) (hx : SlOf 1 (strs o) x) (hy : SlOf 1 (strs a) y) (hz : SlOf 1 (strs b) z) : ∃ v,SlOf 1 (strs (mergeL o a b).1) v ∧ Ans (Cx e) 15 [x,y,z] (.tup [v,.v (.int .i64 ((mergeL o a b).2 : Nat))]) := by
 have c50x := fun me d H => call38 he o ho x hx me d H
 have c50y := fun me d H => call38 he a ha y hy me d H
 have c50z := fun me d H => call38 he b hb z hz me d H
 unfold mergeL
 have bad : rowsB o = false ∨ (rowsB o = true ∧ rowsB a = false) ∨ (rowsB o = true ∧ rowsB a = true ∧ rowsB b = false) ∨ (rowsB o = true ∧ rowsB a = true ∧ rowsB b = true) := by
  cases rowsB o <;> cases rowsB a <;> cases rowsB b <;> simp
 rcases bad with h1 | ⟨h1,h2⟩ | ⟨h1,h2,h3⟩ | ⟨h1,h2,h3⟩
 ·rw [h1] at c50x
  rw [if_neg (by simp [h1])]
  refine ⟨_,Or.inl ⟨rfl,rfl⟩, ?_⟩
  unfold Ans
  rw [fn_step (fn_15 e) (show Try.f15.body = some _ from rfl)]
  simp -implicitDefEqProofs only [Try.f15,go_sem,↓reduceIte,Int.reduceEq,Int.reduceLT,Int.reduceLE,List.reduceReplicate,intA,setT_nil,setT_cons,c50x,c50y,c50z,hx.cells,hx.flat,hx.bound,hy.cells,hy.flat,hy.bound,hz.cells,hz.flat,hz.bound,Bool.not_false,Bool.not_true,decide_true,decide_false,↓boolP_bool,↓iteB_true,↓iteB_false]
  rfl
 ·rw [h1] at c50x
  rw [h2] at c50y
  rw [if_neg (by simp [h2])]
  refine ⟨_,Or.inl ⟨rfl,rfl⟩, ?_⟩
  unfold Ans
  rw [fn_step (fn_15 e) (show Try.f15.body = some _ from rfl)]
  simp -implicitDefEqProofs only [Try.f15,go_sem,↓reduceIte,Int.reduceEq,Int.reduceLT,Int.reduceLE,List.reduceReplicate,intA,setT_nil,setT_cons,c50x,c50y,c50z,hx.cells,hx.flat,hx.bound,hy.cells,hy.flat,hy.bound,hz.cells,hz.flat,hz.bound,Bool.not_false,Bool.not_true,decide_true,decide_false,↓boolP_bool,↓iteB_true,↓iteB_false]
  rfl
 ·rw [h1] at c50x
  rw [h2] at c50y
  rw [h3] at c50z
  rw [if_neg (by simp [h3])]
  refine ⟨_,Or.inl ⟨rfl,rfl⟩, ?_⟩
  unfold Ans
  rw [fn_step (fn_15 e) (show Try.f15.body = some _ from rfl)]
  simp -implicitDefEqProofs only [Try.f15,go_sem,↓reduceIte,Int.reduceEq,Int.reduceLT,Int.reduceLE,List.reduceReplicate,intA,setT_nil,setT_cons,c50x,c50y,c50z,hx.cells,hx.flat,hx.bound,hy.cells,hy.flat,hy.bound,hz.cells,hz.flat,hz.bound,Bool.not_false,Bool.not_true,decide_true,decide_false,↓boolP_bool,↓iteB_true,↓iteB_false]
  rfl
 ·rw [h1] at c50x
  rw [h2] at c50y
  rw [h3] at c50z
  rw [if_pos ⟨h1,h2,h3⟩]
  obtain ⟨lo, -⟩ := rows_of h1
  obtain ⟨la, -⟩ := rows_of h2
  obtain ⟨lb, -⟩ := rows_of h3
  have cao := fun me d H => call15 he a o (by omega) y x hy hx me d H
  have cab := fun me d H => call15 he a b (by omega) y z hy hz me d H
  have cbo := fun me d H => call15 he b o (by omega) z x hz hx me d H
  by_cases e1 : a = o
  ·rw [if_pos (Or.inl e1)]
   rw [decide_eq_true e1] at cao
   refine ⟨cpyV b,cpyV_of b, ?_⟩
   unfold Ans
   rw [fn_step (fn_15 e) (show Try.f15.body = some _ from rfl)]
   simp -implicitDefEqProofs only [Try.f15,go_sem,↓reduceIte,Int.reduceEq,Int.reduceLT,Int.reduceLE,List.reduceReplicate,intA,setT_nil,setT_cons,c50x,c50y,c50z,cao,hx.cells,hx.flat,hx.bound,hy.cells,hy.flat,hy.bound,hz.cells,hz.flat,hz.bound,Bool.not_false,Bool.not_true,decide_true,decide_false,↓boolP_bool,↓iteB_true,↓iteB_false]
   refine cpyF b (by omega) z hz [] _ ?_
   have hp2 := cpyV_of b
   generalize cpyV b = p at *
   simp -implicitDefEqProofs only [go_sem,↓reduceIte,Int.reduceEq,Int.reduceLT,Int.reduceLE,List.reduceReplicate,intA,setT_nil,setT_cons,hp2.cells,hp2.flat,hp2.bound,hx.cells,hx.flat,hx.bound,hy.cells,hy.flat,hy.bound,hz.cells,hz.flat,hz.bound,Bool.not_false,Bool.not_true,decide_true,decide_false,↓boolP_bool,↓iteB_true,↓iteB_false]
   exact frzT hp2 _ _
  rw [decide_eq_false e1] at cao
  by_cases e3 : b = o
  ·rw [decide_eq_true e3] at cbo
   have e2 : ¬ a = b := fun h => e1 (h.trans e3)
   rw [if_neg (by simp [e1,e2]),if_pos e3]
   refine ⟨cpyV a,cpyV_of a, ?_⟩
   unfold Ans
   rw [fn_step (fn_15 e) (show Try.f15.body = some _ from rfl)]
   simp -implicitDefEqProofs only [Try.f15,go_sem,↓reduceIte,Int.reduceEq,Int.reduceLT,Int.reduceLE,List.reduceReplicate,intA,setT_nil,setT_cons,c50x,c50y,c50z,cao,cbo,hx.cells,hx.flat,hx.bound,hy.cells,hy.flat,hy.bound,hz.cells,hz.flat,hz.bound,Bool.not_false,Bool.not_true,decide_true,decide_false,↓boolP_bool,↓iteB_true,↓iteB_false]
   refine cpyF a (by omega) y hy [] _ ?_
   have hp2 := cpyV_of a
   generalize cpyV a = p at *
   simp -implicitDefEqProofs only [go_sem,↓reduceIte,Int.reduceEq,Int.reduceLT,Int.reduceLE,List.reduceReplicate,intA,setT_nil,setT_cons,hp2.cells,hp2.flat,hp2.bound,hx.cells,hx.flat,hx.bound,hy.cells,hy.flat,hy.bound,hz.cells,hz.flat,hz.bound,Bool.not_false,Bool.not_true,decide_true,decide_false,↓boolP_bool,↓iteB_true,↓iteB_false]
   exact frzT hp2 _ _
  rw [decide_eq_false e3] at cbo
  by_cases e2 : a = b
  ·rw [decide_eq_true e2] at cab
   rw [if_pos (Or.inr e2)]
   refine ⟨cpyV a,by rw [← e2];exact cpyV_of a, ?_⟩
   unfold Ans
   rw [fn_step (fn_15 e) (show Try.f15.body = some _ from rfl)]
   simp -implicitDefEqProofs only [Try.f15,go_sem,↓reduceIte,Int.reduceEq,Int.reduceLT,Int.reduceLE,List.reduceReplicate,intA,setT_nil,setT_cons,c50x,c50y,c50z,cao,cbo,cab,hx.cells,hx.flat,hx.bound,hy.cells,hy.flat,hy.bound,hz.cells,hz.flat,hz.bound,Bool.not_false,Bool.not_true,decide_true,decide_false,↓boolP_bool,↓iteB_true,↓iteB_false]
   refine cpyF a (by omega) y hy [] _ ?_
   have hp2 := cpyV_of a
   generalize cpyV a = p at *
   simp -implicitDefEqProofs only [go_sem,↓reduceIte,Int.reduceEq,Int.reduceLT,Int.reduceLE,List.reduceReplicate,intA,setT_nil,setT_cons,hp2.cells,hp2.flat,hp2.bound,hx.cells,hx.flat,hx.bound,hy.cells,hy.flat,hy.bound,hz.cells,hz.flat,hz.bound,Bool.not_false,Bool.not_true,decide_true,decide_false,↓boolP_bool,↓iteB_true,↓iteB_false]
   exact frzT hp2 _ _
  rw [decide_eq_false e2] at cab
  rw [if_neg (by simp [e1,e2]),if_neg e3]
  obtain ⟨u1,hu1,ha1⟩ := ansP39 he o a (by omega) (by omega) x y hx hy
  obtain ⟨u2,hu2,ha2⟩ := ansP39 he o b (by omega) (by omega) x z hx hz
  have k1 := fun me d H => ha1.call (me := me) (d := d) (ext_39 he) (pure_39 _ _ _) (by simp only [boundL_cons,hx.bound,hy.bound,boundL_nil];rfl) H
  have k2 := fun me d H => ha2.call (me := me) (d := d) (ext_39 he) (pure_39 _ _ _) (by simp only [boundL_cons,hx.bound,hz.bound,boundL_nil];rfl) H
  obtain ⟨hh1,hh2⟩ := hunkL_ok o a la
  obtain ⟨hk1,hk2⟩ := hunkL_ok o b lb
  have hP1 := rows_put (o := o) h2
  have hP2 := rows_put (o := o) h3
  obtain ⟨q1,rfl,hq1⟩ := hu1
  obtain ⟨q2,rfl,hq2⟩ := hu2
  generalize hunkL o a = h at *
  generalize hunkL o b = k at *
  obtain ⟨a1,d1,P1⟩ := h
  obtain ⟨b1,f1,Q1⟩ := k
  simp only at hq1 hq2 hh1 hh2 hk1 hk2 hP1 hP2 k1 k2
  have w1 : IntKind.i64.wrap ((a1 : Int) + (d1 : Int)) = ((a1 + d1 : Nat) : Int) := by rw [wrap_in _ (by omega) (by omega)];omega
  have w2 : IntKind.i64.wrap ((b1 : Int) + (f1 : Int)) = ((b1 + f1 : Nat) : Int) := by rw [wrap_in _ (by omega) (by omega)];omega
  by_cases hsw : b1 + f1 < a1
  ·have hs : ((b1 + f1 : Nat) : Int) < (a1 : Int) := by omega
   have hg : ¬ (a1 : Int) ≤ ((b1 + f1 : Nat) : Int) := by omega
   have hm : mrgL o (a1,d1,P1) (b1,f1,Q1) = if 200 < (chL (chL o (a1,d1,P1)) (b1,f1,Q1)).length then ([],110) else (chL (chL o (a1,d1,P1)) (b1,f1,Q1),0) := by
    unfold mrgL mrgA
    rw [if_pos (by simp only;omega),if_neg (by simp only;omega)]
   rw [hm]
   have hc1 := chL_len o (a1,d1,P1) hh1
   simp only at hc1
   have hc2 := chL_len (chL o (a1,d1,P1)) (b1,f1,Q1) (by simp only;omega)
   simp only at hc2
   obtain ⟨v1,hv1,ha1⟩ := ans17 he o (a1,d1,P1) (by omega) (by simp only;omega) hh1 x _ hx ⟨_,rfl,hq1⟩
   obtain ⟨v2,hv2,ha2⟩ := ans17 he (chL o (a1,d1,P1)) (b1,f1,Q1) (by omega) (by simp only;omega) (by simp only;omega) v1 _ hv1 ⟨_,rfl,hq2⟩
   have m1 := fun me d H => ha1.call (me := me) (d := d) (ext_40 he) (pure_40 _ _ _) (by rw [boundL_cons,boundL_cons,boundL_nil,hx.bound,bound_hnk _ hq1.bound];rfl) H
   have m2 := fun me d H => ha2.call (me := me) (d := d) (ext_40 he) (pure_40 _ _ _) (by rw [boundL_cons,boundL_cons,boundL_nil,hv1.bound,bound_hnk _ hq2.bound];rfl) H
   have hrw : ∀ r ∈ chL (chL o (a1,d1,P1)) (b1,f1,Q1),rowB r = true := rows_chL (rows_chL (rowsB_all h1) hP1) hP2
   have hcl := fits_rows hrw (by omega)
   have hrb := rows_is hrw
   have cR := fun me d H => call38 he _ hcl v2 hv2 me d H
   rw [hrb] at cR
   generalize chL (chL o (a1,d1,P1)) (b1,f1,Q1) = L at *
   by_cases hbig : 200 < L.length
   ·rw [if_pos hbig]
    rw [decide_eq_false (by omega : ¬ L.length ≤ 200)] at cR
    refine ⟨_,Or.inl ⟨rfl,rfl⟩, ?_⟩
    unfold Ans
    rw [fn_step (fn_15 e) (show Try.f15.body = some _ from rfl)]
    simp -implicitDefEqProofs only [Try.f15,go_sem,↓reduceIte,Int.reduceEq,Int.reduceLT,Int.reduceLE,List.reduceReplicate,intA,setT_nil,setT_cons,c50x,c50y,c50z,cao,cab,cbo,k1,k2,m1,m2,cR,w1,w2,hs,hg,hv1.cells,hv1.flat,hv1.bound,hv2.cells,hv2.flat,hv2.bound,hx.cells,hx.flat,hx.bound,hy.cells,hy.flat,hy.bound,hz.cells,hz.flat,hz.bound,hq1.cells,hq1.flat,hq1.bound,hq2.cells,hq2.flat,hq2.bound,Bool.not_false,Bool.not_true,decide_true,decide_false,↓boolP_bool,↓iteB_true,↓iteB_false]
    rfl
   ·rw [if_neg hbig]
    rw [decide_eq_true (by omega : L.length ≤ 200)] at cR
    refine ⟨v2,hv2, ?_⟩
    unfold Ans
    rw [fn_step (fn_15 e) (show Try.f15.body = some _ from rfl)]
    simp -implicitDefEqProofs only [Try.f15,go_sem,↓reduceIte,Int.reduceEq,Int.reduceLT,Int.reduceLE,List.reduceReplicate,intA,setT_nil,setT_cons,c50x,c50y,c50z,cao,cab,cbo,k1,k2,m1,m2,cR,w1,w2,hs,hg,hv1.cells,hv1.flat,hv1.bound,hv2.cells,hv2.flat,hv2.bound,hx.cells,hx.flat,hx.bound,hy.cells,hy.flat,hy.bound,hz.cells,hz.flat,hz.bound,hq1.cells,hq1.flat,hq1.bound,hq2.cells,hq2.flat,hq2.bound,Bool.not_false,Bool.not_true,decide_true,decide_false,↓boolP_bool,↓iteB_true,↓iteB_false]
    exact frzT hv2 _ _
  ·have hs : ¬ ((b1 + f1 : Nat) : Int) < (a1 : Int) := by omega
   by_cases hge : b1 ≤ a1 + d1
   ·have hg : (b1 : Int) ≤ ((a1 + d1 : Nat) : Int) := by omega
    have hm : mrgL o (a1,d1,P1) (b1,f1,Q1) = ([],113) := by
     unfold mrgL mrgA
     by_cases hlt : b1 < a1
     ·rw [if_pos (by simp only;omega),if_pos (by simp only;omega)]
     ·rw [if_neg (by simp only;omega),if_pos (by simp only;omega)]
    rw [hm]
    refine ⟨_,Or.inl ⟨rfl,rfl⟩, ?_⟩
    unfold Ans
    rw [fn_step (fn_15 e) (show Try.f15.body = some _ from rfl)]
    simp -implicitDefEqProofs only [Try.f15,go_sem,↓reduceIte,Int.reduceEq,Int.reduceLT,Int.reduceLE,List.reduceReplicate,intA,setT_nil,setT_cons,c50x,c50y,c50z,cao,cab,cbo,k1,k2,w1,w2,hs,hg,hx.cells,hx.flat,hx.bound,hy.cells,hy.flat,hy.bound,hz.cells,hz.flat,hz.bound,hq1.cells,hq1.flat,hq1.bound,hq2.cells,hq2.flat,hq2.bound,Bool.not_false,Bool.not_true,decide_true,decide_false,↓boolP_bool,↓iteB_true,↓iteB_false]
    rfl
   have hg : ¬ (b1 : Int) ≤ ((a1 + d1 : Nat) : Int) := by omega
   have hm : mrgL o (a1,d1,P1) (b1,f1,Q1) = if 200 < (chL (chL o (b1,f1,Q1)) (a1,d1,P1)).length then ([],110) else (chL (chL o (b1,f1,Q1)) (a1,d1,P1),0) := by
    unfold mrgL mrgA
    rw [if_neg (by simp only;omega),if_neg (by simp only;omega)]
   rw [hm]
   have hc1 := chL_len o (b1,f1,Q1) hk1
   simp only at hc1
   have hc2 := chL_len (chL o (b1,f1,Q1)) (a1,d1,P1) (by simp only;omega)
   simp only at hc2
   obtain ⟨v1,hv1,ha1⟩ := ans17 he o (b1,f1,Q1) (by omega) (by simp only;omega) hk1 x _ hx ⟨_,rfl,hq2⟩
   obtain ⟨v2,hv2,ha2⟩ := ans17 he (chL o (b1,f1,Q1)) (a1,d1,P1) (by omega) (by simp only;omega) (by simp only;omega) v1 _ hv1 ⟨_,rfl,hq1⟩
   have m1 := fun me d H => ha1.call (me := me) (d := d) (ext_40 he) (pure_40 _ _ _) (by rw [boundL_cons,boundL_cons,boundL_nil,hx.bound,bound_hnk _ hq2.bound];rfl) H
   have m2 := fun me d H => ha2.call (me := me) (d := d) (ext_40 he) (pure_40 _ _ _) (by rw [boundL_cons,boundL_cons,boundL_nil,hv1.bound,bound_hnk _ hq1.bound];rfl) H
   have hrw : ∀ r ∈ chL (chL o (b1,f1,Q1)) (a1,d1,P1),rowB r = true := rows_chL (rows_chL (rowsB_all h1) hP2) hP1
   have hcl := fits_rows hrw (by omega)
   have hrb := rows_is hrw
   have cR := fun me d H => call38 he _ hcl v2 hv2 me d H
   rw [hrb] at cR
   generalize chL (chL o (b1,f1,Q1)) (a1,d1,P1) = L at *
   by_cases hbig : 200 < L.length
   ·rw [if_pos hbig]
    rw [decide_eq_false (by omega : ¬ L.length ≤ 200)] at cR
    refine ⟨_,Or.inl ⟨rfl,rfl⟩, ?_⟩
    unfold Ans
    rw [fn_step (fn_15 e) (show Try.f15.body = some _ from rfl)]
    simp -implicitDefEqProofs only [Try.f15,go_sem,↓reduceIte,Int.reduceEq,Int.reduceLT,Int.reduceLE,List.reduceReplicate,intA,setT_nil,setT_cons,c50x,c50y,c50z,cao,cab,cbo,k1,k2,m1,m2,cR,w1,w2,hs,hg,hv1.cells,hv1.flat,hv1.bound,hv2.cells,hv2.flat,hv2.bound,hx.cells,hx.flat,hx.bound,hy.cells,hy.flat,hy.bound,hz.cells,hz.flat,hz.bound,hq1.cells,hq1.flat,hq1.bound,hq2.cells,hq2.flat,hq2.bound,Bool.not_false,Bool.not_true,decide_true,decide_false,↓boolP_bool,↓iteB_true,↓iteB_false]
    rfl
   ·rw [if_neg hbig]
    rw [decide_eq_true (by omega : L.length ≤ 200)] at cR
    refine ⟨v2,hv2, ?_⟩
    unfold Ans
    rw [fn_step (fn_15 e) (show Try.f15.body = some _ from rfl)]
    simp -implicitDefEqProofs only [Try.f15,go_sem,↓reduceIte,Int.reduceEq,Int.reduceLT,Int.reduceLE,List.reduceReplicate,intA,setT_nil,setT_cons,c50x,c50y,c50z,cao,cab,cbo,k1,k2,m1,m2,cR,w1,w2,hs,hg,hv1.cells,hv1.flat,hv1.bound,hv2.cells,hv2.flat,hv2.bound,hx.cells,hx.flat,hx.bound,hy.cells,hy.flat,hy.bound,hz.cells,hz.flat,hz.bound,hq1.cells,hq1.flat,hq1.bound,hq2.cells,hq2.flat,hq2.bound,Bool.not_false,Bool.not_true,decide_true,decide_false,↓boolP_bool,↓iteB_true,↓iteB_false]
    exact frzT hv2 _ _
end Go.Ev
namespace Go.Ev
open Go.Proofs
theorem mergeL_len (o a b : List ByteArray) : (mergeL o a b).1.length ≤ 200 := by
 unfold mergeL
 by_cases h : rowsB o = true ∧ rowsB a = true ∧ rowsB b = true
 ·rw [if_pos h]
  obtain ⟨la, -⟩ := rows_of h.2.1
  obtain ⟨lb, -⟩ := rows_of h.2.2
  split
  ·exact lb
  ·split
   ·exact la
   ·unfold mrgL
    split
    all_goals
     unfold mrgA
     split
     ·exact Nat.zero_le _
     ·split
      ·exact Nat.zero_le _
      ·rename_i hn
       exact Nat.le_of_not_lt hn
 ·rw [if_neg h];exact Nat.zero_le _
theorem ansM4 (o : List ByteArray) (ho : FitsR o) (x : AV) (hx : SlOf 1 (strs o) x) (a : List ByteArray) (ha : FitsR a) (y : AV) (hy : SlOf 1 (strs a) y) (b : List ByteArray) (hb : FitsR b) (z : AV) (hz : SlOf 1 (strs b) z) : Ans (Cx eA) 4 [x,y,z] (.v (.bool true)) :=
 ansP4 quietA o ho x hx a ha y hy b hb z hz (ansP15 quietA o a b ho ha hb x y z hx hy hz) (Nat.lt_of_le_of_lt (mergeL_len o a b) (by decide))
end Go.Ev
