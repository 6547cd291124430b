/- What the proof of this claim stands on, part 4: an evaluator of the model, proved right, and what it answers for functions of the program. -/
import Derived.Test.YtpfbekhkakfoiaaGreatDoorPk02
import Derived.Lib.Bytealg
import Derived.ChangeReads
import Derived.ChangeOld
import Derived.ChangeArms
import Derived.RowKit3
import Derived.WalkKit
import Derived.ProofKit
import Derived.OpenShut
set_option maxHeartbeats 8000000
set_option maxRecDepth 1000000
set_option linter.unusedSimpArgs false
namespace Go.Ev
open Go.Proofs
attribute [local irreducible] Wp WpS
def lineAt (t : Txt) (a b : Int) : Option Line := if 0 ≤ a ∧ 0 ≤ b then (t[a.toNat]?).bind fun c => c.2[b.toNat]? else none
def LineO (o : Option Line) (x : AV) : Prop := match o with | some l => LineA l x | none => x = .v (.slice none 0 0)
theorem within_len (a : Int) (n : Nat) : withinB 0 ((n : Int) - 1) [a] = decide (0 ≤ a ∧ a < n) := by
 rw [range1]
 by_cases h : 0 ≤ a <;> by_cases h2 : a < n <;> simp [h,h2] <;> omega
theorem ans42 {e : Exts} (he : Quiet e) (t : Txt) (ht : Fits t) (ch : AV) (xs : List AV) (hch : SlOf 2 xs ch) (hall : All2 ChapA t xs) (a b c : Int) : ∃ x,LineO (lineAt t a b) x ∧ Ans (Cx e) 97 [.agg [ch],.agg [intA a,intA b,intA c]] (.tup [x,.v (.bool (lineAt t a b).isSome)]) := by
 have hw1 : IntKind.i64.wrap ((t.length : Int) - 1) = (t.length : Int) - 1 := wrap_in _ (by omega) (by have := ht.chs;omega)
 have hc1 := callI43 he a 0 ((t.length : Int) - 1)
 rw [within_len] at hc1
 by_cases h1 : 0 ≤ a ∧ a < t.length
 ·obtain ⟨i,rfl⟩ : ∃ i : Nat,a = i := ⟨a.toNat,by omega⟩
  obtain ⟨cp,hs⟩ := at_lt t i (by omega)
  obtain ⟨y,hy,l,rfl,lxs,hl,hls⟩ := hall.get hs
  have hm := List.mem_of_getElem? hs
  have hll := ht.lines cp hm
  have hw2 : IntKind.i64.wrap ((cp.2.length : Int) - 1) = (cp.2.length : Int) - 1 := wrap_in _ (by omega) (by omega)
  have hc2 := callI43 he b 0 ((cp.2.length : Int) - 1)
  rw [within_len] at hc2
  rw [decide_eq_true h1] at hc1
  by_cases h2 : 0 ≤ b ∧ b < cp.2.length
  ·obtain ⟨j,rfl⟩ : ∃ j : Nat,b = j := ⟨b.toNat,by omega⟩
   obtain ⟨ln,hn⟩ := at_lt cp.2 j (by omega)
   obtain ⟨lx,hx,hlx⟩ := hls.get hn
   have hlx : SlOf 1 (strs ln) lx := hlx
   rw [decide_eq_true h2] at hc2
   have hL : lineAt t i j = some ln := by unfold lineAt;rw [if_pos (by omega)];simp [hs,hn]
   rw [hL]
   refine ⟨lx,hlx, ?_⟩
   unfold Ans
   rw [fn_step (fn_97 e) (show Tryz.f97.body = some _ from rfl)]
   simp -implicitDefEqProofs only [Tryz.f97,go_sem,↓reduceIte,Int.reduceEq,Int.reduceLT,Int.reduceLE,List.zip_cons_cons,List.zip_nil_right,List.zip_nil_left,setT_nil,setT_cons,intA,hch.cells,hch.flat,hch.bound]
   refine wp_draw (by kernel_rfl) ?_
   simp -implicitDefEqProofs only [go_sem,↓reduceIte,Int.reduceEq,Int.reduceLT,Int.reduceLE,List.zip_cons_cons,List.zip_nil_right,List.zip_nil_left,setT_nil,setT_cons,intA,hch.cells,hch.flat,hch.bound,hch.len,hch.lenI,← hall.1,hw1,hc1,hch.idx hy,hl.len,hl.cells,hl.lenI,← hls.1,hw2,hc2]
   refine wp_draw (by kernel_rfl) ?_
   simp -implicitDefEqProofs only [go_sem,↓reduceIte,Int.reduceEq,Int.reduceLT,Int.reduceLE,List.zip_cons_cons,List.zip_nil_right,List.zip_nil_left,setT_nil,setT_cons,intA,hch.cells,hch.flat,hch.bound,hch.len,hch.lenI,← hall.1,hw1,hc1,hch.idx hy,hl.len,hl.cells,hl.idx hx,hlx.cells]
   rcases hlx with ⟨rfl, -⟩ | ⟨cap,rfl⟩ <;> rfl
  ·rw [decide_eq_false h2] at hc2
   have hL : lineAt t i b = none := by
    unfold lineAt
    split
    ·simp only [Int.toNat_natCast,hs,Option.bind_some]
     rw [List.getElem?_eq_none_iff];omega
    ·rfl
   rw [hL]
   refine ⟨_,rfl, ?_⟩
   unfold Ans
   rw [fn_step (fn_97 e) (show Tryz.f97.body = some _ from rfl)]
   simp -implicitDefEqProofs only [Tryz.f97,go_sem,↓reduceIte,Int.reduceEq,Int.reduceLT,Int.reduceLE,List.zip_cons_cons,List.zip_nil_right,List.zip_nil_left,setT_nil,setT_cons,intA,hch.cells,hch.flat,hch.bound]
   refine wp_draw (by kernel_rfl) ?_
   simp -implicitDefEqProofs only [go_sem,↓reduceIte,Int.reduceEq,Int.reduceLT,Int.reduceLE,List.zip_cons_cons,List.zip_nil_right,List.zip_nil_left,setT_nil,setT_cons,intA,hch.cells,hch.flat,hch.bound,hch.len,hch.lenI,← hall.1,hw1,hc1,hch.idx hy,hl.len,hl.cells,hl.lenI,← hls.1,hw2,hc2]
   rfl
 ·rw [decide_eq_false h1] at hc1
  have hL : lineAt t a b = none := by
   unfold lineAt
   split
   ·have : t[a.toNat]? = none := by rw [List.getElem?_eq_none_iff];omega
    rw [this];rfl
   ·rfl
  rw [hL]
  refine ⟨_,rfl, ?_⟩
  unfold Ans
  rw [fn_step (fn_97 e) (show Tryz.f97.body = some _ from rfl)]
  simp -implicitDefEqProofs only [Tryz.f97,go_sem,↓reduceIte,Int.reduceEq,Int.reduceLT,Int.reduceLE,List.zip_cons_cons,List.zip_nil_right,List.zip_nil_left,setT_nil,setT_cons,intA,hch.cells,hch.flat,hch.bound]
  refine wp_draw (by kernel_rfl) ?_
  simp -implicitDefEqProofs only [go_sem,↓reduceIte,Int.reduceEq,Int.reduceLT,Int.reduceLE,List.zip_cons_cons,List.zip_nil_right,List.zip_nil_left,setT_nil,setT_cons,intA,hch.cells,hch.flat,hch.bound,hch.len,hch.lenI,← hall.1,hw1,hc1]
  rfl
theorem call42 {e : Exts} (he : Quiet e) (t : Txt) (ht : Fits t) (ch : AV) (xs : List AV) (hch : SlOf 2 xs ch) (hall : All2 ChapA t xs) (a b c : Int) : ∃ x,LineO (lineAt t a b) x ∧ ∀ (me : FuncId) (d : Option Tmp) (H : Heap),callA (Cx e) (lim (Cx e)) me 97 d [.agg [ch],.agg [.v (.int .i64 a),.v (.int .i64 b),.v (.int .i64 c)]] H = some (.tup [x,.v (.bool (lineAt t a b).isSome)],H) := by
 obtain ⟨x,hx,h⟩ := ans42 he t ht ch xs hch hall a b c
 exact ⟨x,hx,fun me d H => h.call (ext_97 he) (pure_97 _ _ _) (by simp only [boundL_cons,bound_agg,hch.bound,boundL_nil,intA,bound_v];rfl) H⟩
def placeB' (t : Txt) (a b c : Int) : Bool := match lineAt t a b with | some l => decide (0 ≤ c ∧ c < l.length) | none => false
theorem lineAt_mem {t : Txt} {a b : Int} {l : Line} (h : lineAt t a b = some l) : ∃ c ∈ t,l ∈ c.2 := by
 unfold lineAt at h
 split at h
 ·obtain ⟨c,h1,h2⟩ := Option.bind_eq_some_iff.1 h
  exact ⟨c,List.mem_of_getElem? h1,List.mem_of_getElem? h2⟩
 ·cases h
theorem ans17 {e : Exts} (he : Quiet e) (t : Txt) (ht : Fits t) (ch : AV) (xs : List AV) (hch : SlOf 2 xs ch) (hall : All2 ChapA t xs) (a b c : Int) : Ans (Cx e) 62 [.agg [ch],.agg [intA a,intA b,intA c]] (.v (.bool (placeB' t a b c))) := by
 obtain ⟨x,hx,hc⟩ := call42 he t ht ch xs hch hall a b c
 unfold placeB' Ans
 rw [fn_step (fn_62 e) (show Tryz.f62.body = some _ from rfl)]
 cases hL : lineAt t a b with
 | none =>
  rw [hL] at hx hc
  simp only [LineO] at hx
  subst hx
  simp only [Option.isSome_none] at hc
  simp -implicitDefEqProofs only [Tryz.f62,go_sem,↓reduceIte,Int.reduceEq,Int.reduceLT,Int.reduceLE,List.zip_cons_cons,List.zip_nil_right,List.zip_nil_left,setT_nil,setT_cons,intA,hch.cells,hch.flat,hch.bound,hc]
 | some l =>
  rw [hL] at hx hc
  have hx : SlOf 1 (strs l) x := hx
  obtain ⟨cp,hcm,hlm⟩ := lineAt_mem hL
  have hll := ht.words cp hcm l hlm
  simp only [Option.isSome_some] at hc
  have hw1 : IntKind.i64.wrap ((l.length : Int) - 1) = (l.length : Int) - 1 := wrap_in _ (by omega) (by omega)
  have hc1 := call43 he c 0 ((l.length : Int) - 1)
  rw [within_len] at hc1
  simp -implicitDefEqProofs only [Tryz.f62,go_sem,↓reduceIte,Int.reduceEq,Int.reduceLT,Int.reduceLE,List.zip_cons_cons,List.zip_nil_right,List.zip_nil_left,setT_nil,setT_cons,intA,hch.cells,hch.flat,hch.bound,hc,hx.len,strs_len,hw1,hc1]
theorem ans18 {e : Exts} (a b c a' b' c' : Int) : Ans (Cx e) 61 [.agg [intA a,intA b,intA c],.agg [intA a',intA b',intA c']] (.v (.bool (beforeB (a,b,c) (a',b',c')))) := by
 unfold Ans beforeB
 rw [fn_step (fn_61 e) (show Tryz.f61.body = some _ from rfl)]
 cases h1 : decide (a = a')
 ·simp -implicitDefEqProofs only [Tryz.f61,go_sem,↓reduceIte,Int.reduceEq,Int.reduceLT,Int.reduceLE,List.zip_cons_cons,List.zip_nil_right,List.zip_nil_left,setT_nil,setT_cons,intA,h1]
  have : a ≠ a' := of_decide_eq_false h1
  rw [if_pos this]
 ·have e1 : a = a' := of_decide_eq_true h1
  rw [if_neg (by simpa using e1)]
  cases h2 : decide (b = b')
  ·simp -implicitDefEqProofs only [Tryz.f61,go_sem,↓reduceIte,Int.reduceEq,Int.reduceLT,Int.reduceLE,List.zip_cons_cons,List.zip_nil_right,List.zip_nil_left,setT_nil,setT_cons,intA,h1,h2]
   have : b ≠ b' := of_decide_eq_false h2
   rw [if_pos this]
  ·have e2 : b = b' := of_decide_eq_true h2
   rw [if_neg (by simpa using e2)]
   simp -implicitDefEqProofs only [Tryz.f61,go_sem,↓reduceIte,Int.reduceEq,Int.reduceLT,Int.reduceLE,List.zip_cons_cons,List.zip_nil_right,List.zip_nil_left,setT_nil,setT_cons,intA,h1,h2]
end Go.Ev
namespace Go.Ev
theorem cmp_bytes : ∀ (a b : List UInt8),Lib.compareBytes a b = if bytesLt a b then -1 else if bytesLt b a then 1 else 0
 | [],[] => by simp [Lib.compareBytes,bytesLt]
 | [],_ :: _ => by simp [Lib.compareBytes,bytesLt]
 | _ :: _,[] => by simp [Lib.compareBytes,bytesLt]
 | x :: a,y :: b => by
  have ih := cmp_bytes a b
  unfold Lib.compareBytes bytesLt
  simp only [UInt8.lt_iff_toNat_lt]
  by_cases h1 : x.toNat < y.toNat
  ·have e1 : Nat.blt x.toNat y.toNat = true := Nat.ble_eq_true_of_le h1
   simp [h1,e1]
  ·have e1 : Nat.blt x.toNat y.toNat = false := by
    cases hb : Nat.blt x.toNat y.toNat
    ·rfl
    ·exact absurd (Nat.le_of_ble_eq_true hb) h1
   by_cases h2 : y.toNat < x.toNat
   ·have e2 : Nat.blt y.toNat x.toNat = true := Nat.ble_eq_true_of_le h2
    have e3 : (x.toNat == y.toNat) = false := by simp;omega
    simp [h1,h2,e1,e2,e3]
   ·have e2 : Nat.blt y.toNat x.toNat = false := by
     cases hb : Nat.blt y.toNat x.toNat
     ·rfl
     ·exact absurd (Nat.le_of_ble_eq_true hb) h2
    have e3 : x.toNat = y.toNat := by omega
    simp [e3,ih]
theorem ext_cmp {P : Program} {f : FuncId} {fn : Func} (hf : P.funcs[f]? = some fn) (hb : fn.body = none) (hn : (fn.name == "runtime.NumGoroutine") = false) (h1 : (Extern.findNext fn).isNone = true) (h2 : Extern.find fn = some Extern.BytealgCompare.compare)
  {args : List AV} {v : AV} (h : cmpStr args = some v) (Z : Fzn) (ρ : Pls) (H : Heap) (w : World) (vals : List Value) (hs : Sim Z ρ H w) (hl : RepL Z ρ args vals) : FnMeets P f vals w (After Z ρ H w v H) := by
 unfold cmpStr at h
 split at h
 ·rename_i a b
  obtain ⟨v1,ws,rfl,hv1,hl⟩ := hl.uncons
  obtain ⟨v2,ws,rfl,hv2,hl⟩ := hl.uncons
  have : ws = [] := by have := hl.1;exact List.length_eq_zero_iff.1 this.symm
  subst this
  obtain ⟨rfl, -⟩ := hv1.v_inv
  obtain ⟨rfl, -⟩ := hv2.v_inv
  simp only [Option.some.injEq] at h
  subst h
  refine Or.inl ⟨.int .i64 (Lib.compareBytes a.data.toList b.data.toList),w, ?_,Z,ρ, ?_,hs,Ext.refl _ _ _ _⟩
  ·have hfn : Extern.findNext fn = none := Option.isNone_iff_eq_none.1 h1
   have := Lib.run_compareString (P := P) a b w
   have hn' : ¬ fn.name = "runtime.NumGoroutine" := by
    intro e;rw [e] at hn;simp at hn
   simp [callFunc,hf,hn',hb,hfn,h2,this]
  ·rw [cmp_bytes];exact .v rfl
 ·cases h
theorem ext_of_ans {C : Cfg} (hgo : NoGo C.P) (hm : C.P.follows .mixedOrders = true) (hext : ExtOK C) {f : FuncId} {args : List AV} {v : AV} (h : Ans C f args v) (hb : boundL args = 0)
  (Z : Fzn) (ρ : Pls) (H : Heap) (w : World) (vals : List Value) (hs : Sim Z ρ H w) (hl : RepL Z ρ args vals) : FnMeets C.P f vals w (After Z ρ H w v H) := by
 obtain ⟨x,H',h1,h2⟩ := Ans.iff.1 h
 obtain ⟨n,hn⟩ := lim_iff.1 h1
 have hrec : RecOK C.P (evT C n) := (ev_sound hgo hext (draw_ok hm hext) n).1
 let D : Cfg := { C with pure := fun _ _ _ => true }
 have hk : callKind D f f none args = 1 := by unfold callKind;rw [hb];rfl
 have hB : callB D (evT C n) f f none args H = some (v,H) := by
  unfold callB;rw [hk];simp only [hn,h2,Option.map_some]
 obtain ⟨hbody,hc⟩ := callB_sound (C := D) hrec hs hl hB
 exact Or.inr ⟨hbody.run _ _,hc⟩
def moreExt (e : FuncId → Option (List AV → Option AV)) (f : FuncId) (g : List AV → Option AV) : FuncId → Option (List AV → Option AV) := fun f' => if Nat.beq f' f then some g else e f'
theorem extOK_more {C C' : Cfg} (hP : C'.P = C.P) {f : FuncId} {g : List AV → Option AV} (hg : ∀ args v,g args = some v → ∀ (Z : Fzn) (ρ : Pls) (H : Heap) (w : World) (vals : List Value),Sim Z ρ H w → RepL Z ρ args vals → FnMeets C.P f vals w (After Z ρ H w v H))
  (hext : ExtOK C) (he : C'.ext = moreExt C.ext f g) (hlay : C'.lay = C.lay := by rfl) (hexh : C'.exh = C.exh := by rfl) : ExtOK C' := by
 refine ⟨fun f' g' hf' args v hv Z ρ H w vals hs hl => ?_,fun f' g' hf' => by rw [hP];rw [hlay] at hf';exact hext.lay f' g' hf',fun f' g' hf' => by rw [hP];rw [hexh] at hf';exact hext.exh f' g' hf'⟩
 rw [hP]
 rw [he] at hf'
 unfold moreExt at hf'
 split at hf'
 ·rename_i hb
  have := Nat.eq_of_beq_eq_true hb
  subst this
  simp only [Option.some.injEq] at hf'
  subst hf'
  exact hg args v hv Z ρ H w vals hs hl
 ·exact hext.ext f' g' hf' args v hv Z ρ H w vals hs hl
def eqV : Value → Value → Bool
 | .int k n,.int k' n' => decide (k = k') && decide (n = n')
 | .bool a,.bool b => a == b
 | .string a,.string b => bytesEq a.data.toList b.data.toList
 | .slice none 0 0,.slice none 0 0 => true
 | _,_ => false
theorem eqV_eq {x y : Value} (h : eqV x y = true) : x = y := by
 unfold eqV at h
 split at h
 ·simp at h;rw [h.1,h.2]
 ·simp at h;rw [h]
 ·rw [bytesEq_iff,decide_eq_true_eq,← str_ext] at h;rw [h]
 ·rfl
 ·cases h
def listEq (f : AV → AV → Bool) : List AV → List AV → Bool
 | [],[] => true
 | x :: r,y :: s => f x y && listEq f r s
 | _,_ => false
theorem listEq_eq {f : AV → AV → Bool} (hf : ∀ x y,f x y = true → x = y) : ∀ {l m : List AV},listEq f l m = true → l = m
 | [],[],_ => rfl
 | [],_ :: _,h => by simp [listEq] at h
 | _ :: _,[],h => by simp [listEq] at h
 | x :: r,y :: s,h => by
  simp only [listEq,Bool.and_eq_true] at h
  rw [hf _ _ h.1,listEq_eq hf h.2]
def capEq : Option Nat → Option Nat → Bool
 | none,none => true
 | some k,some k' => Nat.beq k k'
 | _,_ => false
theorem capEq_eq {c c' : Option Nat} (h : capEq c c' = true) : c = c' := by
 unfold capEq at h
 split at h
 ·rfl
 ·rw [Nat.eq_of_beq_eq_true h]
 ·cases h
def eqStep (rec : AV → AV → Bool) (x y : AV) : Bool :=
 match x,y with
 | .v x,.v y => eqV x y
 | .agg a,.agg b => listEq rec a b
 | .vs s a c,.vs s' a' c' => Nat.beq s s' && listEq rec a a' && capEq c c'
 | _,_ => false
def eqA (n : Nat) : AV → AV → Bool := Nat.rec (fun _ _ => false) (fun _ rec => eqStep rec) n
theorem eqA_eq : ∀ (n : Nat) (x y : AV),eqA n x y = true → x = y
 | 0,_,_,h => by cases h
 | n + 1,x,y,h => by
  have h' : eqStep (eqA n) x y = true := h
  unfold eqStep at h'
  split at h'
  ·rw [eqV_eq h']
  ·rw [listEq_eq (eqA_eq n) h']
  ·simp only [Bool.and_eq_true] at h'
   obtain ⟨⟨h1,h2⟩,h3⟩ := h'
   rw [Nat.eq_of_beq_eq_true h1,listEq_eq (eqA_eq n) h2,capEq_eq h3]
  ·cases h'
def atArgs (K : List AV) (R : AV) : List AV → Option AV := fun args => if listEq (eqA 30) args K then some R else none
theorem atArgs_some {K : List AV} {R : AV} {args : List AV} {v : AV} (h : atArgs K R args = some v) : args = K ∧ v = R := by
 unfold atArgs at h
 split at h
 ·rename_i hq
  exact ⟨listEq_eq (eqA_eq 30) hq,by simpa using h.symm⟩
 ·cases h
end Go.Ev
namespace Go.Ev
open Go.Proofs
attribute [local irreducible] Wp WpS
theorem conv_u16 (n : Int) : convA Tryz.prog 76 3 (.v (.int .u16 n)) = some (.v (.int .i64 (IntKind.i64.wrap n))) := by kernel_rfl
theorem bin_rem {P : Program} {t : TypeId} {k : IntKind} (x y : Operand) (m n : Int) (hn : n ≠ 0) : binA P .rem t x y (.v (.int k m)) (.v (.int k n)) = some (.v (.int k (Int.tmod m n))) := by
 unfold binA
 simp only [binOp,Op.intDiv,ne_eq,not_true_eq_false,if_false,hn]
 rfl
theorem call14 {e : Exts} (he : Quiet e) (t : Txt) (ht : Fits t) (ch : AV) (xs : List AV) (hch : SlOf 2 xs ch) (hall : All2 ChapA t xs) (h1 : textB t = true) (me : FuncId) (d : Option Tmp) (H : Heap) : callA (Cx e) (lim (Cx e)) me 44 d [.agg [ch]] H = some (.tup [.v (.int .i64 (wordsT 0 t).length),.v (.int .i64 0)],H) := by
 have h := ans14 he t ht ch xs hch hall
 have hn := wordsT_small (small_of h1)
 rw [h1,if_pos rfl,allIts_eq hall,List.length_map,wrap_nat _ (by omega)] at h
 exact h.call (ext_44 he) (pure_44 _ _ _) (by simp only [boundL_cons,bound_agg,hch.bound,boundL_nil];rfl) H
theorem placeOf_in {t : Txt} (h1 : textB t = true) {n : Nat} {x : Plc × ByteArray} (hx : (wordsT 0 t)[n]? = some x) : placeOfR t n = .tup [.agg [.v (.int .i64 x.1.1),.v (.int .i64 x.1.2.1),.v (.int .i64 x.1.2.2)],.v (.int .i64 0)] := by
 have hl := (List.getElem?_eq_some_iff.1 hx).1
 unfold placeOfR placeR
 rw [h1,if_pos rfl,if_pos (by omega)]
 simp [hx,plN,intA]
theorem place_in {t : Txt} {n : Nat} {x : Plc × ByteArray} (hx : (wordsT 0 t)[n]? = some x) : placeB' t x.1.1 x.1.2.1 x.1.2.2 = true := by
 obtain ⟨m,k,w,c,l,h1,h2,h3,h4⟩ := (wordsT_mem t 0 x).1 (List.mem_of_getElem? hx)
 have hw := (List.getElem?_eq_some_iff.1 h4).1
 rw [h1]
 unfold placeB' lineAt
 rw [if_pos (by constructor <;> omega)]
 simp only [Int.toNat_natCast,Nat.zero_add,h2,Option.bind_some,h3]
 simpa using hw
end Go.Ev
namespace Go.Ev
def tiled (P : Program) : Nat → List Field → Nat → Bool
 | k,[],e => k == e
 | k,f :: r,e => f.offset == k && tiled P (k + P.cellsOf f.type) r e
def plainT (P : Program) : Nat → TypeId → Bool
 | 0,_ => false
 | n + 1,t =>
  match P.underlying t with
  | some .bool => true
  | some (.int _) => true
  | some .string => true
  | some (.slice e) => decide (0 < P.cellsOf e) && plainT P n e
  | some (.struct fs) => tiled P 0 fs.toList (P.cellsOf t) && fs.toList.all fun f => plainT P n f.type
  | _ => false
def elemOf (cs : List AV) : AV := match cs with | [c] => c | cs => .agg cs
def Plain (P : Program) : Nat → TypeId → List AV → Prop
 | 0,_,_ => False
 | n + 1,t,cs =>
  match P.underlying t with
  | some .bool => ∃ b,cs = [.v (.bool b)]
  | some (.int k) => ∃ m,cs = [.v (.int k m)] ∧ (Lit.int k m).wf = true
  | some .string => ∃ s,cs = [.v (.string s)] ∧ s.size ≤ maxLen
  | some (.slice e) => ∃ x xs,cs = [x] ∧ SlOf (P.cellsOf e) xs x ∧ xs.length ≤ maxLen ∧ ∀ y ∈ xs,∃ c,y = elemOf c ∧ c.length = P.cellsOf e ∧ Plain P n e c
  | some (.struct fs) => cs.length = P.cellsOf t ∧ ∀ f ∈ fs.toList,Plain P n f.type ((cs.drop f.offset).take (P.cellsOf f.type))
  | _ => False
theorem elem_cells {cs : List AV} (h : ∀ c ∈ cs,c.flat = true) : (elemOf cs).cells = cs := by
 unfold elemOf
 split
 ·rename_i c
  have := h c (by simp)
  cases c <;> simp_all [AV.cells,AV.flat]
 ·rfl
theorem exists_list {α : Type} {Q : Nat → α → Prop} : ∀ (n : Nat),(∀ i,i < n → ∃ y,Q i y) → ∃ l : List α,l.length = n ∧ ∀ i y,l[i]? = some y → Q i y
 | 0,_ => ⟨[],rfl,fun i y h => by simp at h⟩
 | n + 1,h => by
  obtain ⟨l,hl,hq⟩ := exists_list n fun i hi => h i (by omega)
  obtain ⟨y,hy⟩ := h n (by omega)
  refine ⟨l ++ [y],by simp [hl],fun i z hz => ?_⟩
  by_cases hi : i < l.length
  ·rw [List.getElem?_append_left hi] at hz;exact hq i z hz
  ·have hlt := (List.getElem?_eq_some_iff.1 hz).1
   simp at hlt
   have : i = l.length := by omega
   subst this
   simp at hz;subst hz;rw [hl];exact hy
theorem tile_rep {Z : Fzn} {ρ : Pls} {P : Program} {Q : Field → List AV → Prop} : ∀ (fs : List Field) (k e : Nat) (cs : List Value),tiled P k fs e = true → cs.length = e →
  (∀ f ∈ fs,∃ a,RepL Z ρ a ((cs.drop f.offset).take (P.cellsOf f.type)) ∧ Q f a ∧ ∀ c ∈ a,c.flat = true) →
  k ≤ e → ∃ A,RepL Z ρ A (cs.drop k) ∧ (∀ c ∈ A,c.flat = true) ∧ ∀ f ∈ fs,k ≤ f.offset ∧ f.offset + P.cellsOf f.type ≤ e ∧ Q f ((A.drop (f.offset - k)).take (P.cellsOf f.type))
 | [],k,e,cs,ht,hl,_,_ => by
  have : k = e := by simpa [tiled] using ht
  subst this
  refine ⟨[], ?_,by simp,by simp⟩
  rw [List.drop_of_length_le (by omega)];exact RepL.nil
 | f :: r,k,e,cs,ht,hl,hf,hk => by
  simp only [tiled,Bool.and_eq_true,beq_iff_eq] at ht
  obtain ⟨ho,ht⟩ := ht
  have hle : ∀ (fs : List Field) (k : Nat),tiled P k fs e = true → k ≤ e := by
   intro fs
   induction fs with
   | nil => intro k h;have : k = e := by simpa [tiled] using h
            omega
   | cons g s ih => intro k h;simp only [tiled,Bool.and_eq_true] at h;have := ih _ h.2;omega
  have hle' := hle _ _ ht
  obtain ⟨A,hA,hAf,hAq⟩ := tile_rep r (k + P.cellsOf f.type) e cs ht hl (fun g hg => hf g (List.mem_cons_of_mem _ hg)) hle'
  obtain ⟨a,ha,hq,haf⟩ := hf f List.mem_cons_self
  have hal : a.length = P.cellsOf f.type := by rw [ha.1];simp;omega
  refine ⟨a ++ A, ?_, ?_, ?_⟩
  ·have : cs.drop k = (cs.drop f.offset).take (P.cellsOf f.type) ++ cs.drop (k + P.cellsOf f.type) := by
    rw [ho,← List.drop_drop];exact (List.take_append_drop _ _).symm
   rw [this];exact ha.append hA
  ·intro c hc
   rcases List.mem_append.1 hc with h | h
   ·exact haf c h
   ·exact hAf c h
  ·intro g hg
   rcases List.mem_cons.1 hg with rfl | hg
   ·refine ⟨by omega,by omega, ?_⟩
    rw [ho,Nat.sub_self,List.drop_zero,List.take_append_of_le_length (by omega),List.take_of_length_le (by omega)]
    exact hq
   ·obtain ⟨h1,h2,h3⟩ := hAq g hg
    refine ⟨by omega,h2, ?_⟩
    have : (a ++ A).drop (g.offset - k) = A.drop (g.offset - (k + P.cellsOf f.type)) := by
     rw [List.drop_append,List.drop_of_length_le (by omega),List.nil_append,hal];congr 1;omega
    rw [this];exact h3
section
variable {HH : Type} {enc : TypeId × Value → HH} {P : Program} {w : World}
theorem cells_at {a : Addr} {n : Nat} {cs : List Value} (h : w.cells? 0 a n = some cs) (hn : 0 < n) : a.spot = none ∧ ∃ arr e fr,w.heap[a.block]? = some (.cells arr e fr) ∧ cs.length = n ∧ ∀ j,j < n → arr[a.off + j]? = cs[j]? := by
 obtain ⟨_,hl,hc⟩ := World.cells?_some h
 have h0 := hc 0 hn
 obtain ⟨c0,hc0⟩ : ∃ c0,cs[0]? = some c0 := ⟨cs[0]'(by omega),List.getElem?_eq_getElem _⟩
 have hsp : a.spot = none := by
  have := World.cell?_spot (h0.trans hc0)
  simpa [Addr.add] using this
 have hcell := h0.trans hc0
 have hb : ∀ j,(a.add j).block = a.block := by intro j;unfold Addr.add;split <;> rfl
 have hs : ∀ j,(a.add j).spot = none := by
  intro j;unfold Addr.add;split
  ·exact hsp
  ·rfl
 have ho : ∀ j,(a.add j).off = a.off + j := by
  intro j;unfold Addr.add;split
  ·rename_i hj;subst hj;rfl
  ·rfl
 refine ⟨hsp, ?_⟩
 unfold World.cell? at hcell
 rw [hb] at hcell
 split at hcell
 ·rename_i arr e fr hh
  refine ⟨arr,e,fr,hh,hl,fun j hj => ?_⟩
  have := hc j hj
  unfold World.cell? at this
  rw [hb,hh] at this
  simp only [hs,ho,Option.isSome_none,Bool.false_eq_true,if_false] at this
  exact this
 ·cases hcell
theorem plain_rep : ∀ (N t fuel : Nat) (cs : List Value) (x : DataW HH × List MemPlace),plainT P N t = true → DataW.trod enc P w 0 (fun _ => true) true fuel t cs = some x →
  ∃ A,RepL (allZ w) noPls A cs ∧ Plain P N t A ∧ ∀ c ∈ A,c.flat = true
 | 0,_,_,_,_,hp,_ => by simp [plainT] at hp
 | N + 1,t,fuel,cs,x,hp,h => by
  unfold plainT at hp
  cases hu : P.underlying t with
  | none => rw [hu] at hp;simp at hp
  | some u =>
   rw [hu] at hp
   cases u <;> simp only [Bool.false_eq_true] at hp
   case bool =>
    obtain ⟨b,rfl, -⟩ := DataW.trod_bool hu h
    exact ⟨[.v (.bool b)],RepL.cons (.v rfl) RepL.nil,by unfold Plain;rw [hu];exact ⟨b,rfl⟩,by simp [AV.flat]⟩
   case int k =>
    obtain ⟨n,rfl, -,hw⟩ := DataW.trod_int hu h
    exact ⟨[.v (.int k n)],RepL.cons (.v rfl) RepL.nil,by unfold Plain;rw [hu];exact ⟨n,rfl,hw⟩,by simp [AV.flat]⟩
   case string =>
    obtain ⟨n,rfl, -,hw⟩ := DataW.trod_string hu h
    exact ⟨[.v (.string n)],RepL.cons (.v rfl) RepL.nil,by unfold Plain;rw [hu];exact ⟨n,rfl,hw⟩,by simp [AV.flat]⟩
   case struct fs =>
    rw [Bool.and_eq_true,List.all_eq_true] at hp
    obtain ⟨xs,n, -, -,hl,hlen,hf⟩ := DataW.trod_struct hu h
    have hall : ∀ f ∈ fs.toList,∃ a,RepL (allZ w) noPls a ((cs.drop f.offset).take (P.cellsOf f.type)) ∧ Plain P N f.type a ∧ ∀ c ∈ a,c.flat = true := by
     intro f hfm
     obtain ⟨i,hi⟩ := List.getElem?_of_mem hfm
     have hi' : fs[i]? = some f := by simpa using hi
     have hxi := hf i f hi'
     have hlt : i < xs.length := by
      rw [hlen]
      have := (List.getElem?_eq_some_iff.1 hi).1
      simpa using this
     rw [List.getElem?_eq_getElem hlt] at hxi
     exact plain_rep N f.type n _ _ (hp.2 f hfm) hxi
    obtain ⟨A,hA,hAf,hAq⟩ := tile_rep fs.toList 0 (P.cellsOf t) cs hp.1 hl hall (Nat.zero_le _)
    rw [List.drop_zero] at hA
    refine ⟨A,hA, ?_,hAf⟩
    unfold Plain;rw [hu]
    refine ⟨by rw [hA.1];exact hl,fun f hf => ?_⟩
    have := (hAq f hf).2.2
    rwa [Nat.sub_zero] at this
   case slice e =>
    simp only [Bool.and_eq_true,decide_eq_true_eq] at hp
    rcases DataW.trod_slice hu h with ⟨rfl, -⟩ | ⟨a,len,cap,elems,rest,n, -,rfl, -, -,hlc,hcm,hel,hget, -, -⟩
    ·refine ⟨[.v (.slice none 0 0)],RepL.cons (.v rfl) RepL.nil, ?_,by simp [AV.flat]⟩
     unfold Plain;rw [hu]
     exact ⟨_,[],rfl,Or.inl ⟨rfl,rfl⟩,Nat.zero_le _,by simp⟩
    ·have hone : ∀ i,i < len → ∃ y : AV,∃ A ci,w.cells? 0 (a.add (i * P.cellsOf e)) (P.cellsOf e) = some ci ∧ RepL (allZ w) noPls A ci ∧ Plain P N e A ∧ (∀ c ∈ A,c.flat = true) ∧ y = elemOf A := by
      intro i hi
      have := hget i hi
      rw [List.getElem?_eq_getElem (by omega),Option.bind_eq_some_iff] at this
      obtain ⟨ci,hc1,hc2⟩ := this
      obtain ⟨A,h1,h2,h3⟩ := plain_rep N e n ci _ hp.2 hc2
      exact ⟨_,A,ci,hc1,h1,h2,h3,rfl⟩
     obtain ⟨xs,hxl,hxq⟩ := exists_list len hone
     have hsz : ∀ y ∈ xs,y.cells.length = P.cellsOf e := by
      intro y hy
      obtain ⟨i,hi⟩ := List.getElem?_of_mem hy
      obtain ⟨A,ci,h1,h2,h3,h4,rfl⟩ := hxq i y hi
      rw [elem_cells h4,h2.1]
      exact (World.cells?_some h1).2.1
     have hplain : Plain P (N + 1) t [.vs (P.cellsOf e) xs (some cap)] := by
      unfold Plain;rw [hu]
      refine ⟨_,xs,rfl,Or.inr ⟨_,rfl⟩,by omega,fun y hy => ?_⟩
      obtain ⟨i,hi⟩ := List.getElem?_of_mem hy
      obtain ⟨A,ci,h1,h2,h3,h4,rfl⟩ := hxq i y hi
      exact ⟨A,rfl,by rw [h2.1];exact (World.cells?_some h1).2.1,h3⟩
     by_cases h0 : len = 0
     ·subst h0
      have : xs = [] := List.length_eq_zero_iff.1 hxl
      subst this
      exact ⟨_,RepL.cons (.vs0 (by simp)) RepL.nil,hplain,by simp [AV.flat]⟩
     ·-- the block
      have hpos := hp.1
      obtain ⟨y0,hy0⟩ : ∃ y,xs[0]? = some y := ⟨xs[0]'(by omega),List.getElem?_eq_getElem _⟩
      obtain ⟨A0,c0,hc0, -⟩ := hxq 0 y0 hy0
      obtain ⟨hsp0,arr,et,fr,hh, -, -⟩ := cells_at hc0 hpos
      have hb : ∀ j,(a.add j).block = a.block := by intro j;unfold Addr.add;split <;> rfl
      have ho : ∀ j,(a.add j).off = a.off + j := by
       intro j;unfold Addr.add;split
       ·rename_i hj;subst hj;rfl
       ·rfl
      rw [hb] at hh
      have hsp : a.spot = none := by simpa [Addr.add] using hsp0
      have hall : ∀ i j,i < len → j < P.cellsOf e → ∃ A ci,xs[i]? = some (elemOf A) ∧ (∀ c ∈ A,c.flat = true) ∧ RepL (allZ w) noPls A ci ∧ ci.length = P.cellsOf e ∧ arr[a.off + i * P.cellsOf e + j]? = ci[j]? := by
       intro i j hi hj
       obtain ⟨y,hy⟩ : ∃ y,xs[i]? = some y := ⟨xs[i]'(by omega),List.getElem?_eq_getElem _⟩
       obtain ⟨A,ci,h1,h2,h3,h4,rfl⟩ := hxq i y hy
       obtain ⟨-,arr',et',fr',hh',hl',hg⟩ := cells_at h1 hpos
       rw [hb,hh] at hh'
       obtain ⟨rfl,rfl,rfl⟩ : arr = arr' ∧ et = et' ∧ fr = fr' := by simpa using hh'
       have := hg j hj
       rw [ho] at this
       exact ⟨A,ci,hy,h4,h2,hl',this⟩
      have hfl : (xs.flatMap AV.cells).length = len * P.cellsOf e := by rw [flat_len hsz,hxl]
      have hfit : a.off + len * P.cellsOf e ≤ arr.size := by
       obtain ⟨A,ci, -, -, -,hl',hg⟩ := hall (len - 1) (P.cellsOf e - 1) (by omega) (by omega)
       rw [List.getElem?_eq_getElem (by omega)] at hg
       have := (Array.getElem?_eq_some_iff.1 hg).1
       have e1 : (len - 1) * P.cellsOf e + P.cellsOf e = len * P.cellsOf e := by
        have : len = (len - 1) + 1 := by omega
        conv => rhs;rw [this,Nat.succ_mul]
       omega
      refine ⟨[.vs (P.cellsOf e) xs (some cap)],RepL.cons ?_ RepL.nil,hplain,by simp [AV.flat]⟩
      have hval : (Value.slice (some a) len cap) = .slice (some ⟨a.block,(arr.toList.take a.off).length,none⟩) xs.length cap := by
       have : (arr.toList.take a.off).length = a.off := by simp;omega
       rw [this,hxl];cases a;simp_all
      rw [hval]
      refine .vs (vs := (arr.toList.drop a.off).take (len * P.cellsOf e)) (post := (arr.toList.drop a.off).drop (len * P.cellsOf e)) (pre := arr.toList.take a.off) (e := et) (fz := fr) (arr := arr) hh ?_ hsz ?_ ?_ (by simp) (by omega)
      ·rw [List.append_assoc,List.take_append_drop,List.take_append_drop]
      ·rw [hfl];simp;omega
      ·intro i c v hc hv
       have hi := (List.getElem?_eq_some_iff.1 hc).1
       rw [hfl] at hi
       have hq : i / P.cellsOf e < len := Nat.div_lt_of_lt_mul (by rw [Nat.mul_comm];exact hi)
       have hr : i % P.cellsOf e < P.cellsOf e := Nat.mod_lt _ hpos
       have hdm : i / P.cellsOf e * P.cellsOf e + i % P.cellsOf e = i := by rw [Nat.mul_comm];exact Nat.div_add_mod _ _
       obtain ⟨A,ci,hx,hA,hR,hl',hg⟩ := hall _ _ hq hr
       have hfa := (flat_at hsz hx).1
       rw [elem_cells hA] at hfa
       have hcA : A[i % P.cellsOf e]? = some c := by
        rw [← hfa,List.getElem?_take,if_pos hr,List.getElem?_drop,hdm];exact hc
       have hvA : ci[i % P.cellsOf e]? = some v := by
        rw [← hg]
        rw [List.getElem?_take,if_pos hi,List.getElem?_drop] at hv
        rw [show a.off + i / P.cellsOf e * P.cellsOf e + i % P.cellsOf e = a.off + i by omega]
        simpa using hv
       exact hR.2 _ _ _ hcA hvA
theorem plain_spare {base : Nat} {sp : Nat → Bool} : ∀ (N t fuel : Nat) (cs : List Value) (x : DataW HH × List MemPlace),plainT P N t = true → DataW.trod enc P w base (fun _ => true) true fuel t cs = some x →
  (∀ p ∈ x.2,sp p.block = true) → DataW.trod enc P w base sp true fuel t cs = some x
 | 0,_,_,_,_,hp,_,_ => by simp [plainT] at hp
 | N + 1,t,fuel,cs,x,hp,h,hs => by
  unfold plainT at hp
  cases fuel with
  | zero => simp [DataW.trod] at h
  | succ n =>
   cases hu : P.underlying t with
   | none => rw [hu] at hp;simp at hp
   | some u =>
    rw [hu] at hp
    cases u <;> simp only [Bool.false_eq_true] at hp
    case bool => obtain ⟨b,rfl,rfl⟩ := DataW.trod_bool hu h;rw [DataW.trod_step];unfold DataW.trodStep;rw [hu]
    case int k => obtain ⟨m,rfl,rfl,hw⟩ := DataW.trod_int hu h;rw [DataW.trod_step];unfold DataW.trodStep;rw [hu];simp [hw]
    case string => obtain ⟨m,rfl,rfl,hw⟩ := DataW.trod_string hu h;rw [DataW.trod_step];unfold DataW.trodStep;rw [hu];simp [hw]
    case struct fs =>
     rw [Bool.and_eq_true,List.all_eq_true] at hp
     rw [DataW.trod_step] at h ⊢
     unfold DataW.trodStep at h ⊢
     rw [hu] at h ⊢
     simp only at h ⊢
     split at h
     ·rename_i hl
      rw [if_pos hl]
      simp only [Option.map_eq_some_iff] at h ⊢
      obtain ⟨xs,hxs,rfl⟩ := h
      refine ⟨xs,mapM_carry hxs fun f y hf hy hfy => plain_spare N f.type n _ y (hp.2 f hf) hfy fun p hpm => hs p ?_,rfl⟩
      exact List.mem_flatMap.2 ⟨y,hy,hpm⟩
     ·cases h
    case slice e =>
     simp only [Bool.and_eq_true,decide_eq_true_eq] at hp
     have h0 := h
     rw [DataW.trod_step] at h ⊢
     unfold DataW.trodStep at h ⊢
     rw [hu] at h ⊢
     rcases DataW.trod_slice hu h0 with ⟨rfl,rfl⟩ | ⟨a,len,cap,elems,rest,n',hn',rfl,rfl, -,hlc,hcm,hel,hget,hrest, -⟩
     ·rfl
     ·simp only at h ⊢
      split at h
      ·rename_i hc
       rw [if_pos hc]
       simp only [if_true,Option.bind_eq_some_iff,Option.map_eq_some_iff] at h ⊢
       obtain ⟨es,hes,rs,hrs,heq⟩ := h
       have hin : ∀ y,y ∈ es ++ rs → ∀ p ∈ y.2,sp p.block = true := by
        intro y hy p hpm
        refine hs p ?_
        have := congrArg Prod.snd heq
        simp only at this
        rw [← this]
        exact List.mem_append_right _ (List.mem_flatMap.2 ⟨y,hy,hpm⟩)
       refine ⟨es,mapM_carry hes fun i y _ hy hfy => ?_,rs, ?_,heq⟩
       ·obtain ⟨ci,h1,h2⟩ := Option.bind_eq_some_iff.1 hfy
        rw [h1]
        exact plain_spare N e n ci y hp.2 h2 (hin y (List.mem_append_left _ hy))
       ·have hrl : rs.length = cap - len := by
         have := mapM_some_length hrs
         simpa using this
        by_cases hz : cap - len = 0
        ·have : rs = [] := List.length_eq_zero_iff.1 (by omega)
         subst this
         split
         ·rw [hz] at hrs ⊢;exact hrs
         ·rfl
        ·have hsp : sp a.block = true := by
          have hel' : es.length = len := by
           have := mapM_some_length hes
           simpa using this
          have := congrArg Prod.snd heq
          simp only at this
          have hm : MemPlace.cell a.block (a.off + 0) ∈ MemPlace.row a ((elems.length + rest.length) * P.cellsOf e) ++ (elems ++ rest).flatMap (·.2) := by
           rw [← this]
           refine List.mem_append_left _ (MemPlace.mem_row.2 ⟨0, ?_,rfl⟩)
           exact Nat.mul_pos (by omega) hp.1
          exact hs _ hm
         rw [if_pos hsp]
         refine mapM_carry hrs fun i y _ hy hfy => ?_
         obtain ⟨ci,h1,h2⟩ := Option.bind_eq_some_iff.1 hfy
         rw [h1]
         exact plain_spare N e n ci y hp.2 h2 (hin y (List.mem_append_right _ hy))
      ·cases h
end
end Go.Ev
namespace Go.Ev
open Go.ChangeShapes Go.WideShapes Go.ChangeAt Go.RowKit
def Arg (P : Program) (N : Nat) (t : TypeId) (x : AV) : Prop :=
 match P.underlying t with
 | some (.struct _) => ∃ A,x = .agg A ∧ Plain P N t A
 | _ => Plain P N t [x]
inductive ArgsOf (P : Program) (N : Nat) : List TypeId → List AV → Prop
 | nil : ArgsOf P N [] []
 | cons {t : TypeId} {ts : List TypeId} {x : AV} {xs : List AV} (h : Arg P N t x) (hs : ArgsOf P N ts xs) : ArgsOf P N (t :: ts) (x :: xs)
section
variable {HH : Type} {enc : TypeId × Value → HH} {P : Program} {w : World}
theorem arg_rep {N base : Nat} {t : TypeId} {v : Value} {d : DataW HH} {ps : List MemPlace} (hp : plainT P N t = true) (hok : Value.okWide P w .any base t v) (h : DataW.Trod enc P w 0 (fun _ => true) true t v d ps) :
  ∃ x,Rep (allZ w) noPls x v ∧ Arg P N t x := by
 obtain ⟨fuel,h⟩ := h
 obtain ⟨A,hA,hpl,hfl⟩ := plain_rep N t fuel _ _ hp h
 cases N with
 | zero => simp [plainT] at hp
 | succ N =>
  have one : ∀ (hv : v.cells.toList = [v]),(∃ c,A = [c]) → (∀ fs,P.underlying t ≠ some (.struct fs)) → ∃ x,Rep (allZ w) noPls x v ∧ Arg P (N + 1) t x := by
   rintro hv ⟨c,rfl⟩ hns
   rw [hv] at hA
   obtain ⟨v',ws,e,hr, -⟩ := hA.uncons
   cases e
   refine ⟨c,hr, ?_⟩
   unfold Arg
   split
   ·rename_i fs hu;exact absurd hu (hns fs)
   ·exact hpl
  unfold plainT at hp
  unfold Value.okWide at hok
  have hpl' := hpl
  unfold Plain at hpl'
  cases hu : P.underlying t with
  | none => rw [hu] at hp;simp at hp
  | some u =>
   rw [hu] at hp hok hpl'
   cases u <;> simp only [Bool.false_eq_true] at hp hok hpl'
   case bool =>
    obtain ⟨b,rfl⟩ := hpl'
    refine one ?_ ⟨_,rfl⟩ (by simp [hu])
    unfold Cell.okWide Cell.ok at hok;rw [hu] at hok
    cases v <;> first | rfl | simp at hok
   case int k =>
    obtain ⟨m,rfl, -⟩ := hpl'
    refine one ?_ ⟨_,rfl⟩ (by simp [hu])
    unfold Cell.okWide Cell.ok at hok;rw [hu] at hok
    cases v <;> first | rfl | simp at hok
   case string =>
    obtain ⟨m,rfl, -⟩ := hpl'
    refine one ?_ ⟨_,rfl⟩ (by simp [hu])
    unfold Cell.okWide Cell.ok at hok;rw [hu] at hok
    cases v <;> first | rfl | simp at hok
   case slice e =>
    obtain ⟨x,xs,rfl, -⟩ := hpl'
    refine one ?_ ⟨_,rfl⟩ (by simp [hu])
    unfold Cell.okWide Cell.ok at hok;rw [hu] at hok
    cases v <;> first | rfl | simp at hok
   case struct fs =>
    obtain ⟨cs,rfl, -, -⟩ := hok
    refine ⟨.agg A, ?_, ?_⟩
    ·have := hA.agg
     simpa [Value.cells] using this
    ·unfold Arg;rw [hu];exact ⟨A,rfl,hpl⟩
theorem args_rep {N base : Nat} : ∀ {ts : List TypeId} {vs : List Value} {ds : List (DataW HH)} {ps : List MemPlace},ts.all (plainT P N) = true → (∀ (j : Nat) t v,ts[j]? = some t → vs[j]? = some v → Value.okWide P w .any base t v) →
  DataW.TrodAll enc P w 0 (fun _ => true) true ts vs ds ps → ∃ xs,RepL (allZ w) noPls xs vs ∧ ArgsOf P N ts xs
 | [],vs,ds,ps,_,_,h => by
  cases vs <;> cases ds <;> simp [DataW.TrodAll] at h
  exact ⟨[],RepL.nil,.nil⟩
 | t :: ts,vs,ds,ps,hp,hok,h => by
  obtain ⟨v,vs',d,ds',p,q,rfl,rfl,rfl,h1,h2⟩ := trodAll_cons h
  simp only [List.all_cons,Bool.and_eq_true] at hp
  obtain ⟨x,hx,hax⟩ := arg_rep hp.1 (hok 0 t v rfl rfl) h1
  obtain ⟨xs,hxs,haxs⟩ := args_rep hp.2 (fun j t' v' ht hv => hok (j + 1) t' v' (by simpa using ht) (by simpa using hv)) h2
  exact ⟨x :: xs,RepL.cons hx hxs,.cons hax haxs⟩
theorem trod_after {w' : World} (hh : ∀ k,k < w.heap.size → w'.heap[k]? = w.heap[k]?) {N : Nat} {sp : Nat → Bool} : ∀ {ts : List TypeId} {vs : List Value} {ds : List (DataW HH)} {ps : List MemPlace},ts.all (plainT P N) = true →
  DataW.TrodAll enc P w 0 (fun _ => true) true ts vs ds ps → (∀ p ∈ ps,sp p.block = true) → DataW.TrodAll enc P w' 0 sp true ts vs ds ps
 | [],vs,ds,ps,_,h,_ => by
  cases vs <;> cases ds <;> simp [DataW.TrodAll] at h ⊢
  exact h
 | t :: ts,vs,ds,ps,hp,h,hs => by
  obtain ⟨v,vs',d,ds',p,q,rfl,rfl,rfl,⟨fuel,h1⟩,h2⟩ := trodAll_cons h
  simp only [List.all_cons,Bool.and_eq_true] at hp
  refine ⟨p,q,⟨fuel, ?_⟩,trod_after hh hp.2 h2 fun p hp => hs p (List.mem_append_right _ hp),rfl⟩
  have hlt := DataW.trod_lt _ _ _ _ h1
  refine plain_spare N t fuel _ _ hp.1 (DataW.trod_carry _ _ _ _ h1 fun p hp => ?_) fun p hp => hs p (List.mem_append_left _ hp)
  have := hlt p hp
  cases p with
  | cell b off =>
   have hb : b < w.heap.size := this
   simp only [World.sameAt,World.cell?,hh b hb]
  | map b =>
   have hb : b < w.heap.size := this
   simp only [World.sameAt,hh b hb]
theorem trodAll_len {b : Nat} {sp : Nat → Bool} {hd : Bool} : ∀ {ts : List TypeId} {vs : List Value} {ds : List (DataW HH)} {ps : List MemPlace},DataW.TrodAll enc P w b sp hd ts vs ds ps → ds.length = ts.length
 | [],vs,ds,ps,h => by cases vs <;> cases ds <;> simp [DataW.TrodAll] at h ⊢
 | t :: ts,vs,ds,ps,h => by
  obtain ⟨v,vs',d,ds',p,q,rfl,rfl,rfl,h1,h2⟩ := trodAll_cons h
  simp [trodAll_len h2]
theorem kept_of {w' : World} (hos : w'.os = w.os) (hout : w'.output = w.output) (hh : ∀ k,k < w.heap.size → w'.heap[k]? = w.heap[k]?) : w.keptBut w' (fun _ => False) := by
 refine ⟨hos,hout,fun i hi => ?_⟩
 rw [hh i hi]
 cases h : w.heap[i]? with
 | none => simp
 | some o => cases o <;> simp
theorem post_of_old {f : Func} {s : ChangeSpec} {apart fresh handsOn again : Bool} {W W' : World} {args : Array Value} {v : Value} {ds gs : List (DataW HH)} {before pa pv : List MemPlace}
  (hW : DataW.Whole enc P f.params.toList s.vars apart W args.toList ds gs before)
  (hres : ∀ (b : Nat) (sp : Nat → Bool) (hd : Bool),DataW.TrodAll enc P W' b sp hd f.resultTypes.toList (v.resultList f.resultTypes.size) (s.fn HH (ds ++ gs)).results [])
  (hargs : ∀ sp : Nat → Bool,(∀ p ∈ before,sp p.block = true) → DataW.TrodAll enc P W' 0 sp true f.params.toList args.toList (s.fn HH (ds ++ gs)).args pa)
  (hvars : ∀ sp : Nat → Bool,(∀ p ∈ before,sp p.block = true) → DataW.TrodVars enc P W' sp s.vars (s.fn HH (ds ++ gs)).vars pv)
  (hps : before = pa ++ pv) (hk : W.keptBut W' (· ∈ before)) (hfz : ∀ a : Addr,a.block < W.heap.size → W'.frozen? a = W.frozen? a)
  (hok : ∀ (j : Nat) (t : TypeId) (r : Value),f.resultTypes[j]? = some t → (v.resultList f.resultTypes.size)[j]? = some r → Value.okWide P W' .any 0 t r) :
  s.post enc P f apart fresh handsOn again W args v W' := by
 have hold : ∀ p ∈ before,(fun b => decide (b < W.heap.size)) p.block = true := fun p hp => by simpa using hW.lt p hp
 have hlt := hW.lt
 refine ⟨ds,gs,before,[],pa,pv,hW,hres _ _ _,hargs _ hold,hvars _ hold,World.keptBut_mono (fun p hp => ⟨hp, ?_⟩) hk,fun _ => ?_⟩
 ·rw [hps,List.mem_append] at hp
  exact Or.inr hp
 ·obtain ⟨_,_,_,_,_,hz,hn⟩ := hW
  refine ⟨hok,_,_,([] ++ pa) ++ pv,⟨[] ++ pa,pv,trodAll_append (hargs _ (fun _ _ => rfl)) (hres _ _ _),hvars _ (fun _ _ => rfl),rfl, ?_, ?_⟩, ?_⟩
  ·intro b off hp
   have hp' : MemPlace.cell b off ∈ before := by rw [hps];simpa using hp
   rw [hfz ⟨b,off,none⟩ (hlt _ hp')]
   exact hz b off hp'
  ·intro ha
   have := hn ha
   rw [hps] at this
   simpa using this
  ·intro p hp _
   rw [hps]
   simpa using hp
theorem law_contract {C : Cfg} (hP : C.P = P) (hgo : NoGo P) (hm : P.follows .mixedOrders = true) (hext : ExtOK C) {f : FuncId} {fn : Func} {s : ChangeSpec} {N : Nat} {apart fresh handsOn again : Bool} {tb : TypeId}
  (hpl : fn.params.toList.all (plainT P N) = true) (hvars : s.vars = []) (hspec : ∀ ds : List (DataW HH),ds.length = fn.params.size → s.fn HH ds = { results := [.lit (.bool true)],args := ds })
  (hrt : fn.resultTypes = #[tb]) (htb : P.underlying tb = some .bool)
  (hlaw : ∀ xs,ArgsOf P N fn.params.toList xs → ∃ H',lim C (.call f xs { objs := [],lock := 0 }) = some (.ret (.v (.bool true)) H'))
  {W : World} {base : Nat} {args : Array Value} {ds gs : List (DataW HH)} {before : List MemPlace}
  (hval : ∀ (j : Nat) t v,fn.params[j]? = some t → args[j]? = some v → Value.okWide P W .any base t v)
  (hW : DataW.Whole enc P fn.params.toList s.vars apart W args.toList ds gs before) (hg : laidOk (allZ W) := by intro p hp;cases hp) :
  Calls P f args W fun e W' => ∃ v,e = .returned v ∧ s.post enc P fn apart fresh handsOn again W args v W' := by
 subst hP
 have hW' := hW
 obtain ⟨p,q,hA,hV,rfl,hfz,hnd⟩ := hW
 have hV' := hV
 rw [hvars] at hV'
 obtain ⟨rfl,rfl⟩ := trodVars_none hV'
 obtain ⟨xs,hxs,hax⟩ := args_rep hpl (fun j t v ht hv => hval j t v (by simpa using ht) (by simpa using hv)) hA
 obtain ⟨H',hl⟩ := hlaw xs hax
 have hc := top_calls hg hgo hm hext hl hxs
 have hlen : ds.length = fn.params.size := by have := trodAll_len hA;simpa using this
 have hsf : s.fn HH (ds ++ []) = { results := [.lit (.bool true)],args := ds } := by rw [List.append_nil];exact hspec ds hlen
 refine Calls.mono' hc ?_
 rintro e W' ⟨rfl,hh,hsz,hos,hout, -,hfr⟩
 refine ⟨_,rfl,post_of_old (pa := p) (pv := []) hW' ?_ ?_ ?_ rfl (World.keptBut_mono (fun _ h => h.elim) (kept_of hos hout hh)) hfr ?_⟩
 ·intro b sp hd
  rw [hsf,hrt]
  exact trodAll_mk1 (shut_bool htb true)
 ·intro sp hsp
  rw [hsf]
  exact trod_after hh hpl hA fun x hx => hsp x (List.mem_append_left _ hx)
 ·intro sp hsp
  rw [hsf,hvars]
  rfl
 ·exact ok_one hrt rfl (okWide_bool_mk htb true)
end
end Go.Ev
namespace Go.Ev
open Go.Proofs
attribute [local irreducible] Wp WpS
theorem all2_of {α β : Type} {R : α → β → Prop} : ∀ (xs : List β),(∀ y ∈ xs,∃ a,R a y) → ∃ l,All2 R l xs
 | [],_ => ⟨[],rfl,fun i a b h => by simp at h⟩
 | y :: r,h => by
  obtain ⟨a,ha⟩ := h y List.mem_cons_self
  obtain ⟨l,hl⟩ := all2_of r fun z hz => h z (List.mem_cons_of_mem _ hz)
  refine ⟨a :: l,by simp [hl.1],fun i x z hx hz => ?_⟩
  cases i with
  | zero => simp at hx hz;subst hx;subst hz;exact ha
  | succ i => exact hl.2 i x z (by simpa using hx) (by simpa using hz)
theorem All2.mem_left {α β : Type} {R : α → β → Prop} {l : List α} {m : List β} (h : All2 R l m) {a : α} (ha : a ∈ l) : ∃ b ∈ m,R a b := by
 obtain ⟨i,hi⟩ := List.getElem?_of_mem ha
 obtain ⟨b,hb,hr⟩ := h.get hi
 exact ⟨b,List.mem_of_getElem? hb,hr⟩
def fieldsAt (P : Program) (t : TypeId) : List (Nat × Nat) := match P.underlying t with | some (.struct fs) => fs.toList.map fun f => (f.offset,f.type) | _ => []
def isStruct (P : Program) (t : TypeId) : Bool := match P.underlying t with | some (.struct _) => true | _ => false
theorem plain_struct {P : Program} {N t : Nat} {cs : List AV} {l : List (Nat × Nat)} (hs : isStruct P t = true) (hl : fieldsAt P t = l) (h : Plain P (N + 1) t cs) : cs.length = P.cellsOf t ∧ ∀ x ∈ l,Plain P N x.2 ((cs.drop x.1).take (P.cellsOf x.2)) := by
 unfold Plain at h
 unfold isStruct at hs
 unfold fieldsAt at hl
 split at hs
 ·rename_i fs hu
  rw [hu] at h hl
  simp only at h hl
  refine ⟨h.1,fun x hx => ?_⟩
  rw [← hl] at hx
  obtain ⟨f,hf,rfl⟩ := List.mem_map.1 hx
  exact h.2 f hf
 ·cases hs
theorem arg_struct {P : Program} {N t : Nat} {x : AV} (hs : isStruct P t = true) (h : Arg P N t x) : ∃ A,x = .agg A ∧ Plain P N t A := by
 unfold Arg at h
 unfold isStruct at hs
 split at hs
 ·rename_i fs hu;rw [hu] at h;exact h
 ·cases hs
theorem plain_slice {P : Program} {N t e c : Nat} {cs : List AV} (hu : P.underlying t = some (.slice e)) (hc : P.cellsOf e = c) (h : Plain P (N + 1) t cs) : ∃ x xs,cs = [x] ∧ SlOf c xs x ∧ xs.length ≤ maxLen ∧ ∀ y ∈ xs,∃ d,y = elemOf d ∧ d.length = c ∧ Plain P N e d := by
 unfold Plain at h;rw [hu] at h;subst hc;exact h
theorem plain_int {P : Program} {N t : Nat} {k : IntKind} {cs : List AV} (hu : P.underlying t = some (.int k)) (h : Plain P (N + 1) t cs) : ∃ m,cs = [.v (.int k m)] ∧ (Lit.int k m).wf = true := by
 unfold Plain at h;rw [hu] at h;exact h
theorem plain_string {P : Program} {N t : Nat} {cs : List AV} (hu : P.underlying t = some .string) (h : Plain P (N + 1) t cs) : ∃ s,cs = [.v (.string s)] ∧ s.size ≤ maxLen := by
 unfold Plain at h;rw [hu] at h;exact h
theorem two_cells {l : List AV} (h : l.length = 2) : ∃ a b,l = [a,b] := by
 match l,h with
 | [a,b],_ => exact ⟨a,b,rfl⟩
theorem maxLen_lt : maxLen < 2 ^ 63 := by decide
def LineF (ws : Line) (x : AV) : Prop := LineA ws x ∧ ws.length < 2 ^ 63 ∧ ∀ s ∈ ws,s.size < 2 ^ 63
def ChapF (c : Chap) (y : AV) : Prop := ChapA c y ∧ c.2.length < 2 ^ 63 ∧ ∀ l ∈ c.2,l.length < 2 ^ 63 ∧ ∀ s ∈ l,s.size < 2 ^ 63
theorem line_of {N : Nat} {cs : List AV} (h : Plain Tryz.prog (N + 2) 87 cs) : ∃ ws x,cs = [x] ∧ LineF ws x := by
 obtain ⟨x,xs,rfl,hx,hlen,hxs⟩ := plain_slice (c := 1) (by kernel_rfl : Tryz.prog.underlying 87 = some (.slice 9)) (by kernel_rfl) h
 have key : ∀ y ∈ xs,∃ s : ByteArray,y = .v (.string s) ∧ s.size ≤ maxLen := by
  intro y hy
  obtain ⟨d,rfl, -,hd⟩ := hxs y hy
  obtain ⟨s,rfl,hs⟩ := plain_string (by kernel_rfl : Tryz.prog.underlying 9 = some .string) hd
  exact ⟨s,rfl,hs⟩
 obtain ⟨ws,hws⟩ := all2_of (R := fun (s : ByteArray) y => y = AV.v (.string s) ∧ s.size ≤ maxLen) xs key
 have he : xs = strs ws := by
  unfold strs
  apply List.ext_getElem?
  intro i
  rw [List.getElem?_map]
  cases hi : ws[i]? with
  | none =>
   rw [List.getElem?_eq_none_iff] at hi
   rw [Option.map_none,List.getElem?_eq_none_iff]
   rw [← hws.1];exact hi
  | some s =>
   obtain ⟨b,hb,rfl, -⟩ := hws.get hi
   rw [hb];rfl
 have := maxLen_lt
 subst he
 refine ⟨ws,x,rfl,hx,by rw [strs_len] at hlen;omega,fun s hs => ?_⟩
 obtain ⟨b, -, -,h2⟩ := hws.mem_left hs
 omega
theorem chap_of {N : Nat} {cs : List AV} (h : Plain Tryz.prog (N + 4) 112 cs) : ∃ c,ChapF c (.agg cs) := by
 obtain ⟨hl,hf⟩ := plain_struct (l := [(0,3),(1,110)]) (by kernel_rfl) (by kernel_rfl) h
 obtain ⟨a,b,rfl⟩ := two_cells (hl.trans (by kernel_rfl))
 have h0 := hf (0,3) (by simp)
 have h1 := hf (1,110) (by simp)
 have e0 : Tryz.prog.cellsOf 3 = 1 := by kernel_rfl
 have e1 : Tryz.prog.cellsOf 110 = 1 := by kernel_rfl
 simp only [e0,e1,List.drop_zero,List.drop_succ_cons,List.take_succ_cons,List.take_zero] at h0 h1
 obtain ⟨m,hm, -⟩ := plain_int (by kernel_rfl : Tryz.prog.underlying 3 = some (.int .i64)) h0
 obtain ⟨x,xs,hx,hsl,hlen,hxs⟩ := plain_slice (c := 1) (by kernel_rfl : Tryz.prog.underlying 110 = some (.slice 87)) (by kernel_rfl) h1
 simp only [List.cons.injEq,and_true] at hm hx
 subst hm;subst hx
 have key : ∀ y ∈ xs,∃ ws,LineF ws y := by
  intro y hy
  obtain ⟨d,rfl, -,hd⟩ := hxs y hy
  obtain ⟨ws,z,rfl,hz⟩ := line_of hd
  exact ⟨ws,hz⟩
 obtain ⟨ls,hls⟩ := all2_of xs key
 have := maxLen_lt
 refine ⟨(m,ls),⟨_,rfl,xs,hsl,hls.1,fun i a b ha hb => (hls.2 i a b ha hb).1⟩,by have := hls.1;show ls.length < _;omega,fun l hl => ?_⟩
 obtain ⟨b, -,hb⟩ := hls.mem_left hl
 exact ⟨hb.2.1,hb.2.2⟩
theorem text_of {N : Nat} {x : AV} (h : Arg Tryz.prog (N + 6) 24 x) : ∃ t,TextA t x ∧ Fits t := by
 obtain ⟨A,rfl,hp⟩ := arg_struct (by kernel_rfl) h
 obtain ⟨hl,hf⟩ := plain_struct (l := [(0,22)]) (by kernel_rfl) (by kernel_rfl) hp
 have h0 := hf (0,22) (by simp)
 have hl1 : A.length = 1 := hl.trans (by kernel_rfl)
 obtain ⟨ch,rfl⟩ : ∃ c,A = [c] := by
  match A,hl1 with
  | [a],_ => exact ⟨a,rfl⟩
 have e0 : Tryz.prog.cellsOf 22 = 1 := by kernel_rfl
 simp only [e0,List.drop_zero,List.take_succ_cons,List.take_zero] at h0
 obtain ⟨y,xs,hy,hsl,hlen,hxs⟩ := plain_slice (c := 2) (by kernel_rfl : Tryz.prog.underlying 22 = some (.slice 112)) (by kernel_rfl) h0
 simp only [List.cons.injEq,and_true] at hy
 subst hy
 have key : ∀ y ∈ xs,∃ c,ChapF c y := by
  intro y hy
  obtain ⟨d,rfl,hd2,hd⟩ := hxs y hy
  obtain ⟨a,b,rfl⟩ := two_cells hd2
  exact chap_of hd
 obtain ⟨t,ht⟩ := all2_of xs key
 have := maxLen_lt
 have hmem : ∀ c ∈ t,c.2.length < 2 ^ 63 ∧ ∀ l ∈ c.2,l.length < 2 ^ 63 ∧ ∀ s ∈ l,s.size < 2 ^ 63 := fun c hc => by
  obtain ⟨b, -,hb⟩ := ht.mem_left hc
  exact hb.2
 exact ⟨t,⟨ch,rfl,xs,hsl,ht.1,fun i a b ha hb => (ht.2 i a b ha hb).1⟩,by have := ht.1;omega,fun c hc => (hmem c hc).1,fun c hc l hl => ((hmem c hc).2 l hl).1,fun c hc l hl s hs => ((hmem c hc).2 l hl).2 s hs⟩
theorem u16_of {N : Nat} {x : AV} (h : Arg Tryz.prog (N + 1) 76 x) : ∃ n : Nat,n < 65536 ∧ x = .v (.int .u16 n) := by
 unfold Arg at h
 have hu : Tryz.prog.underlying 76 = some (.int .u16) := by kernel_rfl
 rw [hu] at h
 obtain ⟨m,hm,hw⟩ := plain_int hu h
 simp only [List.cons.injEq,and_true] at hm
 have : 0 ≤ m ∧ m < 65536 := by
  have h2 : (decide (IntKind.u16.min ≤ m) && decide (m ≤ IntKind.u16.max)) = true := hw
  have e1 : IntKind.u16.min = 0 := by decide
  have e2 : IntKind.u16.max = 65535 := by decide
  rw [e1,e2] at h2
  simp at h2;omega
 exact ⟨m.toNat,by omega,by rw [hm,Int.toNat_of_nonneg this.1]⟩
theorem freeze_to_v {H : Heap} {K : Nat} {x : AV} {y : Value} (h : freezeV H K x = some (.v y)) : x = .v y := by
 cases K with
 | zero => cases h
 | succ K =>
  unfold freezeV at h
  cases x with
  | v z => simpa using h
  | ro z k => simp at h
  | vs s l c => simp at h
  | agg l => simp only [Option.map_eq_some_iff] at h;obtain ⟨_,_,h⟩ := h;cases h
  | tup l => simp only [Option.map_eq_some_iff] at h;obtain ⟨_,_,h⟩ := h;cases h
  | ifc t z => simp only [Option.map_eq_some_iff] at h;obtain ⟨_,_,h⟩ := h;cases h
  | mp b => simp only at h;split at h <;> simp at h
  | yld b => simp only at h;split at h <;> simp at h
  | fn f a b => simp only at h;split at h <;> simp at h
  | ptr b v k =>
   simp only at h
   split at h
   ·simp at h
   ·split at h
    ·split at h
     ·split at h <;> simp at h
     ·simp at h
    ·simp at h
  | sl b v off len c =>
   simp only at h
   split at h
   ·simp at h
   ·split at h
    ·split at h
     ·split at h
      ·simp at h
      ·split at h
       ·split at h <;> simp at h
       ·simp at h
     ·simp at h
    ·simp at h
theorem Ans.lim {C : Cfg} {f : FuncId} {args : List AV} (h : Ans C f args (.v (.bool true))) : ∃ H',Go.Ev.lim C (.call f args { objs := [],lock := 0 }) = some (.ret (.v (.bool true)) H') := by
 obtain ⟨x,H,h1,h2⟩ := Ans.iff.1 h
 rw [freeze_to_v h2] at h1
 exact ⟨H,h1⟩
end Go.Ev
namespace Go.Ev
abbrev Fm := List (Nat × AObj)
def Has (m : Fm) (H : Heap) : Prop := ∀ p ∈ m,H.get p.1 = some p.2
def keyIn (b : Nat) (m : Fm) : Prop := ∃ p ∈ m,p.1 = b
def Anch (n0 : Nat) (m : Fm) : Prop := ∀ n,n0 ≤ n → (∃ p ∈ m,n ≤ p.1) → ∃ p ∈ m,p.1 < n ∧ n < p.2.bound
structure Moves (m : Fm) (H : Heap) (m' : Fm) (H' : Heap) : Prop where
 lock : H'.lock = H.lock
 size : H.size ≤ H'.size
 same : ∀ b,b < H.size → ¬ keyIn b m → H'.get b = H.get b
 keys : ∀ p ∈ m',keyIn p.1 m ∨ H.size ≤ p.1
theorem boundsOk_getI {n : Nat} : ∀ {l : List (Option AObj)} {b : Nat} {o : AObj},boundsOk n l = true → l[b]? = some (some o) → o.bound ≤ n
 | [],b,o,_,h => by simp at h
 | none :: r,0,o,_,h => by simp at h
 | none :: r,b + 1,o,hb,h => boundsOk_getI (l := r) (b := b) (by simpa [boundsOk] using hb) (by simpa using h)
 | some x :: r,0,o,hb,h => by
  simp at h;subst h
  simp only [boundsOk,Bool.and_eq_true] at hb
  exact Nat.le_of_ble_eq_true hb.1
 | some x :: r,b + 1,o,hb,h => by
  simp only [boundsOk,Bool.and_eq_true] at hb
  exact boundsOk_getI (l := r) (b := b) hb.2 (by simpa using h)
theorem trim_cases (H : Heap) (n : Nat) (vs : List AV) (ms : List Nat) : H.trim n vs ms = H ∨ (H.trim n vs ms = { H with objs := H.objs.take n } ∧ boundsOk n (H.objs.take n) = true) := by
 unfold Heap.trim
 split
 ·rename_i h
  simp only [Bool.and_eq_true] at h
  exact Or.inr ⟨rfl,h.1.2⟩
 ·exact Or.inl rfl
theorem take_get {H : Heap} {n b : Nat} (h : b < n) : (Heap.mk (H.objs.take n) H.lock).get b = H.get b := by
 unfold Heap.get;simp only;rw [List.getElem?_take,if_pos h]
theorem get_objs {H : Heap} {b : Nat} {o : AObj} (h : H.get b = some o) : H.objs[b]? = some (some o) := by
 unfold Heap.get at h
 cases hb : H.objs[b]? with
 | none => rw [hb] at h;cases h
 | some x => rw [hb] at h;cases x with
  | none => cases h
  | some y => cases h;rfl
theorem Has.trim {m : Fm} {H : Heap} {n0 n : Nat} (h : Has m H) (ha : Anch n0 m) (hn : n0 ≤ n) (vs : List AV) (ms : List Nat) : Has m (H.trim n vs ms) := by
 rcases trim_cases H n vs ms with h1 | ⟨h1,h2⟩
 ·rw [h1];exact h
 ·rw [h1]
  have key : ∀ p ∈ m,p.1 < n := by
   intro p hp
   rcases Nat.lt_or_ge p.1 n with hlt | hge
   ·exact hlt
   ·obtain ⟨q,hq,hq1,hq2⟩ := ha n hn ⟨p,hp,hge⟩
    have := boundsOk_getI h2 (b := q.1) (o := q.2) (by rw [List.getElem?_take,if_pos hq1];exact get_objs (h q hq))
    omega
  intro p hp
  show (Heap.mk (H.objs.take n) H.lock).get p.1 = _
  rw [take_get (key p hp)];exact h p hp
theorem Has.settle {m : Fm} {H : Heap} (h : Has m H) (n : Nat) : Has m (settleH n H) := by
 unfold settleH
 split
 ·rename_i hn
  have key : ∀ p ∈ m,p.1 < n := by
   intro p hp
   rcases Nat.lt_or_ge p.1 n with hlt | hge
   ·exact hlt
   ·have h1 := get_objs (h p hp)
    have h2 : (H.objs.drop n)[p.1 - n]? = some (some p.2) := by rw [List.getElem?_drop,show n + (p.1 - n) = p.1 by omega];exact h1
    have := List.all_eq_true.1 hn _ (List.mem_of_getElem? h2)
    simp at this
  intro p hp
  show (Heap.mk (H.objs.take n) H.lock).get p.1 = _
  rw [take_get (key p hp)];exact h p hp
 ·exact h
theorem Moves.refl (m : Fm) (H : Heap) : Moves m H m H := ⟨rfl,Nat.le_refl _,fun _ _ _ => rfl,fun p hp => Or.inl ⟨p,hp,rfl⟩⟩
theorem Moves.trans {m m' m'' : Fm} {H H' H'' : Heap} (h : Moves m H m' H') (k : Moves m' H' m'' H'') : Moves m H m'' H'' := by
 refine ⟨k.lock.trans h.lock,Nat.le_trans h.size k.size,fun b hb hm => ?_,fun p hp => ?_⟩
 ·have h1 : ¬ keyIn b m' := by
   rintro ⟨p,hp,rfl⟩
   rcases h.keys p hp with h2 | h2
   ·exact hm h2
   ·omega
  rw [k.same b (Nat.lt_of_lt_of_le hb h.size) h1,h.same b hb hm]
 ·rcases k.keys p hp with ⟨q,hq,he⟩ | h2
  ·rcases h.keys q hq with h3 | h3
   ·exact Or.inl (he ▸ h3)
   ·exact Or.inr (he ▸ h3)
  ·exact Or.inr (Nat.le_trans h.size h2)
theorem Moves.trim {m m' : Fm} {H H' : Heap} (h : Moves m H m' H') (vs : List AV) (ms : List Nat) {n : Nat} (hn : n = H.size) : Moves m H m' (H'.trim n vs ms) := by
 subst hn
 rcases trim_cases H' H.size vs ms with h1 | ⟨h1, -⟩
 ·rw [h1];exact h
 ·rw [h1]
  refine ⟨h.lock, ?_,fun b hb hm => ?_,h.keys⟩
  ·show H.size ≤ (H'.objs.take H.size).length
   have := h.size
   rw [List.length_take];unfold Heap.size at *;omega
  ·show (Heap.mk (H'.objs.take H.size) H'.lock).get b = _
   rw [take_get hb];exact h.same b hb hm
theorem Moves.settle {m m' : Fm} {H H' : Heap} (h : Moves m H m' H') {n : Nat} (hn : n = H.size) : Moves m H m' (settleH n H') := by
 subst hn
 unfold settleH
 split
 ·refine ⟨h.lock, ?_,fun b hb hm => ?_,h.keys⟩
  ·show H.size ≤ (H'.objs.take H.size).length
   have := h.size
   rw [List.length_take];unfold Heap.size at *;omega
  ·show (Heap.mk (H'.objs.take H.size) H'.lock).get b = _
   rw [take_get hb];exact h.same b hb hm
 ·exact h
theorem Moves.plus (m : Fm) (H : Heap) (E : List (Option AObj)) : Moves m H m (H.plus E) :=
 ⟨rfl,by rw [plus_size];omega,fun b hb _ => plus_get E hb,fun p hp => Or.inl ⟨p,hp,rfl⟩⟩
theorem Has.plus {m : Fm} {H : Heap} (h : Has m H) (E : List (Option AObj)) : Has m (H.plus E) := fun p hp => by rw [plus_get E (get_ltS (h p hp))];exact h p hp
theorem Moves.put {m m' : Fm} {H H' : Heap} (h : Moves m H m' H') {b : Nat} (o : AObj) (hb : H.size ≤ b) (hb2 : b < H'.size) : Moves m H m' (H'.put b o) := by
 refine ⟨h.lock,by rw [put_sizeI o hb2];exact h.size,fun c hc hm => ?_,h.keys⟩
 rw [put_get_ne o (by omega) (by omega)];exact h.same c hc hm
theorem Has.put {m : Fm} {H : Heap} (h : Has m H) {b : Nat} (o : AObj) (hb : b ≤ H.size) (hm : ¬ keyIn b m) : Has m (H.put b o) := fun p hp => by
 rw [put_get_ne o hb (fun e => hm ⟨p,hp,e⟩)];exact h p hp
def okRun {S : Type} (stp : S → List AV → Bool × S) (ok : S → List AV → Prop) : List (List AV) → S → Prop
 | [],_ => True
 | x :: r,s => ok s x ∧ ((stp s x).1 = true → okRun stp ok r (stp s x).2)
structure Src2 (C : Cfg) (l : Nat) (S : Type) (R : S → Fm → Prop) (stp : S → List AV → Bool × S) (ok : S → List AV → Prop) (live : S → Prop) (n0 k : Nat) : Prop where
 anch : ∀ s m,R s m → Anch n0 m
 klock : k ≤ n0
 step : ∀ s x,live s → ok s x → (stp s x).1 = true → live (stp s x).2
 round : ∀ s m x H,live s → ok s x → R s m → Has m H → H.lock = k → n0 ≤ H.size → ∃ H' m',lim C (.round l x H) = some (.ret (.v (.bool (stp s x).1)) H') ∧ R (stp s x).2 m' ∧ Has m' H' ∧ Moves m H m' H'
def Yields2 (C : Cfg) (f : FuncId) (cap : List AV) (items : List (List AV)) : Prop :=
 ∀ (l : Nat) (S : Type) (R : S → Fm → Prop) (stp : S → List AV → Bool × S) (ok : S → List AV → Prop) (live : S → Prop) (n0 k : Nat),Src2 C l S R stp ok live n0 k →
  ∀ s m H,okRun stp ok items s → live s → R s m → Has m H → H.lock = k → n0 ≤ H.size → ∃ H' m',lim C (.call f ([.yld l] ++ cap) H) = some (.ret (.tup []) H') ∧ R (runIt stp items s).2 m' ∧ Has m' H' ∧ Moves m H m' H'
theorem Src2.round' {C : Cfg} {l : Nat} {S : Type} {R : S → Fm → Prop} {stp : S → List AV → Bool × S} {ok : S → List AV → Prop} {live : S → Prop} {n0 k : Nat} (h : Src2 C l S R stp ok live n0 k) (s : S) (m : Fm) (x : List AV) (H : Heap) (h1 : live s) (h2 : ok s x) (h3 : R s m) (h4 : Has m H) (h5 : H.lock = k) (h6 : n0 ≤ H.size) :
  ∃ H' H2 m',lim C (.round l x H) = some (.ret (.v (.bool (stp s x).1)) H') ∧ settleH H.size H' = H2 ∧ R (stp s x).2 m' ∧ Has m' H2 ∧ Moves m H m' H2 := by
 obtain ⟨H',m',a,b,c,d⟩ := h.round s m x H h1 h2 h3 h4 h5 h6
 exact ⟨H',_,m',a,rfl,b,c.settle _,d.settle rfl⟩
end Go.Ev
namespace Go.Ev
section
variable {C : Cfg} {me : FuncId} {S : Type} {R : S → Fm → Prop} {stp : S → List AV → AExit × S} {lv : S → Prop} {ok : S → List AV → Prop} {n0 k d : Nat}
def bd2K (R : S → Fm → Prop) (d : Nat) (L' : ALoop) (m : Fm) (H : Heap) (p : AExit × S) : Post := fun e _ H' => e = p.1 ∧ ∃ m',R p.2 m' ∧ Has m' H' ∧ loopObj H' (d + 1) = some L' ∧ Moves ((d + 1,.loop L') :: m) H ((d + 1,.loop L') :: m') H'
def as2K (C : Cfg) (me : FuncId) (R : S → Fm → Prop) (d : Nat) (body : Code) (L L' : ALoop) (m : Fm) (H : Heap) (p : AExit × S) : Post := fun e a H1 => e = .normal ∧ loopObj H1 (d + 1) = some L ∧ Wp C me (some (d + 1)) body a (H1.put (d + 1) (.loop L')) (bd2K R d L' m H p)
theorem loopObj_getI {H : Heap} {b : Nat} {L : ALoop} (h : loopObj H b = some L) : H.get b = some (.loop L) := by
 unfold loopObj at h
 split at h
 ·rename_i l hl;cases h;exact hl
 ·cases h
theorem get_loopObj {H : Heap} {b : Nat} {L : ALoop} (h : H.get b = some (.loop L)) : loopObj H b = some L := by
 unfold loopObj;rw [h]
def RR (R : S → Fm → Prop) (d : Nat) (L : LoopState → Option Code → ALoop) (q : S × AExit) (m' : Fm) : Prop := ∃ m,R q.1 m ∧ m' = (d,.dfr) :: (d + 1,.loop (L (stateOf q.2) (pend q.2))) :: m
theorem src2_range {sz : Nat} {ts : List (Tmp × AV)} {ps : Array Tmp} {asg body : Code} (hn0 : n0 ≤ d) (hk : k ≤ d)
  (hanch : ∀ s m,R s m → Anch n0 m) (hdm : ∀ s m,R s m → ¬ keyIn d m ∧ ¬ keyIn (d + 1) m)
  (hlv : ∀ s x,lv s → ok s x → (stp s x).1 = .normal → lv (stp s x).2)
  (hbody : ∀ (L L' : ALoop) s m x H,L'.dfr = d → lv s → ok s x → x.length = ps.size → R s m → Has m H → H.get d = some .dfr → loopObj H (d + 1) = some L → H.lock = k → d + 2 ≤ H.size →
   Wp C me (some (d + 1)) asg ⟨sz,setTmps sz ts (ps.toList.zip x),[]⟩ H (as2K C me R d body L L' m H (stp s x))) :
  Src2 C (d + 1) (S × AExit) (RR R d (busyL me sz ts ps asg body d)) (fun q x => (isGo (stp q.1 x).1,((stp q.1 x).2,(stp q.1 x).1))) (fun q x => ok q.1 x ∧ x.length = ps.size) (fun q => lv q.1 ∧ q.2 = .normal) (d + 2) k := by
 refine ⟨?_,by omega,fun q x hl ho hs => ?_,fun q m' x H hl ho hR hH hlk hsz => ?_⟩
 ·rintro q m' ⟨m,hm,rfl⟩ n hn ⟨p,hp,hpn⟩
  have hpm : p ∈ m := by
   rcases List.mem_cons.1 hp with rfl | hp
   ·simp only at hpn;omega
   ·rcases List.mem_cons.1 hp with rfl | hp
    ·simp only at hpn;omega
    ·exact hp
  obtain ⟨q',hq,h1,h2⟩ := hanch _ m hm n (by omega) ⟨p,hpm,hpn⟩
  exact ⟨q',List.mem_cons_of_mem _ (List.mem_cons_of_mem _ hq),h1,h2⟩
 ·obtain ⟨s,e⟩ := q
  simp only at hl hs ⊢
  have he : (stp s x).1 = .normal := by
   cases h : (stp s x).1 <;> rw [h] at hs <;> first | rfl | cases hs
  exact ⟨hlv s x hl.1 ho.1 he,he⟩
 ·obtain ⟨s,e⟩ := q
  obtain ⟨hl1,rfl⟩ := hl
  obtain ⟨m,hm,rfl⟩ := hR
  simp only at hm ⊢
  have h0 : H.get d = some .dfr := hH (d,.dfr) (by simp)
  have h1 : H.get (d + 1) = some (.loop (busyL me sz ts ps asg body d (stateOf .normal) (pend .normal))) := hH (d + 1,_) (by simp)
  have hmH : Has m H := fun p hp => hH p (List.mem_cons_of_mem _ (List.mem_cons_of_mem _ hp))
  have key := round_step (C := C) (l := d + 1) (args := x) (H := H) (r := busyL me sz ts ps asg body d .ready none) (K := fun b H' => b = isGo (stp s x).1 ∧ ∃ m',RR R d (busyL me sz ts ps asg body d) ((stp s x).2,(stp s x).1) m' ∧ Has m' H' ∧ Moves ((d,.dfr) :: (d + 1,.loop (busyL me sz ts ps asg body d (stateOf .normal) (pend .normal))) :: m) H m' H') (get_loopObj h1) ho.2 (by omega) ?_
  ·obtain ⟨b,H',h2,rfl,m',h3,h4,h5⟩ := key
   exact ⟨H',m',h2,h3,h4,h5⟩
  ·refine Wp_mono (hbody (busyL me sz ts ps asg body d .ready none) (busyL me sz ts ps asg body d .busy none) s m x H rfl hl1 ho.1 ho.2 hm hmH h0 (get_loopObj h1) hlk hsz) ?_
   rintro e0 a0 H0 ⟨rfl,hL0,hb0⟩
   refine asgK_mk (r1 := busyL me sz ts ps asg body d .ready none) hL0 rfl ?_
   refine Wp_mono hb0 ?_
   rintro e1 a1 H1 ⟨rfl,m',hm',hH1,hL1,hmv⟩
   refine bodyK_mk (r3 := busyL me sz ts ps asg body d .busy none) (j := pend (stp s x).1) hL1 (jumpOf_pend _) ⟨pend_none _, ?_⟩
   have e1 : ({ busyL me sz ts ps asg body d .busy none with state := if (pend (stp s x).1).isNone then .ready else .done,pending := pend (stp s x).1 } : ALoop) = busyL me sz ts ps asg body d (stateOf (stp s x).1) (pend (stp s x).1) := rfl
   rw [e1]
   generalize hLf : busyL me sz ts ps asg body d (stateOf (stp s x).1) (pend (stp s x).1) = Lf
   have hd1 : d + 1 < H1.size := get_ltS (loopObj_getI hL1)
   have hd0 : H1.get d = some .dfr := by
    rw [hmv.same d (by omega) ?_,h0]
    rintro ⟨p,hp,he⟩
    rcases List.mem_cons.1 hp with rfl | hp
    ·simp only at he;omega
    ·exact (hdm _ _ hm).1 ⟨p,hp,he⟩
   have hR' : RR R d (busyL me sz ts ps asg body d) ((stp s x).2,(stp s x).1) ((d,.dfr) :: (d + 1,.loop Lf) :: m') := ⟨m',hm',by rw [← hLf]⟩
   have hH2 : Has ((d,.dfr) :: (d + 1,.loop Lf) :: m') (H1.put (d + 1) (.loop Lf)) := by
    intro p hp
    rcases List.mem_cons.1 hp with rfl | hp
    ·simp only;rw [put_get_ne _ (by omega) (by omega)];exact hd0
    ·rcases List.mem_cons.1 hp with rfl | hp
     ·simp only;exact put_get_eq _ (by omega)
     ·rw [put_get_ne _ (by omega) (fun e => (hdm _ _ hm').2 ⟨p,hp,e⟩)];exact hH1 p hp
   have hmv2 : Moves ((d,.dfr) :: (d + 1,.loop (busyL me sz ts ps asg body d (stateOf .normal) (pend .normal))) :: m) H ((d,.dfr) :: (d + 1,.loop Lf) :: m') (H1.put (d + 1) (.loop Lf)) := by
    refine ⟨hmv.lock,by rw [put_sizeI _ hd1];exact hmv.size,fun b hb hnb => ?_,fun p hp => ?_⟩
    ·have hb1 : b ≠ d + 1 := fun e => hnb ⟨(d + 1,.loop (busyL me sz ts ps asg body d (stateOf .normal) (pend .normal))),List.mem_cons_of_mem _ List.mem_cons_self,e.symm⟩
     rw [put_get_ne _ (by omega) hb1]
     refine hmv.same b hb ?_
     rintro ⟨p,hp,he⟩
     rcases List.mem_cons.1 hp with rfl | hp
     ·exact hb1 he.symm
     ·exact hnb ⟨p,List.mem_cons_of_mem _ (List.mem_cons_of_mem _ hp),he⟩
    ·rcases List.mem_cons.1 hp with rfl | hp
     ·exact Or.inl ⟨(d,.dfr),by simp,rfl⟩
     ·rcases List.mem_cons.1 hp with rfl | hp
      ·exact Or.inl ⟨(d + 1,.loop (busyL me sz ts ps asg body d (stateOf .normal) (pend .normal))),List.mem_cons_of_mem _ List.mem_cons_self,rfl⟩
      ·rcases hmv.keys p (List.mem_cons_of_mem _ hp) with ⟨q,hq,he⟩ | h
       ·rcases List.mem_cons.1 hq with rfl | hq
        ·exact Or.inl ⟨(d + 1,.loop (busyL me sz ts ps asg body d (stateOf .normal) (pend .normal))),List.mem_cons_of_mem _ List.mem_cons_self,he⟩
        ·exact Or.inl ⟨q,List.mem_cons_of_mem _ (List.mem_cons_of_mem _ hq),he⟩
       ·exact Or.inr h
   have hanch2 : Anch (d + 2) ((d,.dfr) :: (d + 1,.loop Lf) :: m') := by
    rintro n hn ⟨p,hp,hpn⟩
    have hpm : p ∈ m' := by
     rcases List.mem_cons.1 hp with rfl | hp
     ·simp only at hpn;omega
     ·rcases List.mem_cons.1 hp with rfl | hp
      ·simp only at hpn;omega
      ·exact hp
    obtain ⟨q',hq,h1,h2⟩ := hanch _ m' hm' n (by omega) ⟨p,hpm,hpn⟩
    exact ⟨q',List.mem_cons_of_mem _ (List.mem_cons_of_mem _ hq),h1,h2⟩
   exact ⟨_,hR',hH2.trim hanch2 hsz _ _,hmv2.trim _ _ rfl⟩
theorem okRun_q {n : Nat} : ∀ (items : List (List AV)) (s : S) (e : AExit),okRun (fun s x => (isGo (stp s x).1,(stp s x).2)) ok items s → (∀ x ∈ items,x.length = n) →
  okRun (fun (q : S × AExit) x => (isGo (stp q.1 x).1,((stp q.1 x).2,(stp q.1 x).1))) (fun q x => ok q.1 x ∧ x.length = n) items (s,e)
 | [],_,_,_,_ => trivial
 | x :: r,s,e,h,hl => ⟨⟨h.1,hl x (by simp)⟩,fun hg => okRun_q r _ _ (h.2 hg) fun y hy => hl y (by simp [hy])⟩
theorem wp_range2 {f : FuncId} {cap : List AV} {items : List (List AV)} (hy : Yields2 C f cap items) {g : Operand} {ps : Array Tmp} {asg body : Code} {a : AAct} {H : Heap} {K : Post} (hg : a.eval g = some (.fn (.func f) [] cap))
  (R : S → Fm → Prop) (stp : S → List AV → AExit × S) (lv : S → Prop) (ok : S → List AV → Prop) {n0 k : Nat} (hn0 : n0 ≤ H.size) (hk : k ≤ H.size) (hlen : ∀ x ∈ items,x.length = ps.size)
  (hanch : ∀ s m,R s m → Anch n0 m) (hdm : ∀ s m,R s m → ¬ keyIn H.size m ∧ ¬ keyIn (H.size + 1) m)
  (hlv : ∀ s x,lv s → ok s x → (stp s x).1 = .normal → lv (stp s x).2)
  (hbody : ∀ (L L' : ALoop) s m x H',L'.dfr = H.size → lv s → ok s x → x.length = ps.size → R s m → Has m H' → H'.get H.size = some .dfr → loopObj H' (H.size + 1) = some L → H'.lock = k → H.size + 2 ≤ H'.size →
   Wp C me (some (H.size + 1)) asg ⟨a.size,setTmps a.size a.tmps (ps.toList.zip x),[]⟩ H' (as2K C me R H.size body L L' m H' (stp s x)))
  (s0 : S) (m0 : Fm) (hok : okRun (fun s x => (isGo (stp s x).1,(stp s x).2)) ok items s0) (h0 : lv s0) (hR0 : R s0 m0) (hH0 : Has m0 H) (hlk : H.lock = k)
  (hK : ∀ m' H',R (foldE stp items s0).2 m' → Has m' H' → H'.get H.size = some .dfr → H'.get (H.size + 1) = some .dead → Moves m0 H ((H.size + 1,.dead) :: m') H' → H.size + 2 ≤ H'.size → AtK K (foldE stp items s0).1 ⟨a.size,a.tmps,H.size :: a.marks⟩ H') :
  Wp C me none (.rangeFunc g ps asg body) a H K := by
 generalize hd : H.size = d at *
 have hsrc := src2_range (C := C) (me := me) (R := R) (stp := stp) (lv := lv) (ok := ok) (sz := a.size) (ts := a.tmps) (ps := ps) (asg := asg) (body := body) hn0 hk hanch hdm hlv hbody
 have hbeg : (H.put d .dfr).put (d + 1) (.loop (busyL me a.size a.tmps ps asg body d .ready none)) = H.plus [some .dfr,some (.loop (busyL me a.size a.tmps ps asg body d .ready none))] := by
  have h1 : H.put d .dfr = H.plus [some .dfr] := by rw [← hd];exact put_push _
  rw [h1]
  exact plus_put_end hd [some .dfr] (.loop (busyL me a.size a.tmps ps asg body d .ready none))
 generalize hHb : H.plus [some AObj.dfr,some (.loop (busyL me a.size a.tmps ps asg body d .ready none))] = Hb at hbeg
 have hsb : Hb.size = d + 2 := by rw [← hHb,plus_size,hd];rfl
 have hg0 : Hb.get d = some .dfr := by
  rw [← hHb];exact plus_mid_get hd [] _ _
 have hg1 : Hb.get (d + 1) = some (.loop (busyL me a.size a.tmps ps asg body d .ready none)) := by
  rw [← hHb];exact plus_mid_get hd [some .dfr] [] _
 have hHasB : Has ((d,.dfr) :: (d + 1,.loop (busyL me a.size a.tmps ps asg body d .ready none)) :: m0) Hb := by
  intro p hp
  rcases List.mem_cons.1 hp with rfl | hp
  ·exact hg0
  ·rcases List.mem_cons.1 hp with rfl | hp
   ·exact hg1
   ·rw [← hHb];exact hH0.plus _ p hp
 obtain ⟨H1,m1,hc1,⟨m',hm',rfl⟩,hH1,hmv⟩ := hy (d + 1) (S × AExit) _ _ _ _ _ _ hsrc (s0,.normal) _ Hb (okRun_q items s0 .normal hok hlen) ⟨h0,rfl⟩ ⟨m0,hR0,rfl⟩ hHasB (by rw [← hHb];exact hlk) (by omega)
 have hanch1 := hsrc.anch _ _ ⟨m',hm',rfl⟩
 rw [run_range] at hm' hH1 hmv hanch1
 simp only at hm' hH1 hmv hanch1
 generalize hp : foldE stp items s0 = p at *
 have hcb := callB_yld (C := C) (me := me) (d := none) (l := d + 1) (by simp) hc1
 have hH2 := hH1.trim hanch1 (Nat.le_of_eq hsb.symm) [AV.tup []] []
 have hmv2 := hmv.trim [AV.tup []] [] (n := Hb.size) rfl
 generalize hT : H1.trim Hb.size [AV.tup []] [] = H2 at *
 have hl2 : H2.get (d + 1) = some (.loop (busyL me a.size a.tmps ps asg body d (stateOf p.1) (pend p.1))) := hH2 (d + 1,_) (by simp)
 have hd2 : H2.get d = some .dfr := hH2 (d,_) (by simp)
 have hs2 : d + 2 ≤ H2.size := by have := hmv2.size;omega
 have hfin : AtK K p.1 ⟨a.size,a.tmps,d :: a.marks⟩ (H2.put (d + 1) .dead) := by
  have hmd := hdm _ _ hm'
  refine hK m' (H2.put (d + 1) .dead) hm' ?_ ?_ ?_ ?_ ?_
  ·intro q hq
   rw [put_get_ne _ (by omega) (fun e => hmd.2 ⟨q,hq,e⟩)]
   exact hH2 q (List.mem_cons_of_mem _ (List.mem_cons_of_mem _ hq))
  ·rw [put_get_ne _ (by omega) (by omega)];exact hd2
  ·exact put_get_eq _ (by omega)
  ·refine ⟨?_, ?_,fun b hb hnb => ?_,fun q hq => ?_⟩
   ·show H2.lock = H.lock
    rw [hmv2.lock,← hHb];rfl
   ·rw [put_sizeI _ (by omega)];omega
   ·rw [put_get_ne _ (by omega) (by omega),hmv2.same b (by omega) ?_,← hHb]
    ·exact plus_get _ hb
    ·rintro ⟨q,hq,he⟩
     rcases List.mem_cons.1 hq with rfl | hq
     ·simp only at he;omega
     ·rcases List.mem_cons.1 hq with rfl | hq
      ·simp only at he;omega
      ·exact hnb ⟨q,hq,he⟩
   ·rcases List.mem_cons.1 hq with rfl | hq
    ·exact Or.inr (by simp only;omega)
    ·rcases hmv2.keys q (List.mem_cons_of_mem _ (List.mem_cons_of_mem _ hq)) with ⟨r,hr,he⟩ | h
     ·rcases List.mem_cons.1 hr with rfl | hr
      ·exact absurd ⟨q,hq,he.symm⟩ hmd.1
      ·rcases List.mem_cons.1 hr with rfl | hr
       ·exact absurd ⟨q,hq,he.symm⟩ hmd.2
       ·exact Or.inl ⟨r,hr,he⟩
     ·exact Or.inr (by omega)
  ·rw [put_sizeI _ (by omega)];exact hs2
 refine wp_range0 (f := f) (first := []) (cap := cap) hg (v := .tup []) (H2 := H2) ?_ (r := busyL me a.size a.tmps ps asg body d (stateOf p.1) (pend p.1)) ?_ ?_ ?_ ?_
 ·rw [hd]
  rw [← hbeg] at hcb
  exact hcb
 ·rw [hd];exact get_loopObj hl2
 ·unfold busyL stateOf;cases p.1 <;> simp [pend]
 ·rw [hd];rfl
 ·rw [hd]
  obtain ⟨e,s⟩ := p
  cases e with
  | normal => exact hfin
  | ret => exact hfin
  | exit i => exact hfin
end
end Go.Ev
namespace Go.Ev
open Go.Proofs
theorem put_endN {H : Heap} {n : Nat} (hn : H.size = n) (o : AObj) : H.put n o = H.plus [some o] := by subst hn;exact put_push o
theorem row_endN {H : Heap} {n : Nat} (hn : H.size = n) (v w m e sz g) (cs : List AV) : (H.plus [some (.cells w m e sz g cs)]).row n v = if w = v then some (m,e,sz,g,cs) else none := plus_row_at hn [] [] v w m e sz g cs
theorem store_endN {H : Heap} {n : Nat} (hn : H.size = n) (hl : H.lock ≤ n) (v m e sz g) (cs : List AV) (off : Nat) (xs : List AV) : storeCells (H.plus [some (.cells v m e sz g cs)]) n v off xs = if off + xs.length ≤ cs.length ∧ xs.all AV.flat = true then some (H.plus [some (.cells v (Nat.max m (boundL xs)) e sz g (splice off xs cs))]) else none := plus_store_end hn hl [] v m e sz g cs off xs
theorem settle_endN {H : Heap} {n : Nat} (hn : H.size = n) (o : AObj) : settleH n (H.plus [some o]) = H.plus [some o] := settle_end hn [] o
theorem settle_eqN {H : Heap} {n : Nat} (hn : H.size = n) : settleH n H = H := by subst hn;exact settle_size H
theorem trim_eqN {H : Heap} {n : Nat} (hn : H.size = n) (vs : List AV) (ms : List Nat) : H.trim n vs ms = H := by subst hn;exact trim_size H vs ms
theorem size_endN {H : Heap} {n : Nat} (hn : H.size = n) (E : List (Option AObj)) : (H.plus E).size = n + E.length := by rw [plus_size,hn]
theorem row_of {H : Heap} {b v w m e sz g} {cs : List AV} (h : H.get b = some (.cells w m e sz g cs)) : H.row b v = if w = v then some (m,e,sz,g,cs) else none := by
 unfold Heap.row;rw [h]
theorem not_key {m : Fm} {H : Heap} (h : Has m H) {b : Nat} (hb : H.size ≤ b) : ¬ keyIn b m := by
 rintro ⟨p,hp,rfl⟩
 have := get_ltS (h p hp);omega
theorem yields2_88 {e : Exts} (ch : AV) (xs : List AV) (hch : SlOf 2 xs ch) (hall : ∀ y ∈ xs,OkCh y) (hlen : xs.length < 2 ^ 63) : Yields2 (Cx e) 136 [.ro (.agg [ch]) 0] (chapIts 0 xs) := by
 intro l S R stp ok live n0 k hsrc s m H hok hlv hR hH hlk hsz
 have key : Fn' (Cx e) 136 [.yld l,.ro (.agg [ch]) 0] H fun v H' => v = .tup [] ∧ ∃ m',R (runIt stp (chapIts 0 xs) s).2 m' ∧ Has m' H' ∧ Moves m H m' H' := by
  rw [fn_step (fn_136 e) (show Tryz.f136.body = some _ from rfl)]
  generalize hN : H.size = N at *
  simp -implicitDefEqProofs only [Tryz.f136,go_sem,↓reduceIte,Int.reduceEq,Int.reduceLT,Int.reduceLE,List.zip_cons_cons,List.zip_nil_right,List.zip_nil_left,setT_nil,setT_cons,intA,hch.cells,hch.flat,hch.bound,hch.len,hN,settle_eqN hN]
  refine Lp_rule (P := fun μ a H1 => ∃ i s1 m1,i + μ = xs.length ∧ a = ⟨34,[(0,.yld l),(1,.ro (.agg [ch]) 0),(8,ch),(9,intA xs.length),(10,intA i)],[]⟩ ∧ live s1 ∧ R s1 m1 ∧ Has m1 H1 ∧ Moves m H m1 H1 ∧ runIt stp (chapIts 0 xs) s = runIt stp (chapIts i (xs.drop i)) s1 ∧ okRun stp ok (chapIts i (xs.drop i)) s1) ?_ xs.length _ _ ⟨0,s,m,by omega,rfl,hlv,hR,hH,Moves.refl _ _,rfl,hok⟩
  rintro μ _ H1 ⟨i,s1,m1,hi,rfl,hlv1,hR1,hH1,hmv1,hrun1,hok1⟩
  have hlk1 : H1.lock = k := hmv1.lock.trans hlk
  have hsz1 : n0 ≤ H1.size := by have := hmv1.size;omega
  generalize hN1 : H1.size = N1 at *
  cases μ with
  | zero =>
   obtain rfl : i = xs.length := by omega
   simp -implicitDefEqProofs only [go_sem,↓reduceIte,Int.reduceEq,Int.reduceLT,Int.reduceLE,List.zip_cons_cons,List.zip_nil_right,List.zip_nil_left,setT_nil,setT_cons,intA,Int.lt_irrefl,hN1,settle_eqN hN1,trim_eqN hN1]
   rw [List.drop_of_length_le (Nat.le_refl _)] at hrun1
   rw [hrun1]
   exact ⟨rfl,m1,hR1,hH1,hmv1⟩
  | succ μ =>
   obtain ⟨y,hy⟩ := at_lt xs i (by omega)
   obtain ⟨id,l0,lxs,rfl,hl0,hlc,hll⟩ := hall y (List.mem_of_getElem? hy)
   have hlt : (i : Int) < ((xs.length : Nat) : Int) := by omega
   have hw := wrap_succ i (by omega)
   have hkN : H1.lock ≤ N1 := by have := hsrc.klock;omega
   simp -implicitDefEqProofs only [go_sem,↓reduceIte,Int.reduceEq,Int.reduceLT,Int.reduceLE,List.zip_cons_cons,List.zip_nil_right,List.zip_nil_left,setT_nil,setT_cons,intA,hlt,hN1,settle_eqN hN1,hch.idx hy,hl0.cells,hl0.flat,hl0.bound,put_endN hN1,row_endN hN1,store_endN hN1 hkN,settle_endN hN1,size_endN hN1,hl0.len]
   have hc : chapIts i (xs.drop i) = lineIts i 0 (lxs.drop 0) ++ chapIts (i + 1) (xs.drop (i + 1)) := by
    rw [chapIts_drop xs i _ hy,List.drop_zero]
    show lineIts i 0 (slElems l0) ++ _ = _
    rw [hl0.elems]
   refine Lp_rule (P := fun μ a H2 => ∃ j s2 m2,j + μ = lxs.length ∧ a = ⟨34,[(0,.yld l),(1,.ro (.agg [ch]) 0),(8,ch),(9,intA xs.length),(10,intA i),(11,.v (.bool true)),(4,.ptr N1 0 0),(3,intA i),(17,intA lxs.length),(18,intA j)],[]⟩ ∧ live s2 ∧ R s2 m2 ∧ Has m2 H2 ∧ Moves m1 (H1.plus [some (.cells 0 0 112 1 false [intA id,l0])]) m2 H2 ∧ runIt stp (chapIts 0 xs) s = runIt stp (lineIts i j (lxs.drop j) ++ chapIts (i + 1) (xs.drop (i + 1))) s2 ∧ okRun stp ok (lineIts i j (lxs.drop j) ++ chapIts (i + 1) (xs.drop (i + 1))) s2) ?_ lxs.length _ _ ⟨0,s1,m1,by omega,rfl,hlv1,hR1,hH1.plus _,Moves.refl _ _,by rw [hrun1,hc],by rw [hc] at hok1;exact hok1⟩
   rintro μ2 _ H2 ⟨j,s2,m2,hj,rfl,hlv2,hR2,hH2,hmv2,hrun2,hok2⟩
   have hlk2 : H2.lock = k := hmv2.lock.trans hlk1
   have hp1 := size_endN hN1 [some (AObj.cells 0 0 112 1 false [intA id,l0])]
   have hrow2 : H2.get N1 = some (.cells 0 0 112 1 false [intA id,l0]) := by
    rw [hmv2.same N1 (by rw [hp1];simp) (not_key hH1 (Nat.le_of_eq hN1))]
    exact plus_mid_get hN1 [] [] _
   have hrw := row_of (v := 0) hrow2
   have hmv12 : Moves m H m2 H2 := hmv1.trans ((Moves.plus m1 H1 _).trans hmv2)
   have hsz2 : n0 ≤ H2.size := by have := hmv12.size;omega
   have hlt2 : N1 < H2.size := get_ltS hrow2
   generalize hN2 : H2.size = N2 at *
   cases μ2 with
   | zero =>
    obtain rfl : j = lxs.length := by omega
    rw [List.drop_of_length_le (Nat.le_refl _)] at hrun2 hok2
    simp -implicitDefEqProofs only [go_sem,↓reduceIte,Int.reduceEq,Int.reduceLT,Int.reduceLE,List.zip_cons_cons,List.zip_nil_right,List.zip_nil_left,setT_nil,setT_cons,intA,Int.lt_irrefl,hN2,settle_eqN hN2,trim_eqN hN2,hw]
    refine ⟨μ,by omega,i + 1,s2,m2,by omega,rfl,hlv2,hR2, ?_, ?_,hrun2,hok2⟩
    ·exact hH2.trim (hsrc.anch _ _ hR2) hsz1 _ _
    ·exact hmv1.trans ((Moves.plus m1 H1 _).trans hmv2 |>.trim _ _ hN1.symm)
   | succ μ2 =>
    obtain ⟨x,hx⟩ := at_lt lxs j (by omega)
    have hxc := hlc x (List.mem_of_getElem? hx)
    have hltj : (j : Int) < ((lxs.length : Nat) : Int) := by omega
    have hwj := wrap_succ j (by omega)
    have hdr := lineIts_drop i lxs j x hx
    rw [hdr,List.cons_append] at hok2
    obtain ⟨H3,H4,m4,hr3,hr4,hR4,hH4,hmv4⟩ := hsrc.round' s2 m2 [placeA i j 0,x] H2 hlv2 hok2.1 hR2 hH2 hlk2 (by omega)
    have hst := hsrc.step s2 [placeA i j 0,x] hlv2 hok2.1
    rw [hdr,List.cons_append,runIt_cons] at hrun2
    rw [hN2] at hr4
    cases hb : (stp s2 [placeA i j 0,x]).1
    ·rw [hb] at hr3 hrun2
     simp only [placeA,intA] at hr3
     simp -implicitDefEqProofs only [go_sem,↓reduceIte,Int.reduceEq,Int.reduceLT,Int.reduceLE,List.zip_cons_cons,List.zip_nil_right,List.zip_nil_left,setT_nil,setT_cons,intA,hltj,hN2,settle_eqN hN2,trim_eqN hN2,hwj,hrw,hl0.idx hx,hxc,hr3,hr4]
     simp only [Bool.false_eq_true,if_false] at hrun2
     rw [hrun2]
     exact ⟨rfl,m4,hR4,hH4,hmv12.trans hmv4⟩
    ·rw [hb] at hr3 hrun2
     simp only [placeA,intA] at hr3
     simp -implicitDefEqProofs only [go_sem,↓reduceIte,Int.reduceEq,Int.reduceLT,Int.reduceLE,List.zip_cons_cons,List.zip_nil_right,List.zip_nil_left,setT_nil,setT_cons,intA,hltj,hN2,settle_eqN hN2,trim_eqN hN2,hwj,hrw,hl0.idx hx,hxc,hr3,hr4]
     simp only [if_true] at hrun2
     refine ⟨μ2,by omega,j + 1,_,m4,by omega,rfl,hst hb,hR4, ?_, ?_,hrun2,hok2.2 hb⟩
     ·exact hH4.trim (hsrc.anch _ _ hR4) (by omega) _ _
     ·exact hmv2.trans (hmv4.trim _ _ hN2.symm)
 obtain ⟨v,H',h1,rfl,m',h2,h3,h4⟩ := fn_ex key
 exact ⟨H',m',h1,h2,h3,h4⟩
end Go.Ev
namespace Go.Ev
section
variable {C : Cfg} {me : FuncId} {rd : Option Nat}
def okFoot (base top w : Nat) (ft : Foot) : Bool := match ft.reads with | some l => l.all fun b => Nat.blt b base || Nat.ble top b || w.testBit (b - base) | none => false
def callFoot : Foot := ⟨some [],some [],[],false,false,0,false,noKept⟩
def idleFoot (C : Cfg) (me : FuncId) (o : Oper) (a : AAct) (slot : Nat) : Foot :=
 match o.op with
 | .call c => match c.callee with | .value _ => callFoot | _ => footA C me o a slot
 | _ => footA C me o a slot
def frOne (o : Option Foot) (f : Foot) : Bool := match o with | some g => !clash g f | none => false
def freeT (feet : List Foot) (u : List Nat) (ft : Foot) : Bool := u.all fun k => frOne (feet[k]?) ft
def ltB (a b : Nat) : Bool := decide (a < b)
def okFootT (base : Nat) (w : List Nat) (ft : Foot) : Bool := match ft.reads with | some l => l.all fun b => ltB b base || w.any fun k => b == base + k | none => false
abbrev Tab := List (List Nat × List Nat × Bool)
noncomputable def callX (C : Cfg) (me : FuncId) (d : Option Tmp) (v : AV) (l : List AV) (H : Heap) : Option (AV × Heap) :=
 match v with
 | .fn (.func f) x y => callA C (lim C) me f d (x ++ l ++ y) H
 | .yld b => (match lim C (.round b l H) with | some (.ret v H') => some (v,H') | _ => none)
 | _ => none
def kind0 (C : Cfg) (me : FuncId) (d : Option Tmp) (v : AV) (l : List AV) : Bool :=
 match v with
 | .fn (.func f) x y => (C.ext f).isNone && Nat.beq (callKind C me f d (x ++ l ++ y)) 0
 | .yld _ => true
 | _ => false
def SameOut (base top : Nat) (G G' : Heap) : Prop := ∀ b,(b < base ∨ top ≤ b) → G'.get b = G.get b
def effV (C : Cfg) (me : FuncId) (base top : Nat) (d : Option Tmp) (v : AV) (l : List AV) (G : Heap) (cont : AV → Heap → Prop) : Prop :=
 kind0 C me d v l = true ∧ ∀ Gh : Heap,Gh.lock = G.lock → Gh.size = G.size → SameOut base top G Gh → ∃ r Y,callX C me d v l Gh = some (r,Y) ∧ G.size ≤ Y.size ∧
  ∀ G' : Heap,G'.lock = G.lock → G'.size = Y.size → SameOut base top Y G' → (∀ b,base ≤ b → b < top → G'.get b = G.get b ∨ G'.get b = Y.get b) → cont r G'
def effO (C : Cfg) (me : FuncId) (base top : Nat) (o : Oper) (a : AAct) (G : Heap) (cont : AV → Heap → Prop) : Prop :=
 match o.op with
 | .call c => (match c.callee with | .value g => bindO (evals a c.args.toList) fun l => bindO (a.eval g) fun v => effV C me base top o.dst v l G cont | _ => False)
 | _ => False
def kind2 (C : Cfg) (me : FuncId) (d : Option Tmp) (v : AV) (l : List AV) : Bool :=
 match v with
 | .fn (.func f) x y => (C.ext f).isNone && Nat.beq (callKind C me f d (x ++ l ++ y)) 2
 | _ => false
def SameVis (base top : Nat) (vl : List Nat) (G G' : Heap) : Prop := ∀ b,(b < base ∨ top ≤ b ∨ (base ≤ b ∧ vl.contains (b - base) = true)) → G'.get b = G.get b
def stillV (C : Cfg) (me : FuncId) (base top : Nat) (vl : List Nat) (d : Option Tmp) (v : AV) (l : List AV) (G : Heap) (cont : AV → Heap → Prop) : Prop :=
 kind2 C me d v l = true ∧ ∃ r,(∀ Gh : Heap,Gh.lock = G.lock → Gh.size = G.size → SameVis base top vl G Gh → ∃ Y,callX C me d v l Gh = some (r,Y)) ∧ cont r G
def stillO (C : Cfg) (me : FuncId) (base top : Nat) (vl : List Nat) (o : Oper) (a : AAct) (G : Heap) (cont : AV → Heap → Prop) : Prop :=
 match o.op with
 | .call c => (match c.callee with | .value g => bindO (evals a c.args.toList) fun l => bindO (a.eval g) fun v => stillV C me base top vl o.dst v l G cont | _ => False)
 | _ => False
def stillFoot : Foot := ⟨none,some [],[],false,false,0,false,noKept⟩
def effFoot : Foot := ⟨none,none,[],false,true,0,false,noKept⟩
def drawP (C : Cfg) (me : FuncId) (arr : Array Oper) (base : Nat) : Tab → List Oper → Nat → List Foot → AAct → Heap → PostS → Prop
 | _,[],_,_,a,G,K => AtS K a G
 | tb,o :: r,i,feet,a,G,K => bindO (wantedA arr a o) fun w => iteB w
   (iteB (plainO o) (WpO C me o.dst o.op a G (base + i) fun v _ => drawP C me arr base tb.tail r (i + 1) (feet ++ [noFoot]) (a.put o.dst v) G K)
    (iteB (locOp o.op) (iteB (okFootT base (tb.headD ([],[],false)).2.1 (footA C me o a (base + i)) && freeT feet (tb.headD ([],[],false)).1 (footA C me o a (base + i)))
      (WpO C me o.dst o.op a G (base + i) fun v G' => drawP C me arr base tb.tail r (i + 1) (feet ++ [footA C me o a (base + i)]) (a.put o.dst v) G' K) False)
     (iteB (tb.headD ([],[],false)).2.2
      (iteB (tb.headD ([],[],false)).1.isEmpty (effO C me base (base + arr.toList.length) o a G fun v G' => drawP C me arr base tb.tail r (i + 1) (feet ++ [effFoot]) (a.put o.dst v) G' K)
       (iteB (freeT feet (tb.headD ([],[],false)).1 stillFoot) (stillO C me base (base + arr.toList.length) (tb.headD ([],[],false)).2.1 o a G fun v G' => drawP C me arr base tb.tail r (i + 1) (feet ++ [stillFoot]) (a.put o.dst v) G' K) False))
      (iteB (freeT feet (tb.headD ([],[],false)).1 (idleFoot C me o a (base + i)))
       (bindO (opI C me { objs := [],lock := 0 } o.dst o.op a) fun v => drawP C me arr base tb.tail r (i + 1) (feet ++ [idleFoot C me o a (base + i)]) (a.put o.dst v) G K) False))))
   (drawP C me arr base tb.tail r (i + 1) (feet ++ [noFoot]) (a.put o.dst undefA) G K)
def plainAt (l : List Oper) (i : Nat) : Bool := match l[i]? with | some o => plainO o | none => false
def rowOk (l : List Oper) (wi : Nat) (i : Nat) (u w : List Nat) : Bool := plainAt l i || ((List.range i).all fun k => wi.testBit k || plainAt l k || u.contains k) && w.all fun k => wi.testBit k
def tabOk (l : List Oper) (ws : List Nat) (tb : Tab) : Bool := (List.range l.length).all fun i => rowOk l (ws.getD i 0) i (tb.getD i ([],[],false)).1 (tb.getD i ([],[],false)).2.1
theorem clash_no (ft : Foot) : clash noFoot ft = false := by
 obtain ⟨rx,wx,fx,px,gx⟩ := ft
 have e1 : ∀ z,meet (some []) z = false := fun _ => rfl
 simp [clash,noFoot,e1]
theorem free_of {l : List Oper} {wi i : Nat} {u w : List Nat} {feet : List Foot} {ft : Foot} (hr : rowOk l wi i u w = true) (hnp : plainAt l i = false) (hp : ∀ k o,k < i → l[k]? = some o → plainO o = true → feet[k]? = some noFoot) (hf : freeT feet u ft = true) : freeOf feet wi ft i = true := by
 unfold rowOk at hr
 rw [hnp,Bool.false_or] at hr
 simp only [Bool.and_eq_true,List.all_eq_true] at hr
 have key : ∀ n,n ≤ i → freeOf feet wi ft n = true := by
  intro n
  induction n with
  | zero => intro _;rfl
  | succ k ih =>
   intro hk
   unfold freeOf
   rw [ih (by omega),Bool.and_true]
   have := hr.1 k (List.mem_range.2 (by omega))
   simp only [Bool.or_eq_true] at this
   rcases this with (h | h) | h
   ·rw [h,Bool.true_or]
   ·unfold plainAt at h
    split at h
    ·rename_i o ho
     rw [hp k o (by omega) ho h]
     simp only [clash_no,Bool.not_false,Bool.or_true]
    ·cases h
   ·have h2 := List.all_eq_true.1 hf k (by simpa using h)
    unfold frOne at h2
    rw [Bool.or_eq_true]
    exact Or.inr h2
 exact key i (Nat.le_refl _)
theorem ok_of {l : List Oper} {wi i base top : Nat} {u w : List Nat} {ft : Foot} (hr : rowOk l wi i u w = true) (hnp : plainAt l i = false) (h : okFootT base w ft = true) : okFoot base top wi ft = true := by
 unfold rowOk at hr
 rw [hnp,Bool.false_or] at hr
 simp only [Bool.and_eq_true,List.all_eq_true] at hr
 unfold okFootT at h
 unfold okFoot
 split at h
 ·rename_i rl hrl
  rw [List.all_eq_true] at h ⊢
  intro b hb
  have := h b hb
  simp only [Bool.or_eq_true] at this ⊢
  rcases this with h1 | h1
  ·left;left;exact Nat.ble_eq_true_of_le (of_decide_eq_true h1)
  ·obtain ⟨k,hk,he⟩ := List.any_eq_true.1 h1
   right
   have : b = base + k := by simpa using he
   rw [this,Nat.add_sub_cancel_left];exact hr.2 k hk
 ·cases h
theorem free_no {feet : List Foot} {w : Nat} : ∀ n,n ≤ feet.length → freeOf feet w noFoot n = true
 | 0,_ => rfl
 | k + 1,hn => by
  unfold freeOf
  rw [free_no k (by omega),Bool.and_true,Bool.or_eq_true]
  right
  cases h : feet[k]? with
  | none => exact absurd (List.getElem?_eq_none_iff.1 h) (by omega)
  | some f =>
   obtain ⟨rx,wx,fx,px,gx⟩ := f
   have e2 : ∀ r : Option (List Nat),meet r (some []) = false := by
    intro r;unfold meet;split <;> simp_all
   simp [clash,noFoot,e2]
theorem vis_of {ft : Foot} {base top w slot : Nat} {l : List Nat} (hr : ft.reads = some l) (h : okFoot base top w ft = true) : (∀ b ∈ l,visB base top w slot ft b = true) ∧ visB base top w slot ft slot = true := by
 unfold okFoot at h
 rw [hr] at h
 simp only [List.all_eq_true] at h
 refine ⟨fun b hb => ?_, ?_⟩
 ·unfold visB
  rw [hr]
  simp only [h b hb,Bool.true_and,Bool.or_eq_true]
  exact Or.inr (List.any_eq_true.2 ⟨b,hb,Nat.beq_refl b⟩)
 ·unfold visB;rw [Nat.beq_refl];rfl
theorem foot_grows {o : Oper} {a : AAct} {slot : Nat} : (footA C me o a slot).grows = false := by
 unfold footA
 split <;> try rfl
 split <;> try rfl
 split <;> try rfl
 split <;> try rfl
 split <;> rfl
theorem opI_any {o : Oper} {a : AAct} {v : AV} (hp : plainO o = false) (hl : locOp o.op = false) (h : opI C me { objs := [],lock := 0 } o.dst o.op a = some v) (slot : Nat) :
  (∀ G : Heap,opA C (lim C) me o a G slot = some (some v,G)) ∧ (footA C me o a slot).idle = true ∧ idleFoot C me o a slot = footA C me o a slot := by
 obtain ⟨dst,op,ty,pos,after,guard⟩ := o
 simp only at hl h hp
 unfold opI at h
 split at h
 ·cases hl
 ·rename_i t x l hh m
  simp only [Option.bind_eq_some_iff] at h
  obtain ⟨u,hu,l',hl',h',hh',m',hm',h⟩ := h
  have hs : ∀ G : Heap,sliceA C.P G t u l' h' m' = some v := by
   intro G
   unfold sliceI at h
   split at h
   ·cases h
   ·rename_i hne
    rw [← h]
    unfold sliceA
    cases C.P.underlying t with
    | none => cases u <;> rfl
    | some d => cases d <;> cases u <;> first | rfl | (exact absurd rfl (hne _ _ _ _ _)) | (rename_i y;cases y <;> first | rfl | (rename_i p n c;cases p <;> first | rfl | (cases n <;> first | rfl | (cases c <;> rfl))))
  refine ⟨fun G => ?_,rfl,rfl⟩
  simp only [opA,hu]
  show (match (some u),lookO a l,lookO a hh,lookO a m with | some v,some l,some h,some m => (sliceA C.P G t v l h m).map fun v => (some v,G) | _,_,_,_ => none) = _
  rw [hl',hh',hm']
  simp only [hs G,Option.map_some]
 ·rename_i c
  obtain ⟨cal,args,ts⟩ := c
  simp only at h
  split at h
  ·obtain ⟨l,hev,h⟩ := Option.bind_eq_some_iff.1 h
   have hs : ∀ G : Heap,lenA C.P G ts.toList l = some v := by
    intro G
    unfold lenI at h
    split at h
    ·cases h
    ·rename_i hne
     rw [← h]
     unfold lenA
     cases ts.toList with
     | nil => rfl
     | cons t r =>
      cases l with
      | nil => rfl
      | cons x s =>
       simp only
       cases C.P.underlying t with
       | none => cases x <;> rfl
       | some d => cases d <;> cases x <;> first | rfl | (exact absurd rfl (hne _ _)) | (rename_i y;cases y <;> first | rfl | (rename_i p;cases p <;> rfl) | (rename_i p n c;cases p <;> first | rfl | (cases n <;> first | rfl | (cases c <;> rfl))))
   refine ⟨fun G => ?_, ?_,rfl⟩
   ·simp only [opA,hev,hs G,Option.map_some]
   ·simp only [footA];rfl
  ·obtain ⟨l,hev,h⟩ := Option.bind_eq_some_iff.1 h
   refine ⟨fun G => ?_,rfl,rfl⟩
   cases l with
   | nil => cases h
   | cons x r =>
    have h : minmaxA false x r = some v := h
    simp only [opA,hev,h,Option.map_some]
  ·rename_i g
   simp only [Option.bind_eq_some_iff] at h
   obtain ⟨l,hev,gv,hg,h⟩ := h
   unfold callV at h
   split at h
   ·rename_i f x y
    unfold callI at h
    split at h
    ·rename_i hex
     cases h
     obtain ⟨h1,h2⟩ := hex.choose_spec
     have hfe : ∀ ty pos after guard,footA C me ⟨dst,.call ⟨.value g,args,ts⟩,ty,pos,after,guard⟩ a slot = callFoot := by
      intro ty pos after guard
      simp only [footA,hg,hev]
      rcases h2 with h2 | h2
      ·rw [if_pos h2];rfl
      ·split
       ·rfl
       ·rw [h2];rfl
     refine ⟨fun G => ?_, ?_, ?_⟩
     ·simp only [opA,hev,hg]
      rw [h1 G];rfl
     ·rw [hfe];rfl
     ·rw [hfe];rfl
    ·cases h
   ·cases h
  ·cases h
 ·rename_i h1 h2 h3
  have : plainO (bareO dst op) = false := hp
  rw [this] at h
  simp at h
theorem drawP_runs {arr : Array Oper} {ops : List Oper} {ws : List Nat} {base n : Nat} {K : PostS} (hnear : ∀ d,C.near me d = false) (hn : arr.toList.length = n) : ∀ (l : List Oper) (tb : Tab) (i : Nat) (feetM feet : List Foot) (a : AAct) (G : Heap),feet.length = i → feetM.length = i → i + l.length ≤ n → base + n ≤ G.size → (∀ (k : Nat) (ft : Foot),frOne (feetM[k]?) ft = true → frOne (feet[k]?) ft = true) → (∀ k,l[k]? = ops[i + k]?) →
  (∀ k,i + k < i + l.length → rowOk ops (ws.getD (i + k) 0) (i + k) (tb.getD k ([],[],false)).1 (tb.getD k ([],[],false)).2.1 = true) → (∀ k o,k < i → ops[k]? = some o → plainO o = true → feet[k]? = some noFoot) → drawP C me arr base tb l i feetM a G K →
  ∃ r,drawA C (lim C) me arr base (base + n) ws l i feet a G = some r ∧ K r.1 r.2
 | [],tb,i,feetM,feet,a,G,_,_,_,_,_,_,_,_,h => ⟨(a,G),rfl,(by unfold drawP at h;exact h)⟩
 | o :: r,tb,i,feetM,feet,a,G,hf,hfM,hi,hs,hle,hops,htb,hpl,h => by
  have hle' : ∀ f f' : Foot,(∀ ft,frOne (some f) ft = true → frOne (some f') ft = true) → ∀ (k : Nat) (ft : Foot),frOne ((feetM ++ [f])[k]?) ft = true → frOne ((feet ++ [f'])[k]?) ft = true := by
   intro f f' hff k ft hk
   rcases Nat.lt_or_ge k i with h1 | h1
   ·rw [List.getElem?_append_left (by omega)] at hk ⊢;exact hle k ft hk
   ·rw [List.getElem?_append_right (by omega)] at hk ⊢
    rw [hfM] at hk;rw [hf]
    cases hki : k - i with
    | zero => rw [hki] at hk;exact hff ft hk
    | succ z => rw [hki] at hk;simp [frOne] at hk
  have hsame : ∀ f : Foot,∀ ft,frOne (some f) ft = true → frOne (some f) ft = true := fun _ _ h => h
  have hfree : ∀ (u : List Nat) (ft : Foot),freeT feetM u ft = true → freeT feet u ft = true := fun u ft h => List.all_eq_true.2 fun k hk => hle k ft (List.all_eq_true.1 h k hk)
  have hrow := htb 0 (by simp)
  have ho0 : ops[i]? = some o := by have := hops 0;simpa using this.symm
  have hops' : ∀ k,r[k]? = ops[i + 1 + k]? := fun k => by have := hops (k + 1);rw [List.getElem?_cons_succ] at this;rw [this,show i + (k + 1) = i + 1 + k by omega]
  have htd : ∀ k,tb.tail.getD k ([],[],false) = tb.getD (k + 1) ([],[],false) := fun k => by cases tb <;> simp
  have htb' : ∀ k,i + 1 + k < i + 1 + r.length → rowOk ops (ws.getD (i + 1 + k) 0) (i + 1 + k) (tb.tail.getD k ([],[],false)).1 (tb.tail.getD k ([],[],false)).2.1 = true := fun k hk => by
   rw [htd,show i + 1 + k = i + (k + 1) by omega];exact htb (k + 1) (by simp;omega)
  have hhd : tb.getD 0 ([],[],false) = tb.headD ([],[],false) := by cases tb <;> rfl
  have hpl' : ∀ (ft : Foot),(plainO o = true → ft = noFoot) → ∀ k o',k < i + 1 → ops[k]? = some o' → plainO o' = true → (feet ++ [ft])[k]? = some noFoot := by
   intro ft hft k o' hk ho' hp
   rcases Nat.lt_or_ge k i with h1 | h1
   ·rw [List.getElem?_append_left (by omega)];exact hpl k o' h1 ho' hp
   ·have : k = i := by omega
    subst this
    rw [ho0] at ho';cases ho'
    rw [List.getElem?_append_right (by omega),hf,Nat.sub_self,hft hp];rfl
  rw [hhd,Nat.add_zero] at hrow
  have hi' : i + (r.length + 1) ≤ n := by simpa using hi
  unfold drawP at h
  rw [bindO_iff] at h
  obtain ⟨w,hw,h⟩ := h
  unfold drawA stepD
  rw [hw]
  cases w
  ·simp only [iteB_false] at h
   simp only
   rw [free_no i (by omega),if_pos rfl]
   exact drawP_runs hnear hn r _ (i + 1) _ _ _ G (by simp [hf]) (by simp [hfM]) (by omega) hs (hle' _ _ (hsame _)) hops' htb' (hpl' noFoot fun _ => rfl) h
  ·simp only [iteB_true] at h
   simp only
   by_cases hp : plainO o = true
   ·rw [hp] at h
    simp only [iteB_true] at h
    rw [if_pos hp]
    unfold WpO at h
    rw [bindO_iff,← opA_same] at h
    obtain ⟨⟨v,G1⟩,hop,h⟩ := h
    rw [hop]
    simp only
    rw [free_no i (by omega),if_pos rfl]
    exact drawP_runs hnear hn r _ (i + 1) _ _ _ G (by simp [hf]) (by simp [hfM]) (by omega) hs (hle' _ _ (hsame _)) hops' htb' (hpl' noFoot fun _ => rfl) h
   ·have hp' : plainO o = false := by simpa using hp
    rw [hp'] at h
    simp only [iteB_false] at h
    rw [if_neg hp]
    have hnp : plainAt ops i = false := by unfold plainAt;rw [ho0];exact hp'
    by_cases hl : locOp o.op = true
    ·rw [hl] at h
     simp only [iteB_true] at h
     generalize hft : footA C me o a (base + i) = ft at h ⊢
     cases hokT : okFootT base (tb.headD ([],[],false)).2.1 ft && freeT feetM (tb.headD ([],[],false)).1 ft
     ·rw [hokT] at h;exact h.elim
     ·rw [hokT] at h
      simp only [iteB_true] at h
      simp only [Bool.and_eq_true] at hokT
      have hok : okFoot base (base + n) (ws.getD i 0) ft = true ∧ freeOf feet (ws.getD i 0) ft i = true := ⟨ok_of hrow hnp hokT.1,free_of hrow hnp hpl (hfree _ _ hokT.2)⟩
      unfold WpO at h
      rw [bindO_iff,← opA_same] at h
      obtain ⟨⟨v,G1⟩,hop,h⟩ := h
      obtain ⟨reads,hr,eff,he1,he2,he3⟩ := opA_loc hl hop
      rw [hft] at hr
      obtain ⟨hv1,hv2⟩ := vis_of (slot := base + i) hr hok.1
      generalize hvis : visB base (base + n) (ws.getD i 0) (base + i) ft = vis at hv1 hv2 ⊢
      have hrl : ∀ b ∈ reads,b < G.size → (G.hide vis).get b = G.get b := fun b hb hbs => by rw [hide_get,if_pos hbs,if_pos (hv1 b hb)]
      have hrl2 : ∀ b ∈ reads,(G.hide vis).get b = G.get b := fun b hb => by
       rcases Nat.lt_or_ge b G.size with h1 | h1
       ·exact hrl b hb h1
       ·rw [hide_get,if_neg (by omega),get_none (by omega)]
      have hrun := he3 (G.hide vis) rfl hrl2
      simp only at hrun
      rw [hrun]
      simp only
      have heff : ∀ b o',eff = some (b,o') → b < G.size ∧ vis b = true := by
       intro b o' he
       rcases he1 b o' he with ⟨h1,h2⟩ | h1
       ·obtain ⟨o2,ho2⟩ := Option.isSome_iff_exists.1 h2
        exact ⟨get_ltS ho2,hv1 b h1⟩
       ·subst h1;exact ⟨by omega,hv2⟩
      obtain ⟨hm1,hm2,hm3⟩ := merge_putO heff
      have hg : ({ ft with grows := false } : Foot) = ft := by rw [← hft];have := foot_grows (C := C) (me := me) (o := o) (a := a) (slot := base + i);cases hq : footA C me o a (base + i);rw [hq] at this;simp only at this;subst this;rfl
      have hcont := drawP_runs (n := n) (ws := ws) (ops := ops) hnear hn r _ (i + 1) _ (feet ++ [ft]) _ G1 (by simp [hf]) (by simp [hfM]) (by omega) (by rw [he2,hm3];exact hs) (hle' _ _ (hsame _)) hops' htb' (hpl' ft fun h => absurd h hp) h
      by_cases hid : ft.idle = true
      ·rw [if_pos hid]
       have hG1 : G1 = G := by
        have hW : ∃ W,(footA C me o a (base + i)).writes = some W ∧ W ++ (footA C me o a (base + i)).fresh = [] := by
         rw [hft]
         unfold Foot.idle at hid
         split at hid
         ·rename_i hw;exact ⟨[],hw,by simpa using hid⟩
         ·cases hid
        obtain ⟨W,hW1,hW2⟩ := hW
        have := opA_keeps hop (by omega) hW1
        rw [hW2] at this
        exact heap_ext this.1 this.2.1 fun b => this.2.2 b (by simp)
       simp only [footI,hnear,Bool.false_eq_true,if_false]
       simp only [hok.2,if_true]
       rw [hG1] at hcont
       exact hcont
      ·rw [if_neg hid,hm2,Nat.ble_eq_true_of_le (Nat.le_refl _)]
       simp only [footN,hnear,Bool.false_eq_true,if_false]
       simp only [if_true,hm1,Nat.beq_refl,Bool.not_true,hg,hok.2]
       rw [he2] at hcont
       exact hcont
    ·have hl' : locOp o.op = false := by simpa using hl
     rw [hl'] at h
     simp only [iteB_false] at h
     cases hflag : (tb.headD ([],[],false)).2.2
     case false =>
      rw [hflag] at h
      simp only [iteB_false] at h
      generalize hft : idleFoot C me o a (base + i) = ft at h
      cases hokT : freeT feetM (tb.headD ([],[],false)).1 ft
      ·rw [hokT] at h;exact h.elim
      ·rw [hokT] at h
       simp only [iteB_true] at h
       have hok : freeOf feet (ws.getD i 0) ft i = true := free_of hrow hnp hpl (hfree _ _ hokT)
       rw [bindO_iff] at h
       obtain ⟨v,hv,h⟩ := h
       obtain ⟨h1,h2,h3⟩ := opI_any hp' hl' hv (base + i)
       rw [hft] at h3
       rw [← h3] at h2 ⊢
       rw [h1]
       simp only
       rw [if_pos h2]
       simp only [footI,hnear,Bool.false_eq_true,if_false]
       simp only [hok,if_true]
       exact drawP_runs hnear hn r _ (i + 1) _ _ _ G (by simp [hf]) (by simp [hfM]) (by omega) hs (hle' _ _ (hsame _)) hops' htb' (hpl' _ fun h => absurd h hp) h
     case true =>
      rw [hflag] at h
      simp only [iteB_true] at h
      cases hem : (tb.headD ([],[],false)).1.isEmpty
      ·rw [hem] at h
       simp only [iteB_false] at h
       cases hokT : freeT feetM (tb.headD ([],[],false)).1 stillFoot
       ·rw [hokT] at h;exact h.elim
       ·rw [hokT] at h
        simp only [iteB_true] at h
        have hok : freeOf feet (ws.getD i 0) stillFoot i = true := free_of hrow hnp hpl (hfree _ _ hokT)
        obtain ⟨dst,op,ty,pos,after,guard⟩ := o
        unfold stillO at h
        simp only at h
        split at h
        ·rename_i c
         split at h
         ·rename_i g hcal
          rw [bindO_iff] at h
          obtain ⟨l,hev,h⟩ := h
          rw [bindO_iff] at h
          obtain ⟨v,hg,h⟩ := h
          obtain ⟨hk,rv,hrun,h⟩ := h
          obtain ⟨cal,args,ts⟩ := c
          simp only at hcal hev
          subst hcal
          cases v <;> simp only [kind2] at hk <;> try (cases hk;done)
          rename_i f x y
          cases f <;> simp only [Bool.and_eq_true] at hk <;> try (cases hk;done)
          rename_i f
          have hft : footA C me ⟨dst,.call ⟨.value g,args,ts⟩,ty,pos,after,guard⟩ a (base + i) = stillFoot := by
           have h1 : (standA C f (x ++ l ++ y)).isSome = false := by
            have := hk.1
            unfold standA
            cases hx : C.ext f <;> rw [hx] at this <;> simp_all
           have h2 := Nat.eq_of_beq_eq_true hk.2
           simp only [footA,hg,hev,h1,h2,Bool.false_eq_true,if_false,stillFoot]
          rw [hft]
          generalize hvis : visB base (base + n) (ws.getD i 0) (base + i) stillFoot = vis
          have hwl : ∀ k,(tb.headD ([],[],false)).2.1.contains k = true → (ws.getD i 0).testBit k = true := by
           have hr2 := hrow
           unfold rowOk at hr2
           rw [hnp,Bool.false_or,Bool.and_eq_true] at hr2
           exact fun k hk => List.all_eq_true.1 hr2.2 k (List.contains_iff_mem.1 hk)
          have hvo : ∀ b,(b < base ∨ base + n ≤ b ∨ (base ≤ b ∧ (tb.headD ([],[],false)).2.1.contains (b - base) = true)) → vis b = true := by
           intro b hb
           rw [← hvis]
           unfold visB stillFoot
           simp only [Bool.and_true,Bool.or_eq_true]
           right
           rcases hb with hb | hb | hb
           ·left;left;exact Nat.ble_eq_true_of_le hb
           ·left;right;exact Nat.ble_eq_true_of_le hb
           ·right;exact hwl _ hb.2
          obtain ⟨Y,hY⟩ := hrun (G.hide vis) rfl (hide_size G vis) (fun b hb => by
           rcases Nat.lt_or_ge b G.size with h1 | h1
           ·rw [hide_get,if_pos h1,if_pos (hvo b (by rw [hn] at hb;exact hb))]
           ·rw [hide_get,if_neg (by omega),get_none (by omega)])
          have hop : opA C (lim C) me ⟨dst,.call ⟨.value g,args,ts⟩,ty,pos,after,guard⟩ a (G.hide vis) (base + i) = some (some rv,Y) := by
           simp only [opA,hev,hg]
           unfold callX at hY
           simp only at hY ⊢
           rw [hY];rfl
          rw [hop]
          simp only
          rw [if_pos (by rfl)]
          simp only [footI,hnear,Bool.false_eq_true,if_false]
          simp only [hok,if_true]
          exact drawP_runs hnear hn r _ (i + 1) _ _ _ G (by simp [hf]) (by simp [hfM]) (by omega) hs (hle' _ _ (hsame _)) hops' htb' (hpl' _ fun h => absurd h hp) h
         ·exact h.elim
        ·exact h.elim
      ·rw [hem] at h
       simp only [iteB_true] at h
       have hu : (tb.headD ([],[],false)).1 = [] := List.isEmpty_iff.1 hem
       rw [hu] at hrow
       obtain ⟨dst,op,ty,pos,after,guard⟩ := o
       unfold effO at h
       simp only at h
       split at h
       ·rename_i c
        split at h
        ·rename_i g hcal
         rw [bindO_iff] at h
         obtain ⟨l,hev,h⟩ := h
         rw [bindO_iff] at h
         obtain ⟨v,hg,h⟩ := h
         obtain ⟨hk,h⟩ := h
         obtain ⟨cal,args,ts⟩ := c
         simp only at hcal hev
         subst hcal
         have hft : footA C me ⟨dst,.call ⟨.value g,args,ts⟩,ty,pos,after,guard⟩ a (base + i) = ⟨none,none,[],false,false,0,false,noKept⟩ := by
          simp only [footA,hg,hev]
          cases v <;> simp only [kind0] at hk <;> try (cases hk;done)
          ·rename_i f x y
           cases f <;> simp only [Bool.and_eq_true] at hk <;> try (cases hk;done)
           rename_i f
           have h1 : (standA C f (x ++ l ++ y)).isSome = false := by
            have := hk.1
            unfold standA
            cases hx : C.ext f <;> rw [hx] at this <;> simp_all
           have h2 := Nat.eq_of_beq_eq_true hk.2
           simp only [h1,h2,Bool.false_eq_true,if_false]
          ·rfl
         rw [hft]
         generalize hvis : visB base (base + n) (ws.getD i 0) (base + i) ⟨none,none,[],false,false,0,false,noKept⟩ = vis
         have hvo : ∀ b,(b < base ∨ base + n ≤ b) → vis b = true := by
          intro b hb
          rw [← hvis]
          unfold visB
          simp only [Bool.and_true,Bool.or_eq_true]
          right
          rcases hb with hb | hb
          ·left;left;exact Nat.ble_eq_true_of_le hb
          ·left;right;exact Nat.ble_eq_true_of_le hb
         obtain ⟨rv,Y,hY,hYs,hcont⟩ := h (G.hide vis) rfl (hide_size G vis) (fun b hb => by
          rcases Nat.lt_or_ge b G.size with h1 | h1
          ·rw [hide_get,if_pos h1,if_pos (hvo b (by rw [hn] at hb;exact hb))]
          ·rw [hide_get,if_neg (by omega),get_none (by omega)])
         have hop : opA C (lim C) me ⟨dst,.call ⟨.value g,args,ts⟩,ty,pos,after,guard⟩ a (G.hide vis) (base + i) = some (some rv,Y) := by
          simp only [opA,hev,hg]
          unfold callX at hY
          cases v with
          | fn f x y =>
           cases f with
           | func f =>
            simp only at hY ⊢
            rw [hY];rfl
           | _ => simp at hY
          | yld b =>
           simp only at hY ⊢
           split at hY
           ·rename_i hr
            simp only [Option.some.injEq,Prod.mk.injEq] at hY
            obtain ⟨rfl,rfl⟩ := hY
            rw [hr]
           ·cases hY
          | _ => simp at hY
         rw [hop]
         simp only
         rw [if_neg (by simp [Foot.idle]),Nat.ble_eq_true_of_le hYs,if_pos rfl]
         simp only [footN,hnear,Bool.false_eq_true,if_false]
         have hok : ∀ gr : Bool,freeOf feet (ws.getD i 0) ⟨none,none,[],false,gr,0,false,noKept⟩ i = true := fun gr => free_of hrow hnp hpl rfl
         rw [hok,if_pos rfl]
         have hG' := hcont (G.merge vis Y) rfl (merge_size vis hYs) (fun b hb => by
          rw [merge_get _ hYs]
          rcases Nat.lt_or_ge b G.size with h1 | h1
          ·rw [if_pos h1,if_pos (hvo b (by rw [hn] at hb;exact hb))]
          ·rw [if_neg (by omega)]) (fun b h1 h2 => by
          rw [merge_get _ hYs]
          split
          ·split
           ·exact Or.inr rfl
           ·exact Or.inl rfl
          ·exact Or.inr rfl)
         refine drawP_runs hnear hn r _ (i + 1) _ _ _ _ (by simp [hf]) (by simp [hfM]) (by omega) (by rw [merge_size vis hYs];omega) (hle' effFoot _ ?_) hops' htb' (hpl' _ fun h => absurd h hp) hG'
         intro ft hft'
         obtain ⟨r',w',f',p',g'⟩ := ft
         unfold frOne effFoot clash at hft'
         unfold frOne clash
         simp only [Bool.not_eq_true',Bool.or_eq_false_iff,Bool.true_and] at hft' ⊢
         obtain ⟨⟨⟨⟨⟨⟨q1,q2⟩,q3⟩,q4⟩,q5⟩,q6⟩,q7⟩ := hft'
         exact ⟨⟨⟨⟨⟨⟨q1,q2⟩,q3⟩,q4⟩,q5⟩,by rw [q6,Bool.and_false]⟩,q7⟩
        ·exact h.elim
       ·exact h.elim
theorem wp_drawD {id : Nat} {ops : Array Oper} {a : AAct} {H : Heap} {K : Post} (tb : Tab) (hok : drawOk ops = true) (htb : tabOk ops.toList (waitsAll ops.toList) tb = true)
  (h : drawP C me ops H.size tb ops.toList 0 [] a ⟨H.objs ++ List.replicate ops.toList.length none,H.lock⟩ (setK C me H.size K)) (hnear : ∀ d,C.near me d = false := by intro d;rfl) : Wp C me rd (.region id ops true) a H K := by
 obtain ⟨r,h1,h2⟩ := drawP_runs (ops := ops.toList) (ws := waitsAll ops.toList) (n := ops.toList.length) hnear rfl ops.toList tb 0 [] [] a _ rfl rfl (by omega) (by unfold Heap.size;simp) (fun _ _ h => h) (fun k => by rw [Nat.zero_add]) (fun k hk => by rw [Nat.zero_add] at hk ⊢;exact List.all_eq_true.1 htb k (List.mem_range.2 (by omega))) (fun k o hk => by omega) h
 have hreg : regionA C (lim C) me ops true a H = some r := by
  unfold regionA
  unfold drawOk at hok
  simp only [if_true]
  rw [if_pos hok];exact h1
 unfold Wp
 simp only [codeA,hreg,Option.map_some,bindO_some]
 exact h2
@[congr] theorem drawP_congr {arr : Array Oper} {base : Nat} {tb : Tab} {l : List Oper} {i i' : Nat} {feet feet' : List Foot} {a a' : AAct} {G G' : Heap} {K : PostS} (hi : i = i') (hf : feet = feet') (ha : a = a') (hG : G = G') : drawP C me arr base tb l i feet a G K = drawP C me arr base tb l i' feet' a' G' K := by rw [hi,hf,ha,hG]
section eqs
variable {arr : Array Oper} {base : Nat} {tb : Tab}
@[go_sem ↓] theorem drawP_nil (i : Nat) (feet : List Foot) (a : AAct) (G : Heap) (K : PostS) : drawP C me arr base tb [] i feet a G K = AtS K a G := by unfold drawP;rfl
def plainOp (op : Op) : Bool :=
 match op with
 | .move _ | .assign _ | .pick .. | .build .. | .nilCheck _ | .binOp .. | .unOp .. | .convert .. | .makeInterface .. | .makeFunc .. | .fieldAddr .. | .field .. | .indexAddr .. | .index .. | .extract .. => true
 | _ => false
theorem plainOp_eq (o : Oper) : plainO o = plainOp o.op := rfl
def footD (C : Cfg) (me : FuncId) (d : Option Tmp) (op : Op) (a : AAct) (slot : Nat) : Foot := footA C me (bareO d op) a slot
def contP (C : Cfg) (me : FuncId) (arr : Array Oper) (base : Nat) (tb : Tab) (r : List Oper) (i : Nat) (feet : List Foot) (d : Option Tmp) (a : AAct) (K : PostS) : PostO := fun v G => drawP C me arr base tb r i feet (a.put d v) G K
def contQ (C : Cfg) (me : FuncId) (arr : Array Oper) (base : Nat) (tb : Tab) (r : List Oper) (i : Nat) (feet : List Foot) (d : Option Tmp) (a : AAct) (G : Heap) (K : PostS) : PostO := fun v _ => drawP C me arr base tb r i feet (a.put d v) G K
@[go_sem ↓] theorem contP_some (r : List Oper) (i : Nat) (feet : List Foot) (d : Tmp) (s : Nat) (l : List (Tmp × AV)) (m : List Nat) (K : PostS) (v : AV) (G : Heap) : AtO (contP C me arr base tb r i feet (some d) ⟨s,l,m⟩ K) v G = drawP C me arr base tb r i feet ⟨s,putT s d v l,m⟩ G K := by
 unfold AtO contP;simp only [AAct.put,putT];split <;> rfl
@[go_sem ↓] theorem contP_none (r : List Oper) (i : Nat) (feet : List Foot) (a : AAct) (K : PostS) (v : AV) (G : Heap) : AtO (contP C me arr base tb r i feet none a K) v G = drawP C me arr base tb r i feet a G K := rfl
@[go_sem ↓] theorem contQ_some (r : List Oper) (i : Nat) (feet : List Foot) (d : Tmp) (s : Nat) (l : List (Tmp × AV)) (m : List Nat) (G : Heap) (K : PostS) (v : AV) (G' : Heap) : AtO (contQ C me arr base tb r i feet (some d) ⟨s,l,m⟩ G K) v G' = drawP C me arr base tb r i feet ⟨s,putT s d v l,m⟩ G K := by
 unfold AtO contQ;simp only [AAct.put,putT];split <;> rfl
def stepDP (C : Cfg) (me : FuncId) (arr : Array Oper) (base : Nat) (tb : Tab) (d : Option Tmp) (op : Op) (r : List Oper) (i : Nat) (feet : List Foot) (a : AAct) (G : Heap) (K : PostS) : Prop :=
 iteB (plainOp op) (WpO C me d op a G 0 (contQ C me arr base tb.tail r (i + 1) (feet ++ [noFoot]) d a G K))
  (iteB (locOp op) (iteB (okFootT base (tb.headD ([],[],false)).2.1 (footD C me d op a (base + i)) && freeT feet (tb.headD ([],[],false)).1 (footD C me d op a (base + i)))
    (WpO C me d op a G (base + i) (contP C me arr base tb.tail r (i + 1) (feet ++ [footD C me d op a (base + i)]) d a K)) False)
   (iteB (tb.headD ([],[],false)).2.2
    (iteB (tb.headD ([],[],false)).1.isEmpty (effO C me base (base + arr.toList.length) (bareO d op) a G (contP C me arr base tb.tail r (i + 1) (feet ++ [effFoot]) d a K)) (iteB (freeT feet (tb.headD ([],[],false)).1 stillFoot) (stillO C me base (base + arr.toList.length) (tb.headD ([],[],false)).2.1 (bareO d op) a G (contP C me arr base tb.tail r (i + 1) (feet ++ [stillFoot]) d a K)) False))
    (iteB (freeT feet (tb.headD ([],[],false)).1 (idleFoot C me (bareO d op) a (base + i)))
     (WpJ C me d op a { objs := [],lock := 0 } (contQ C me arr base tb.tail r (i + 1) (feet ++ [idleFoot C me (bareO d op) a (base + i)]) d a G K)) False)))
@[congr] theorem stepDP_congr {d : Option Tmp} {op : Op} {r : List Oper} {i i' : Nat} {feet feet' : List Foot} {a a' : AAct} {G G' : Heap} {K : PostS} (hi : i = i') (hf : feet = feet') (ha : a = a') (hG : G = G') : stepDP C me arr base tb d op r i feet a G K = stepDP C me arr base tb d op r i' feet' a' G' K := by rw [hi,hf,ha,hG]
theorem drawP_step (o : Oper) (r : List Oper) (i : Nat) (feet : List Foot) (a : AAct) (G : Heap) (K : PostS) :
  drawP C me arr base tb (o :: r) i feet a G K = bindO (wantedA arr a o) fun w => iteB w (stepDP C me arr base tb o.dst o.op r i feet a G K) (drawP C me arr base tb.tail r (i + 1) (feet ++ [noFoot]) (a.put o.dst undefA) G K) := by
 have e1 : ∀ s,footA C me o a s = footD C me o.dst o.op a s := fun s => rfl
 have e2 : ∀ s,idleFoot C me o a s = idleFoot C me (bareO o.dst o.op) a s := fun s => rfl
 conv => lhs;unfold drawP
 unfold stepDP
 rw [plainOp_eq,e1,e2]
 congr 1
 funext w
 cases w
 ·rfl
 ·simp only [iteB_true]
  cases hp : plainOp o.op
  ·simp only [iteB_false]
   rfl
  ·simp only [iteB_true]
   unfold WpO
   have := plain_slot (C := C) (me := me) (o := bareO o.dst o.op) hp a G (base + i) 0
   show bindO (opA C (lim C) me (bareO o.dst o.op) a G (base + i)) _ = bindO (opA C (lim C) me (bareO o.dst o.op) a G 0) _
   rw [this];rfl
@[go_sem ↓] theorem drawP_op (d : Option Tmp) (op : Op) (ty : TypeId) (p : String) (af : Array Edge) (r : List Oper) (i : Nat) (feet : List Foot) (a : AAct) (G : Heap) (K : PostS) :
  drawP C me arr base tb (⟨d,op,ty,p,af,none⟩ :: r) i feet a G K = stepDP C me arr base tb d op r i feet a G K := by
 rw [drawP_step];rfl
@[go_sem ↓] theorem drawP_guard (d : Tmp) (op : Op) (ty : TypeId) (p : String) (af : Array Edge) (j : Nat) (w : Bool) (r : List Oper) (i : Nat) (feet : List Foot) (s : Nat) (l : List (Tmp × AV)) (m : List Nat) (G : Heap) (K : PostS) :
  drawP C me arr base tb (⟨some d,op,ty,p,af,some (j,w)⟩ :: r) i feet ⟨s,l,m⟩ G K = bindO (yieldAt ((arr.toList[j]?).bind (·.dst)) ⟨s,l,m⟩) fun y => iteB (y == some w) (stepDP C me arr base tb (some d) op r i feet ⟨s,l,m⟩ G K) (drawP C me arr base tb.tail r (i + 1) (feet ++ [noFoot]) ⟨s,putT s d undefA l,m⟩ G K) := by
 rw [drawP_step]
 have e : (AAct.mk s l m).put (some d) undefA = ⟨s,putT s d undefA l,m⟩ := by simp only [AAct.put,putT];split <;> rfl
 rw [e]
 simp only [wantedA,yieldedA,yieldAt,Array.getElem?_toList]
 cases (arr[j]?).bind (·.dst) with
 | none => rfl
 | some d =>
  simp only
  rcases assoc d l with _ | v
  ·rfl
  ·rcases v with v | _ | l | _ | _ | _ | _ | _ | _ | _ | _ <;> try rfl
   ·cases v <;> rfl
   ·cases l <;> rfl
@[go_sem ↓] theorem stepDP_move (d : Option Tmp) (x) (r : List Oper) (i : Nat) (feet : List Foot) (a : AAct) (G : Heap) (K : PostS) : stepDP C me arr base tb d (.move x) r i feet a G K = WpO C me d (.move x) a G 0 (contQ C me arr base tb.tail r (i + 1) (feet ++ [noFoot]) d a G K) := rfl
@[go_sem ↓] theorem stepDP_assign (d : Option Tmp) (x) (r : List Oper) (i : Nat) (feet : List Foot) (a : AAct) (G : Heap) (K : PostS) : stepDP C me arr base tb d (.assign x) r i feet a G K = WpO C me d (.assign x) a G 0 (contQ C me arr base tb.tail r (i + 1) (feet ++ [noFoot]) d a G K) := rfl
@[go_sem ↓] theorem stepDP_pick (d : Option Tmp) (x y z) (r : List Oper) (i : Nat) (feet : List Foot) (a : AAct) (G : Heap) (K : PostS) : stepDP C me arr base tb d (.pick x y z) r i feet a G K = WpO C me d (.pick x y z) a G 0 (contQ C me arr base tb.tail r (i + 1) (feet ++ [noFoot]) d a G K) := rfl
@[go_sem ↓] theorem stepDP_build (d : Option Tmp) (t y) (r : List Oper) (i : Nat) (feet : List Foot) (a : AAct) (G : Heap) (K : PostS) : stepDP C me arr base tb d (.build t y) r i feet a G K = WpO C me d (.build t y) a G 0 (contQ C me arr base tb.tail r (i + 1) (feet ++ [noFoot]) d a G K) := rfl
@[go_sem ↓] theorem stepDP_nilCheck (d : Option Tmp) (x) (r : List Oper) (i : Nat) (feet : List Foot) (a : AAct) (G : Heap) (K : PostS) : stepDP C me arr base tb d (.nilCheck x) r i feet a G K = WpO C me d (.nilCheck x) a G 0 (contQ C me arr base tb.tail r (i + 1) (feet ++ [noFoot]) d a G K) := rfl
@[go_sem ↓] theorem stepDP_binOp (d : Option Tmp) (o t x y z) (r : List Oper) (i : Nat) (feet : List Foot) (a : AAct) (G : Heap) (K : PostS) : stepDP C me arr base tb d (.binOp o t x y z) r i feet a G K = WpO C me d (.binOp o t x y z) a G 0 (contQ C me arr base tb.tail r (i + 1) (feet ++ [noFoot]) d a G K) := rfl
@[go_sem ↓] theorem stepDP_unOp (d : Option Tmp) (o t x) (r : List Oper) (i : Nat) (feet : List Foot) (a : AAct) (G : Heap) (K : PostS) : stepDP C me arr base tb d (.unOp o t x) r i feet a G K = WpO C me d (.unOp o t x) a G 0 (contQ C me arr base tb.tail r (i + 1) (feet ++ [noFoot]) d a G K) := rfl
@[go_sem ↓] theorem stepDP_convert (d : Option Tmp) (t u x) (r : List Oper) (i : Nat) (feet : List Foot) (a : AAct) (G : Heap) (K : PostS) : stepDP C me arr base tb d (.convert t u x) r i feet a G K = WpO C me d (.convert t u x) a G 0 (contQ C me arr base tb.tail r (i + 1) (feet ++ [noFoot]) d a G K) := rfl
@[go_sem ↓] theorem stepDP_fieldAddr (d : Option Tmp) (t x j) (r : List Oper) (i : Nat) (feet : List Foot) (a : AAct) (G : Heap) (K : PostS) : stepDP C me arr base tb d (.fieldAddr t x j) r i feet a G K = WpO C me d (.fieldAddr t x j) a G 0 (contQ C me arr base tb.tail r (i + 1) (feet ++ [noFoot]) d a G K) := rfl
@[go_sem ↓] theorem stepDP_indexAddr (d : Option Tmp) (t x y) (r : List Oper) (i : Nat) (feet : List Foot) (a : AAct) (G : Heap) (K : PostS) : stepDP C me arr base tb d (.indexAddr t x y) r i feet a G K = WpO C me d (.indexAddr t x y) a G 0 (contQ C me arr base tb.tail r (i + 1) (feet ++ [noFoot]) d a G K) := rfl
@[go_sem ↓] theorem stepDP_index (d : Option Tmp) (t x y) (r : List Oper) (i : Nat) (feet : List Foot) (a : AAct) (G : Heap) (K : PostS) : stepDP C me arr base tb d (.index t x y) r i feet a G K = WpO C me d (.index t x y) a G 0 (contQ C me arr base tb.tail r (i + 1) (feet ++ [noFoot]) d a G K) := rfl
@[go_sem ↓] theorem stepDP_extract (d : Option Tmp) (x j) (r : List Oper) (i : Nat) (feet : List Foot) (a : AAct) (G : Heap) (K : PostS) : stepDP C me arr base tb d (.extract x j) r i feet a G K = WpO C me d (.extract x j) a G 0 (contQ C me arr base tb.tail r (i + 1) (feet ++ [noFoot]) d a G K) := rfl
@[go_sem ↓] theorem stepDP_load (d : Option Tmp) (t x) (r : List Oper) (i : Nat) (feet : List Foot) (a : AAct) (G : Heap) (K : PostS) : stepDP C me arr base tb d (.load t x) r i feet a G K = bindO (nf (footD C me d (.load t x) a (base + i))) fun ft => iteB (okFootT base (tb.headD ([],[],false)).2.1 ft && freeT feet (tb.headD ([],[],false)).1 ft) (WpO C me d (.load t x) a G (base + i) (contP C me arr base tb.tail r (i + 1) (feet ++ [ft]) d a K)) False := rfl
@[go_sem ↓] theorem stepDP_store (d : Option Tmp) (t x y) (r : List Oper) (i : Nat) (feet : List Foot) (a : AAct) (G : Heap) (K : PostS) : stepDP C me arr base tb d (.store t x y) r i feet a G K = bindO (nf (footD C me d (.store t x y) a (base + i))) fun ft => iteB (okFootT base (tb.headD ([],[],false)).2.1 ft && freeT feet (tb.headD ([],[],false)).1 ft) (WpO C me d (.store t x y) a G (base + i) (contP C me arr base tb.tail r (i + 1) (feet ++ [ft]) d a K)) False := rfl
@[go_sem ↓] theorem stepDP_alloc (d : Option Tmp) (t) (r : List Oper) (i : Nat) (feet : List Foot) (a : AAct) (G : Heap) (K : PostS) : stepDP C me arr base tb d (.alloc t) r i feet a G K = bindO (nf (footD C me d (.alloc t) a (base + i))) fun ft => iteB (okFootT base (tb.headD ([],[],false)).2.1 ft && freeT feet (tb.headD ([],[],false)).1 ft) (WpO C me d (.alloc t) a G (base + i) (contP C me arr base tb.tail r (i + 1) (feet ++ [ft]) d a K)) False := rfl
@[go_sem ↓] theorem stepDP_buildSlice (d : Option Tmp) (t n x) (r : List Oper) (i : Nat) (feet : List Foot) (a : AAct) (G : Heap) (K : PostS) : stepDP C me arr base tb d (.buildSlice t n x) r i feet a G K = bindO (nf (footD C me d (.buildSlice t n x) a (base + i))) fun ft => iteB (okFootT base (tb.headD ([],[],false)).2.1 ft && freeT feet (tb.headD ([],[],false)).1 ft) (WpO C me d (.buildSlice t n x) a G (base + i) (contP C me arr base tb.tail r (i + 1) (feet ++ [ft]) d a K)) False := rfl
@[go_sem ↓] theorem stepDP_append (d : Option Tmp) (args ts) (r : List Oper) (i : Nat) (feet : List Foot) (a : AAct) (G : Heap) (K : PostS) : stepDP C me arr base tb d (.call ⟨.builtin .append,args,ts⟩) r i feet a G K = bindO (nf (footD C me d (.call ⟨.builtin .append,args,ts⟩) a (base + i))) fun ft => iteB (okFootT base (tb.headD ([],[],false)).2.1 ft && freeT feet (tb.headD ([],[],false)).1 ft) (WpO C me d (.call ⟨.builtin .append,args,ts⟩) a G (base + i) (contP C me arr base tb.tail r (i + 1) (feet ++ [ft]) d a K)) False := rfl
@[go_sem ↓] theorem stepDP_slice (d : Option Tmp) (t x l h m) (r : List Oper) (i : Nat) (feet : List Foot) (a : AAct) (G : Heap) (K : PostS) : stepDP C me arr base tb d (.slice t x l h m) r i feet a G K = iteB (tb.headD ([],[],false)).2.2 (iteB (tb.headD ([],[],false)).1.isEmpty (effO C me base (base + arr.toList.length) (bareO d (.slice t x l h m)) a G (contP C me arr base tb.tail r (i + 1) (feet ++ [effFoot]) d a K)) (iteB (freeT feet (tb.headD ([],[],false)).1 stillFoot) (stillO C me base (base + arr.toList.length) (tb.headD ([],[],false)).2.1 (bareO d (.slice t x l h m)) a G (contP C me arr base tb.tail r (i + 1) (feet ++ [stillFoot]) d a K)) False)) (bindO (nf (idleFoot C me (bareO d (.slice t x l h m)) a (base + i))) fun ft => iteB (freeT feet (tb.headD ([],[],false)).1 ft) (WpJ C me d (.slice t x l h m) a { objs := [],lock := 0 } (contQ C me arr base tb.tail r (i + 1) (feet ++ [ft]) d a G K)) False) := rfl
@[go_sem ↓] theorem stepDP_len (d : Option Tmp) (args ts) (r : List Oper) (i : Nat) (feet : List Foot) (a : AAct) (G : Heap) (K : PostS) : stepDP C me arr base tb d (.call ⟨.builtin .len,args,ts⟩) r i feet a G K = iteB (tb.headD ([],[],false)).2.2 (iteB (tb.headD ([],[],false)).1.isEmpty (effO C me base (base + arr.toList.length) (bareO d (.call ⟨.builtin .len,args,ts⟩)) a G (contP C me arr base tb.tail r (i + 1) (feet ++ [effFoot]) d a K)) (iteB (freeT feet (tb.headD ([],[],false)).1 stillFoot) (stillO C me base (base + arr.toList.length) (tb.headD ([],[],false)).2.1 (bareO d (.call ⟨.builtin .len,args,ts⟩)) a G (contP C me arr base tb.tail r (i + 1) (feet ++ [stillFoot]) d a K)) False)) (bindO (nf (idleFoot C me (bareO d (.call ⟨.builtin .len,args,ts⟩)) a (base + i))) fun ft => iteB (freeT feet (tb.headD ([],[],false)).1 ft) (WpJ C me d (.call ⟨.builtin .len,args,ts⟩) a { objs := [],lock := 0 } (contQ C me arr base tb.tail r (i + 1) (feet ++ [ft]) d a G K)) False) := rfl
@[go_sem ↓] theorem stepDP_callv (d : Option Tmp) (g args ts) (r : List Oper) (i : Nat) (feet : List Foot) (a : AAct) (G : Heap) (K : PostS) : stepDP C me arr base tb d (.call ⟨.value g,args,ts⟩) r i feet a G K = iteB (tb.headD ([],[],false)).2.2 (iteB (tb.headD ([],[],false)).1.isEmpty (effO C me base (base + arr.toList.length) (bareO d (.call ⟨.value g,args,ts⟩)) a G (contP C me arr base tb.tail r (i + 1) (feet ++ [effFoot]) d a K)) (iteB (freeT feet (tb.headD ([],[],false)).1 stillFoot) (stillO C me base (base + arr.toList.length) (tb.headD ([],[],false)).2.1 (bareO d (.call ⟨.value g,args,ts⟩)) a G (contP C me arr base tb.tail r (i + 1) (feet ++ [stillFoot]) d a K)) False)) (bindO (nf (idleFoot C me (bareO d (.call ⟨.value g,args,ts⟩)) a (base + i))) fun ft => iteB (freeT feet (tb.headD ([],[],false)).1 ft) (WpJ C me d (.call ⟨.value g,args,ts⟩) a { objs := [],lock := 0 } (contQ C me arr base tb.tail r (i + 1) (feet ++ [ft]) d a G K)) False) := rfl
def objsE (o : Option AV) : List Nat := match o with | some v => objsOf v | none => []
@[go_sem] theorem objsE_some (v : AV) : objsE (some v) = objsOf v := rfl
@[go_sem] theorem objs_ptr (b v k : Nat) : objsOf (.ptr b v k) = [b] := rfl
@[go_sem] theorem objs_sl (b v o n : Nat) (c : Option Nat) : objsOf (.sl b v o n c) = [b] := rfl
@[go_sem] theorem objs_v (x : Value) : objsOf (.v x) = [] := rfl
@[go_sem] theorem objs_vs (s : Nat) (l : List AV) (c : Option Nat) : objsOf (.vs s l c) = [] := rfl
@[go_sem] theorem objs_ro (x : AV) (k : Nat) : objsOf (.ro x k) = [] := rfl
def objsL (a : AAct) : List Operand → List Nat
 | [] => []
 | x :: r => objsE (a.eval x) ++ objsL a r
theorem objsL_eq (a : AAct) : ∀ l : List Operand,l.flatMap (objsO a) = objsL a l
 | [] => rfl
 | x :: r => by rw [List.flatMap_cons,objsL_eq a r];rfl
@[go_sem] theorem objsL_nil (a : AAct) : objsL a [] = [] := rfl
@[go_sem] theorem objsL_cons (a : AAct) (x : Operand) (r : List Operand) : objsL a (x :: r) = objsE (a.eval x) ++ objsL a r := rfl
def objs1 (a : AAct) (l : List Operand) : List Nat := match l with | [] => [] | x :: _ => objsE (a.eval x)
@[go_sem] theorem objs1_cons (a : AAct) (x : Operand) (r : List Operand) : objs1 a (x :: r) = objsE (a.eval x) := rfl
@[go_sem] theorem footD_load (d : Option Tmp) (t x) (a : AAct) (s : Nat) : footD C me d (.load t x) a s = ⟨some (objsE (a.eval x)),some [],[],false,false,0,false,noKept⟩ := rfl
@[go_sem] theorem footD_store (d : Option Tmp) (t x y) (a : AAct) (s : Nat) : footD C me d (.store t x y) a s = ⟨some (objsE (a.eval x)),some (objsE (a.eval x)),[],false,false,0,false,noKept⟩ := rfl
@[go_sem] theorem footD_alloc (d : Option Tmp) (t) (a : AAct) (s : Nat) : footD C me d (.alloc t) a s = ⟨some [],some [],[s],false,false,0,false,noKept⟩ := rfl
@[go_sem] theorem footD_build (d : Option Tmp) (t n x) (a : AAct) (s : Nat) : footD C me d (.buildSlice t n x) a s = ⟨some [],some [],[s],false,false,0,false,noKept⟩ := rfl
@[go_sem] theorem footD_append (d : Option Tmp) (args ts) (a : AAct) (s : Nat) : footD C me d (.call ⟨.builtin .append,args,ts⟩) a s = ⟨some (objsL a args.toList),some (objs1 a args.toList),[s],false,false,0,false,noKept⟩ := by
 unfold footD footA bareO;simp only
 rw [objsL_eq]
 cases args.toList <;> rfl
@[go_sem] theorem idleFoot_slice (d : Option Tmp) (t x l h m) (a : AAct) (s : Nat) : idleFoot C me (bareO d (.slice t x l h m)) a s = ⟨some (objsE (a.eval x)),some [],[],false,false,0,false,noKept⟩ := rfl
@[go_sem] theorem idleFoot_len (d : Option Tmp) (args ts) (a : AAct) (s : Nat) : idleFoot C me (bareO d (.call ⟨.builtin .len,args,ts⟩)) a s = ⟨some (objsL a args.toList),some [],[],false,false,0,false,noKept⟩ := by
 unfold idleFoot footA bareO;simp only
 rw [objsL_eq]
@[go_sem] theorem idleFoot_call (d : Option Tmp) (g args ts) (a : AAct) (s : Nat) : idleFoot C me (bareO d (.call ⟨.value g,args,ts⟩)) a s = ⟨some [],some [],[],false,false,0,false,noKept⟩ := rfl
@[go_sem] theorem okFootT_mk (b : Nat) (w l : List Nat) (x : Option (List Nat)) (f : List Nat) (p g : Bool) (n : Nat) (q : Bool) : okFootT b w ⟨some l,x,f,p,g,n,q,noKept⟩ = l.all fun c => ltB c b || w.any fun k => c == b + k := rfl
@[go_sem] theorem freeT_nil (feet : List Foot) (ft : Foot) : freeT feet [] ft = true := rfl
@[go_sem] theorem freeT_cons (feet : List Foot) (k : Nat) (u : List Nat) (ft : Foot) : freeT feet (k :: u) ft = (frOne (feet[k]?) ft && freeT feet u ft) := rfl
def meetL (l : List Nat) (m : List Nat) : Bool := l.any fun x => m.any fun y => x == y
@[go_sem] theorem meetL_nil (m : List Nat) : meetL [] m = false := rfl
@[go_sem] theorem meetL_nilr (l : List Nat) : meetL l [] = false := by unfold meetL;induction l <;> simp_all
theorem meet_L : ∀ l m : List Nat,meet (some l) (some m) = meetL l m
 | [],_ => rfl
 | x :: l,[] => by rw [meetL_nilr];rfl
 | x :: l,y :: m => by
  show ((x :: l).any (y :: m).contains) = _
  unfold meetL
  congr 1
  funext z
  exact List.contains_eq_any_beq
theorem keptL (r w : Option (List Nat)) (g : List Nat) (p gr q : Bool) (n : Nat) (l m : List Nat) : (meetL l m && !(keptAll ⟨r,w,g,p,gr,n,q,noKept⟩ (some m))) = meetL l m := by
 cases m with
 | nil => rw [meetL_nilr];rfl
 | cons x m => simp [keptAll,noKept]
theorem keptL' (r w : Option (List Nat)) (g : List Nat) (p gr q : Bool) (n : Nat) (l m : List Nat) : (meetL m l && !(keptAll ⟨r,w,g,p,gr,n,q,noKept⟩ (some m))) = meetL m l := by
 cases m with
 | nil => rfl
 | cons x m => simp [keptAll,noKept]
@[go_sem] theorem frOne_mk (r w f : List Nat) (p : Bool) (r' w' f' : List Nat) (p' : Bool) (n n' : Nat) (q q' : Bool) : frOne (some ⟨some r,some w,f,p,false,n,q,noKept⟩) ⟨some r',some w',f',p',false,n',q',noKept⟩ = !(meetL w r' || meetL w w' || meetL r w' || meetL f r' || meetL f w') := by
 unfold frOne clash
 simp only [meet_L,Bool.false_and,Bool.or_false]
 rw [keptL,keptL']
@[go_sem] theorem meetL_one (x y : Nat) : meetL [x] [y] = (x == y) := by simp [meetL]
@[go_sem] theorem ltB_zero (n : Nat) : ltB 0 (n + 1) = true := by simp [ltB]
@[go_sem] theorem ltB_succ (a n : Nat) : ltB (a + 1) (n + 1) = ltB a n := by simp [ltB]
@[go_sem] theorem tail_tab (x : List Nat × List Nat × Bool) (tb : Tab) : (x :: tb).tail = tb := rfl
@[go_sem ↓] theorem effO_call (top : Nat) (d : Option Tmp) (g args ts) (a : AAct) (G : Heap) (cont : AV → Heap → Prop) : effO C me base top (bareO d (.call ⟨.value g,args,ts⟩)) a G cont = bindO (evals a args.toList) fun l => bindO (a.eval g) fun v => effV C me base top d v l G cont := rfl
@[congr] theorem stillV_congr {top : Nat} {vl : List Nat} {d : Option Tmp} {v v' : AV} {l l' : List AV} {G G' : Heap} {cont : AV → Heap → Prop} (hv : v = v') (hl : l = l') (hG : G = G') : stillV C me base top vl d v l G cont = stillV C me base top vl d v' l' G' cont := by rw [hv,hl,hG]
@[congr] theorem effV_congr {top : Nat} {d : Option Tmp} {v v' : AV} {l l' : List AV} {G G' : Heap} {cont : AV → Heap → Prop} (hv : v = v') (hl : l = l') (hG : G = G') : effV C me base top d v l G cont = effV C me base top d v' l' G' cont := by rw [hv,hl,hG]
end eqs
end
end Go.Ev
namespace Go.Ev
section
variable {P : Program}
def appTo (e sz by' : Nat) (H : Heap) (slot n : Nat) (new : List AV) (s : AV) : Option (AV × Heap) :=
 match s with
 | .v (.slice none 0 0) => if n = 0 then some (s,H) else (if fitsA by' n && ([] : List AV).all AV.flat then some (.sl slot 0 0 n none,H.put slot (.cells 0 (Nat.max (boundL []) (boundL new)) e sz true ([] ++ new))) else none)
 | .vs z xs cap =>
  if z ≠ sz then none else
  if n = 0 then some (s,H) else
  match cap with
  | some c => if c = xs.length then (if fitsA by' (xs.length + n) && (xs.flatMap AV.cells).all AV.flat then some (.sl slot 0 0 (xs.length + n) none,H.put slot (.cells 0 (Nat.max (boundL (xs.flatMap AV.cells)) (boundL new)) e sz true (xs.flatMap AV.cells ++ new))) else none) else none
  | none => none
 | .sl b v off len cap =>
  if n = 0 then some (s,H) else
  match H.row b v with
  | some (m,_,z,g,cs) =>
   match cap with
   | some c =>
    if len + n ≤ c then
     (match storeCells H b v (off + len * sz) new with | some H' => some (.sl b v off (len + n) cap,H') | none => none)
    else if off + len * sz ≤ cs.length then (if fitsA by' (len + n) && ((cs.drop off).take (len * sz)).all AV.flat then some (.sl slot 0 0 (len + n) none,H.put slot (.cells 0 (Nat.max (boundL ((cs.drop off).take (len * sz))) (boundL new)) e sz true ((cs.drop off).take (len * sz) ++ new))) else none) else none
   | none =>
    if z ≠ sz then none else
    if off + (len + n) * sz ≤ cs.length then
     (match storeCells H b v (off + len * sz) new with | some H' => some (.sl b v off (len + n) cap,H') | none => none)
    else if g = true ∧ off + len * sz = cs.length ∧ H.lock ≤ b ∧ fitsA by' (len + n) = true then
     some (.sl b (v + 1) 0 (len + n) none,H.put b (.cells (v + 1) (Nat.max m (boundL new)) e sz true (cs.drop off ++ new)))
    else none
  | _ => none
 | _ => none
theorem appTo_eq (e : TypeId) (i : TypeInfo) (H : Heap) (slot n : Nat) (new : List AV) (s : AV) : appendTo H slot e i n new s = appTo e i.size i.bytes H slot n new s := by
 unfold appendTo appTo madeA
 rfl
def appG (e sz by' : Nat) (H : Heap) (slot : Nat) (s : AV) (c : Option (Nat × List AV)) : Option (AV × Heap) :=
 match c with
 | none => none
 | some (n,new) => if new.all AV.flat = false then none else appTo e sz by' H slot n new s
theorem app_eq {t u e : TypeId} {i : TypeInfo} {z : AV} (hi : isIntT P u = false) (hu : P.underlying t = some (.slice e)) (hinf : P.info? e = some i) (hz : zeroT P e = some z) (h1 : i.size ≠ 0) (h2 : i.bytes ≠ 0) (h3 : z.cells.length = i.size) (H : Heap) (slot : Nat) (s x : AV) :
  appendA P H slot [t,u] [s,x] = appG e i.size i.bytes H slot s (cellsFrom H i.size x) := by
 unfold appendA appG
 simp only [hi,hu,hinf,hz,Bool.false_eq_true,if_false]
 cases cellsFrom H i.size x with
 | none => rfl
 | some p =>
  simp only
  by_cases hf : p.2.all AV.flat = false
  ·rw [if_pos (Or.inr (Or.inr (Or.inl hf))),if_pos hf]
  ·rw [if_neg (by rintro (h | h | h | h);exact h1 h;exact h2 h;exact hf h;exact h h3),if_neg hf,appTo_eq]
theorem app_eq2 {t u e sz by' : Nat} (hi : isIntT P u = false) (hu : P.underlying t = some (.slice e)) (hinf : (P.info? e).map (fun i => (i.size,i.bytes)) = some (sz,by')) (hz : (zeroT P e).map (fun z => z.cells.length) = some sz) (h1 : sz ≠ 0) (h2 : by' ≠ 0) (H : Heap) (slot : Nat) (s x : AV) :
  appendA P H slot [t,u] [s,x] = appG e sz by' H slot s (cellsFrom H sz x) := by
 obtain ⟨i,hi1,hi2⟩ := Option.map_eq_some_iff.1 hinf
 obtain ⟨z,hz1,hz2⟩ := Option.map_eq_some_iff.1 hz
 simp only [Prod.mk.injEq] at hi2
 obtain ⟨rfl,rfl⟩ := hi2
 exact app_eq hi hu hi1 hz1 h1 h2 hz2 H slot s x
end
@[go_sem] theorem appG_some (e sz b : Nat) (H : Heap) (slot : Nat) (s : AV) (n : Nat) (new : List AV) : appG e sz b H slot s (some (n,new)) = if new.all AV.flat = false then none else appTo e sz b H slot n new s := rfl
@[go_sem] theorem cells_vs' (H : Heap) (sz z : Nat) (xs : List AV) (c : Option Nat) : cellsFrom H sz (.vs z xs c) = if z = sz then some (xs.length,xs.flatMap AV.cells) else none := rfl
@[go_sem] theorem appTo_nil (e sz b : Nat) (H : Heap) (slot n : Nat) (new : List AV) : appTo e sz b H slot n new (.v (.slice none 0 0)) = if n = 0 then some (.v (.slice none 0 0),H) else if fitsA b n = true then some (.sl slot 0 0 n none,H.put slot (.cells 0 (boundL new) e sz true new)) else none := by
 unfold appTo
 simp only [List.all_nil,Bool.and_true,List.nil_append]
 rw [show Nat.max (boundL []) (boundL new) = boundL new from Nat.zero_max (boundL new)]
theorem appTo_own {e sz b' : Nat} {H : Heap} {slot b v len n : Nat} {new : List AV} {m e' : Nat} {cs : List AV} (hr : H.row b v = some (m,e',sz,true,cs)) (hl : len * sz = cs.length) (hk : H.lock ≤ b) (hf : fitsA b' (len + n) = true) (hn : 0 < n) (hs : 0 < sz) :
  appTo e sz b' H slot n new (.sl b v 0 len none) = some (.sl b (v + 1) 0 (len + n) none,H.put b (.cells (v + 1) (Nat.max m (boundL new)) e sz true (cs ++ new))) := by
 unfold appTo
 simp only [hr]
 rw [if_neg (by omega),if_neg (by simp),if_neg,if_pos ⟨trivial,by simpa using hl,hk,hf⟩]
 ·rfl
 ·have : (len + n) * sz = len * sz + n * sz := Nat.add_mul ..
  have h2 : 0 < n * sz := Nat.mul_pos hn hs
  omega
theorem appTo_none {e sz b' : Nat} {H : Heap} {slot : Nat} {new : List AV} {b v off len : Nat} {c : Option Nat} : appTo e sz b' H slot 0 new (.sl b v off len c) = some (.sl b v off len c,H) := by
 unfold appTo;rfl
@[go_sem] theorem plus_mk (l : List (Option AObj)) (k : Nat) (E : List (Option AObj)) : (Heap.mk l k).plus E = ⟨l ++ E,k⟩ := rfl
@[go_sem] theorem plus_plus' (X : Heap) (E F : List (Option AObj)) : (X.plus E).plus F = X.plus (E ++ F) := plus_plus X E F
section
variable {X : Heap} {N : Nat}
theorem rowP (hN : X.size = N) (E : List (Option AObj)) (k v : Nat) : (X.plus E).row (N + k) v = objRow v ((E[k]?).join) := by
 subst hN
 unfold Heap.row objRow
 rw [plus_get_hi _ (by omega),Nat.add_sub_cancel_left]
 cases (E[k]?).join with
 | none => rfl
 | some o => cases o <;> rfl
theorem rowP0 (hN : X.size = N) (E : List (Option AObj)) (v : Nat) : (X.plus E).row N v = objRow v ((E[0]?).join) := rowP hN E 0 v
theorem putP (hN : X.size = N) (E : List (Option AObj)) (k : Nat) (o : AObj) : (X.plus E).put (N + k) o = X.plus (setOrPush (some o) k E) := by
 subst hN
 rw [plus_put_hi _ _ (by omega),Nat.add_sub_cancel_left]
theorem putP0 (hN : X.size = N) (E : List (Option AObj)) (o : AObj) : (X.plus E).put N o = X.plus (setOrPush (some o) 0 E) := putP hN E 0 o
def stP (X : Heap) (E : List (Option AObj)) (k v off : Nat) (xs : List AV) (o : Option AObj) : Option Heap :=
 match o with
 | some (.cells w m e sz g cs) => if w = v ∧ off + xs.length ≤ cs.length ∧ xs.all AV.flat = true then some (X.plus (setOrPush (some (.cells w (Nat.max m (boundL xs)) e sz g (splice off xs cs))) k E)) else none
 | _ => none
@[go_sem] theorem stP_cells (X : Heap) (E : List (Option AObj)) (k v off : Nat) (xs : List AV) (w m e sz g) (cs : List AV) : stP X E k v off xs (some (.cells w m e sz g cs)) = if w = v ∧ off + xs.length ≤ cs.length ∧ xs.all AV.flat = true then some (X.plus (setOrPush (some (.cells w (Nat.max m (boundL xs)) e sz g (splice off xs cs))) k E)) else none := rfl
theorem storeP (hN : X.size = N) (hl : X.lock ≤ N) (E : List (Option AObj)) (k v off : Nat) (xs : List AV) : storeCells (X.plus E) (N + k) v off xs = stP X E k v off xs ((E[k]?).join) := by
 unfold storeCells
 rw [rowP hN]
 unfold objRow stP
 have hk : (X.plus E).lock ≤ N + k := by rw [plus_lock];omega
 cases (E[k]?).join with
 | none => rfl
 | some o =>
  cases o with
  | cells w m e sz g cs =>
   simp only
   by_cases hw : w = v
   ·subst hw
    simp only [if_true,true_and,hk,putP hN]
   ·simp only [hw,if_false,false_and]
  | _ => rfl
theorem storeP0 (hN : X.size = N) (hl : X.lock ≤ N) (E : List (Option AObj)) (v off : Nat) (xs : List AV) : storeCells (X.plus E) N v off xs = stP X E 0 v off xs ((E[0]?).join) := storeP hN hl E 0 v off xs
theorem sizeP (hN : X.size = N) (E : List (Option AObj)) : (X.plus E).size = N + E.length := by rw [plus_size,hN]
theorem settleP (hN : X.size = N) (E : List (Option AObj)) (k : Nat) : settleH (N + k) (X.plus E) = if (E.drop k).all Option.isNone = true then X.plus (E.take k) else X.plus E := by
 subst hN
 unfold settleH Heap.plus Heap.size
 simp only
 rw [List.drop_append,List.drop_of_length_le (by omega),List.nil_append,Nat.add_sub_cancel_left]
 by_cases h : (E.drop k).all Option.isNone = true
 ·rw [if_pos h,if_pos h,List.take_append,List.take_of_length_le (by omega),Nat.add_sub_cancel_left]
 ·rw [if_neg h,if_neg h]
theorem settleP0 (hN : X.size = N) (E : List (Option AObj)) : settleH N (X.plus E) = if (E.drop 0).all Option.isNone = true then X.plus (E.take 0) else X.plus E := settleP hN E 0
theorem rowLo {b : Nat} (hb : b < X.size) (E : List (Option AObj)) (v : Nat) : (X.plus E).row b v = X.row b v := plus_row E hb
theorem putLo {b : Nat} (hb : b < X.size) (E : List (Option AObj)) (o : AObj) : (X.plus E).put b o = (X.put b o).plus E := plus_put E o hb
end
section
variable {C : Cfg} {me : FuncId} {rd : Option Nat}
theorem wp_drawX {id : Nat} {ops : Array Oper} {a : AAct} {H : Heap} {K : Post} (tb : Tab) (hok : drawOk ops = true) (htb : tabOk ops.toList (waitsAll ops.toList) tb = true)
  (h : drawP C me ops H.size tb ops.toList 0 [] a (H.plus (List.replicate ops.toList.length none)) (setK C me H.size K)) (hnear : ∀ d,C.near me d = false := by intro d;rfl) : Wp C me rd (.region id ops true) a H K := wp_drawD tb hok htb h hnear
end
end Go.Ev
namespace Go.Ev
def HasE (rows : Fm) (E : List (Option AObj)) : Prop := ∀ p ∈ rows,E[p.1]? = some (some p.2)
structure MovesE (rows : Fm) (E : List (Option AObj)) (rows' : Fm) (E' : List (Option AObj)) : Prop where
 size : E.length ≤ E'.length
 same : ∀ j,j < E.length → ¬ keyIn j rows → E'[j]? = E[j]?
 keys : ∀ p ∈ rows',keyIn p.1 rows ∨ E.length ≤ p.1
theorem MovesE.refl (rows : Fm) (E : List (Option AObj)) : MovesE rows E rows E := ⟨Nat.le_refl _,fun _ _ _ => rfl,fun p hp => Or.inl ⟨p,hp,rfl⟩⟩
theorem MovesE.append (rows : Fm) (E G : List (Option AObj)) : MovesE rows E rows (E ++ G) := ⟨by simp,fun j hj _ => List.getElem?_append_left hj,fun p hp => Or.inl ⟨p,hp,rfl⟩⟩
theorem HasE.append {rows : Fm} {E : List (Option AObj)} (h : HasE rows E) (G : List (Option AObj)) : HasE rows (E ++ G) := fun p hp => by
 rw [List.getElem?_append_left (List.getElem?_eq_some_iff.1 (h p hp)).1];exact h p hp
section
variable {C : Cfg} {me : FuncId} {S : Type}
theorem get_list {l : List (Option AObj)} {k b : Nat} {o : AObj} (h : l[b]? = some (some o)) : (Heap.mk l k).get b = some o := by
 unfold Heap.get;rw [h];rfl
end
end Go.Ev
namespace Go.Ev
theorem ltB_n0 (a : Nat) : ltB a 0 = false := by simp [ltB]
attribute [go_sem] ltB_n0 List.any_cons List.any_nil repeatCells splice chunk bsFin ne_eq not_true_eq_false not_false_eq_true List.headD_cons Bool.false_eq_true Nat.le_refl Nat.zero_mul Nat.one_mul Nat.mul_one assoc_setI decide_true decide_false Bool.not_true Bool.not_false List.mem_cons List.not_mem_nil true_or or_true false_or or_false and_true true_and and_self List.getElem?_cons_succ List.getElem?_cons_zero Option.bind_some Option.map_some Option.map_none List.map_cons List.map_nil List.length_cons List.length_nil List.filterMap_cons List.filterMap_nil List.cons_append List.nil_append List.append_nil Nat.zero_add Nat.add_zero List.take_succ_cons List.take_zero List.take_nil List.drop_succ_cons List.drop_zero List.drop_nil List.all_cons List.all_nil Bool.and_true Bool.true_and Bool.false_and Bool.and_false Bool.or_true Bool.true_or Bool.or_false Bool.false_or beq_iff_eq beq_self_eq_true List.zip_cons_cons List.zip_nil_right List.zip_nil_left
end Go.Ev
namespace Go.Ev
open Go.Proofs
attribute [local irreducible] Wp WpS
theorem ans65 {e : Exts} (he : Quiet e) (a : Int) (n : Nat) (hn : n < 2 ^ 63) : Ans (Cx e) 119 [intA a,intA n] (.v (.bool (decide (0 ≤ a ∧ a < n)))) := by
 have hw : IntKind.i64.wrap ((n : Int) - 1) = (n : Int) - 1 := wrap_in _ (by omega) (by omega)
 have hc := call69 he 0 ((n : Int) - 1) [a] (by simp) (.vs 1 [.v (.int .i64 a)] (some 1)) (Or.inr ⟨_,rfl⟩)
 rw [within_len] at hc
 unfold intA at hc
 unfold Ans
 rw [fn_step (fn_119 e) (show Tryz.f119.body = some _ from rfl)]
 simp -implicitDefEqProofs only [Tryz.f119,go_sem,↓reduceIte,Int.reduceEq,Int.reduceLT,Int.reduceLE,List.reduceReplicate,intA,setT_nil,setT_cons,hw,hc]
theorem call65 {e : Exts} (he : Quiet e) (a : Int) (n : Nat) (hn : n < 2 ^ 63) (me : FuncId) (d : Option Tmp) (H : Heap) : callA (Cx e) (lim (Cx e)) me 119 d [.v (.int .i64 a),.v (.int .i64 n)] H = some (.v (.bool (decide (0 ≤ a ∧ a < n))),H) :=
 (ans65 he a n hn).call (ext_119 he) (pure_119 _ _ _) rfl H
theorem callI65 {e : Exts} (he : Quiet e) (a : Int) (n : Nat) (hn : n < 2 ^ 63) (me : FuncId) (d : Option Tmp) : callI (Cx e) me 119 d [.v (.int .i64 a),.v (.int .i64 n)] = some (.v (.bool (decide (0 ≤ a ∧ a < n)))) :=
 (ans65 he a n hn).callI (ext_119 he) (pure_119 _ _ _) rfl
theorem ans45 {e : Exts} (he : Quiet e) (t : Txt) (ht : Fits t) (ch : AV) (xs : List AV) (hch : SlOf 2 xs ch) (hall : All2 ChapA t xs) (a b c : Int) : ∃ x,LineO (lineAt t a b) x ∧ Ans (Cx e) 88 [.agg [ch],.agg [intA a,intA b,intA c]] x := by
 have hc1 := call65 he a t.length ht.chs
 by_cases h1 : 0 ≤ a ∧ a < t.length
 ·obtain ⟨i,rfl⟩ : ∃ i : Nat,a = i := ⟨a.toNat,by omega⟩
  obtain ⟨cp,hs⟩ := at_lt t i (by omega)
  obtain ⟨y,hy,l,rfl,lxs,hl,hls⟩ := hall.get hs
  have hm := List.mem_of_getElem? hs
  have hc2 := call65 he b cp.2.length (ht.lines cp hm)
  rw [decide_eq_true h1] at hc1
  by_cases h2 : 0 ≤ b ∧ b < cp.2.length
  ·obtain ⟨j,rfl⟩ : ∃ j : Nat,b = j := ⟨b.toNat,by omega⟩
   obtain ⟨ln,hn⟩ := at_lt cp.2 j (by omega)
   obtain ⟨lx,hx,hlx⟩ := hls.get hn
   have hlx : SlOf 1 (strs ln) lx := hlx
   rw [decide_eq_true h2] at hc2
   have hL : lineAt t i j = some ln := by unfold lineAt;rw [if_pos (by omega)];simp [hs,hn]
   rw [hL]
   refine ⟨lx,hlx, ?_⟩
   unfold Ans
   rw [fn_step (fn_88 e) (show Tryz.f88.body = some _ from rfl)]
   simp -implicitDefEqProofs only [Tryz.f88,go_sem,↓reduceIte,Int.reduceEq,Int.reduceLT,Int.reduceLE,List.reduceReplicate,intA,setT_nil,setT_cons,hch.cells,hch.flat,hch.bound,hch.len,← hall.1,hc1,hch.idx hy,hl.len,hl.cells,← hls.1,hc2,hl.idx hx,hlx.cells]
   rcases hlx with ⟨rfl, -⟩ | ⟨cap,rfl⟩ <;> rfl
  ·rw [decide_eq_false h2] at hc2
   have hL : lineAt t i b = none := by
    unfold lineAt
    split
    ·simp only [Int.toNat_natCast,hs,Option.bind_some]
     rw [List.getElem?_eq_none_iff];omega
    ·rfl
   rw [hL]
   refine ⟨_,rfl, ?_⟩
   unfold Ans
   rw [fn_step (fn_88 e) (show Tryz.f88.body = some _ from rfl)]
   simp -implicitDefEqProofs only [Tryz.f88,go_sem,↓reduceIte,Int.reduceEq,Int.reduceLT,Int.reduceLE,List.reduceReplicate,intA,setT_nil,setT_cons,hch.cells,hch.flat,hch.bound,hch.len,← hall.1,hc1,hch.idx hy,hl.len,hl.cells,← hls.1,hc2]
 ·rw [decide_eq_false h1] at hc1
  have hL : lineAt t a b = none := by
   unfold lineAt
   split
   ·have : t[a.toNat]? = none := by rw [List.getElem?_eq_none_iff];omega
    rw [this];rfl
   ·rfl
  rw [hL]
  refine ⟨_,rfl, ?_⟩
  unfold Ans
  rw [fn_step (fn_88 e) (show Tryz.f88.body = some _ from rfl)]
  simp -implicitDefEqProofs only [Tryz.f88,go_sem,↓reduceIte,Int.reduceEq,Int.reduceLT,Int.reduceLE,List.reduceReplicate,intA,setT_nil,setT_cons,hch.cells,hch.flat,hch.bound,hch.len,← hall.1,hc1]
theorem LineO.bound {o : Option Line} {x : AV} (h : LineO o x) : bound x = 0 := by
 cases o with
 | none => simp only [LineO] at h;subst h;rfl
 | some l => exact SlOf.bound h
theorem call45 {e : Exts} (he : Quiet e) (t : Txt) (ht : Fits t) (ch : AV) (xs : List AV) (hch : SlOf 2 xs ch) (hall : All2 ChapA t xs) (a b c : Int) : ∃ x,LineO (lineAt t a b) x ∧ (∀ (me : FuncId) (d : Option Tmp) (H : Heap),callA (Cx e) (lim (Cx e)) me 88 d [.agg [ch],.agg [.v (.int .i64 a),.v (.int .i64 b),.v (.int .i64 c)]] H = some (x,H)) ∧ ∀ (me : FuncId) (d : Option Tmp),callI (Cx e) me 88 d [.agg [ch],.agg [.v (.int .i64 a),.v (.int .i64 b),.v (.int .i64 c)]] = some x := by
 obtain ⟨x,hx,h⟩ := ans45 he t ht ch xs hch hall a b c
 exact ⟨x,hx,fun me d H => h.call (ext_88 he) (pure_88 _ _ _) (by simp only [boundL_cons,bound_agg,hch.bound,boundL_nil,intA,bound_v];rfl) H,fun me d => h.callI (ext_88 he) (pure_88 _ _ _) (by simp only [boundL_cons,bound_agg,hch.bound,boundL_nil,intA,bound_v];rfl)⟩
end Go.Ev
namespace Go.Ev
open Go.Proofs
attribute [local irreducible] Wp WpS
theorem ans44 {e : Exts} (he : Quiet e) (t : Txt) (ht : Fits t) (ch : AV) (xs : List AV) (hch : SlOf 2 xs ch) (hall : All2 ChapA t xs) (a b c : Int) : Ans (Cx e) 87 [.agg [ch],.agg [intA a,intA b,intA c]] (.v (.bool (placeB' t a b c))) := by
 obtain ⟨x,hx, -,hc⟩ := call45 he t ht ch xs hch hall a b c
 unfold placeB' Ans
 rw [fn_step (fn_87 e) (show Tryz.f87.body = some _ from rfl)]
 cases hL : lineAt t a b with
 | none =>
  rw [hL] at hx
  simp only [LineO] at hx
  subst hx
  have h65 := callI65 he c 0 (by omega)
  rw [decide_eq_false (by omega)] at h65
  simp -implicitDefEqProofs only [Tryz.f87,go_sem,↓reduceIte,Int.reduceEq,Int.reduceLT,Int.reduceLE,List.reduceReplicate,intA,setT_nil,setT_cons,hch.cells,hch.flat,hch.bound]
  refine wp_draw (by kernel_rfl) ?_
  simp -implicitDefEqProofs only [go_sem,↓reduceIte,Int.reduceEq,Int.reduceLT,Int.reduceLE,List.reduceReplicate,intA,setT_nil,setT_cons,hch.cells,hch.flat,hch.bound,hc]
  show bindO (callI (Cx e) 87 119 (some 11) [.v (.int .i64 c),.v (.int .i64 0)]) _
  rw [show ((0 : Nat) : Int) = 0 from rfl] at h65
  rw [h65];rfl
 | some l =>
  rw [hL] at hx
  have hx : SlOf 1 (strs l) x := hx
  obtain ⟨cp,hcm,hlm⟩ := lineAt_mem hL
  have h65 := callI65 he c l.length (ht.words cp hcm l hlm)
  simp -implicitDefEqProofs only [Tryz.f87,go_sem,↓reduceIte,Int.reduceEq,Int.reduceLT,Int.reduceLE,List.reduceReplicate,intA,setT_nil,setT_cons,hch.cells,hch.flat,hch.bound]
  refine wp_draw (by kernel_rfl) ?_
  simp -implicitDefEqProofs only [go_sem,↓reduceIte,Int.reduceEq,Int.reduceLT,Int.reduceLE,List.reduceReplicate,intA,setT_nil,setT_cons,hch.cells,hch.flat,hch.bound,hc,hx.len,hx.lenI,strs_len,h65]
theorem call44 {e : Exts} (he : Quiet e) (t : Txt) (ht : Fits t) (ch : AV) (xs : List AV) (hch : SlOf 2 xs ch) (hall : All2 ChapA t xs) (a b c : Int) (me : FuncId) (d : Option Tmp) (H : Heap) : callA (Cx e) (lim (Cx e)) me 87 d [.agg [ch],.agg [.v (.int .i64 a),.v (.int .i64 b),.v (.int .i64 c)]] H = some (.v (.bool (placeB' t a b c)),H) :=
 (ans44 he t ht ch xs hch hall a b c).call (ext_87 he) (pure_87 _ _ _) (by simp only [boundL_cons,bound_agg,hch.bound,boundL_nil,intA,bound_v];rfl) H
def cmpI (a b : Int) : Int := if a < b then -1 else if b < a then 1 else 0
theorem ans119 {e : Exts} (a : Int) : Ans (Cx e) 132 [intA a] (.v (.bool false)) := by
 unfold Ans
 rw [fn_step (fn_132 e) (show Tryz.f132.body = some _ from rfl)]
 simp -implicitDefEqProofs only [Tryz.f132,go_sem,↓reduceIte,Int.reduceEq,Int.reduceLT,Int.reduceLE,List.reduceReplicate,intA,setT_nil,setT_cons]
theorem call119 {e : Exts} (he : Quiet e) (a : Int) (me : FuncId) (d : Option Tmp) (H : Heap) : callA (Cx e) (lim (Cx e)) me 132 d [.v (.int .i64 a)] H = some (.v (.bool false),H) :=
 (ans119 a).call (ext_132 he) (pure_132 _ _ _) rfl H
theorem ans99 {e : Exts} (he : Quiet e) (a b : Int) : Ans (Cx e) 113 [intA a,intA b] (intA (cmpI a b)) := by
 unfold Ans cmpI
 rw [fn_step (fn_113 e) (show Tryz.f113.body = some _ from rfl)]
 by_cases h1 : a < b
 ·simp -implicitDefEqProofs only [Tryz.f113,go_sem,↓reduceIte,Int.reduceEq,Int.reduceLT,Int.reduceLE,List.reduceReplicate,intA,setT_nil,setT_cons,call119 he,h1]
 ·by_cases h2 : b < a
  ·simp -implicitDefEqProofs only [Tryz.f113,go_sem,↓reduceIte,Int.reduceEq,Int.reduceLT,Int.reduceLE,List.reduceReplicate,intA,setT_nil,setT_cons,call119 he,h1,h2]
  ·simp -implicitDefEqProofs only [Tryz.f113,go_sem,↓reduceIte,Int.reduceEq,Int.reduceLT,Int.reduceLE,List.reduceReplicate,intA,setT_nil,setT_cons,call119 he,h1,h2]
theorem callI99 {e : Exts} (he : Quiet e) (a b : Int) (me : FuncId) (d : Option Tmp) : callI (Cx e) me 113 d [.v (.int .i64 a),.v (.int .i64 b)] = some (.v (.int .i64 (cmpI a b))) :=
 (ans99 he a b).callI (ext_113 he) (pure_113 _ _ _) rfl
def orI : List Int → Int
 | [] => 0
 | a :: r => if a = 0 then orI r else a
theorem ans98 {e : Exts} (ns : List Int) (hn : ns.length < 2 ^ 63) (x : AV) (hx : SlOf 1 (ns.map intA) x) : Ans (Cx e) 80 [x] (intA (orI ns)) := by
 unfold Ans
 rw [fn_step (fn_80 e) (show Tryz.f80.body = some _ from rfl)]
 simp -implicitDefEqProofs only [Tryz.f80,go_sem,↓reduceIte,Int.reduceEq,Int.reduceLT,Int.reduceLE,List.reduceReplicate,intA,setT_nil,setT_cons,hx.len,List.length_map]
 refine Lp_rule (P := fun μ a H => ∃ j,j + μ = ns.length ∧ a = ⟨18,[(0,x),(2,intA 0),(3,intA 0),(6,x),(7,intA ns.length),(8,intA j)],[]⟩ ∧ H = ⟨[],0⟩ ∧ orI ns = orI (ns.drop j)) ?_ ns.length _ _ ⟨0,by omega,rfl,rfl,rfl⟩
 rintro μ _ _ ⟨j,hj,rfl,rfl,ho⟩
 cases μ with
 | zero =>
  obtain rfl : j = ns.length := by omega
  rw [List.drop_of_length_le (Nat.le_refl _)] at ho
  simp -implicitDefEqProofs only [go_sem,↓reduceIte,Int.reduceEq,Int.reduceLT,Int.reduceLE,List.reduceReplicate,intA,setT_nil,setT_cons,Int.lt_irrefl]
  rw [ho];rfl
 | succ μ =>
  have hlt : (j : Int) < (ns.length : Int) := by omega
  have hw := wrap_succ j (by omega)
  have hy : (ns.map intA)[j]? = some (.v (.int .i64 ns[j])) := by rw [List.getElem?_map,List.getElem?_eq_getElem (by omega)];rfl
  rw [List.drop_eq_getElem_cons (by omega : j < ns.length)] at ho
  cases h1 : decide (ns[j] = 0)
  ·simp -implicitDefEqProofs only [go_sem,↓reduceIte,Int.reduceEq,Int.reduceLT,Int.reduceLE,List.reduceReplicate,intA,setT_nil,setT_cons,hlt,hw,hx.idx hy,h1]
   rw [ho];simp only [orI]
   rw [if_neg (of_decide_eq_false h1)]
  ·simp -implicitDefEqProofs only [go_sem,↓reduceIte,Int.reduceEq,Int.reduceLT,Int.reduceLE,List.reduceReplicate,intA,setT_nil,setT_cons,hlt,hw,hx.idx hy,h1]
   refine ⟨μ,by omega,j + 1,by omega,rfl,rfl, ?_⟩
   rw [ho];simp only [orI]
   rw [if_pos (of_decide_eq_true h1)]
theorem callI98 {e : Exts} (he : Quiet e) (a b c : Int) (me : FuncId) (d : Option Tmp) : callI (Cx e) me 80 d [.vs 1 [.v (.int .i64 a),.v (.int .i64 b),.v (.int .i64 c)] (some 3)] = some (.v (.int .i64 (orI [a,b,c]))) :=
 (ans98 [a,b,c] (by simp) _ (Or.inr ⟨_,rfl⟩)).callI (ext_80 he) (pure_80 _ _ _) rfl
def cmpP (a b c a' b' c' : Int) : Int := orI [cmpI a a',cmpI b b',cmpI c c']
theorem ans85 {e : Exts} (he : Quiet e) (a b c a' b' c' : Int) : Ans (Cx e) 161 [.agg [intA a,intA b,intA c],.agg [intA a',intA b',intA c']] (intA (cmpP a b c a' b' c')) := by
 unfold Ans cmpP
 rw [fn_step (fn_161 e) (show Tryz.f161.body = some _ from rfl)]
 simp -implicitDefEqProofs only [Tryz.f161,go_sem,↓reduceIte,Int.reduceEq,Int.reduceLT,Int.reduceLE,List.reduceReplicate,intA,setT_nil,setT_cons]
 refine wp_drawX [([],[],false),([],[],false),([],[],false),([1],[],false),([],[],false),([],[],false),([1,3,4],[],false),([],[],false),([1,3,4,6],[],false),([],[],false),([],[],false),([1,3,4,6,8,9],[],false),([],[],false),([1,3,4,6,8,9,11],[],false),([],[],false),([],[],false),([],[15],false),([],[],false)] (by kernel_rfl) (by kernel_rfl) ?_
 simp -implicitDefEqProofs only [go_sem,↓reduceIte,Int.reduceEq,Int.reduceLT,Int.reduceLE,List.reduceReplicate,intA,setT_nil,setT_cons,callI99 he,callI98 he]
theorem call85 {e : Exts} (he : Quiet e) (a b c a' b' c' : Int) (me : FuncId) (d : Option Tmp) (H : Heap) : callA (Cx e) (lim (Cx e)) me 161 d [.agg [.v (.int .i64 a),.v (.int .i64 b),.v (.int .i64 c)],.agg [.v (.int .i64 a'),.v (.int .i64 b'),.v (.int .i64 c')]] H = some (.v (.int .i64 (cmpP a b c a' b' c')),H) :=
 (ans85 he a b c a' b' c').call (ext_161 he) (pure_161 _ _ _) rfl H
end Go.Ev
namespace Go.Ev
open Go.Proofs
attribute [local irreducible] Wp WpS
structure Rd where
 ch : Int
 ln : Int
 wd : Int
 kind : Int
 word : ByteArray
def rdV (r : Rd) : AV := .agg [.v (.int .i64 r.ch),.v (.int .i64 r.ln),.v (.int .i64 r.wd),.v (.int .u8 r.kind),.v (.string r.word)]
def RdsA (l : List Rd) (x : AV) : Prop := SlOf 5 (l.map rdV) x
theorem rds_get {l : List Rd} {i : Nat} {r : Rd} (h : l[i]? = some r) : (l.map rdV)[i]? = some (rdV r) := by rw [List.getElem?_map,h];rfl
def pairB (a b : Rd) : Bool := !((eqP a.ch a.ln a.wd b.ch b.ln b.wd && !decide (a.kind = 2)) || decide (0 < cmpP a.ch a.ln a.wd b.ch b.ln b.wd))
def ordB : List Rd → Bool
 | a :: b :: r => pairB a b && ordB (b :: r)
 | _ => true
theorem ordB_drop (l : List Rd) (i : Nat) (a b : Rd) (h1 : l[i]? = some a) (h2 : l[i + 1]? = some b) : ordB (l.drop i) = (pairB a b && ordB (l.drop (i + 1))) := by
 obtain ⟨hi,rfl⟩ := List.getElem?_eq_some_iff.1 h1
 obtain ⟨hi2,rfl⟩ := List.getElem?_eq_some_iff.1 h2
 rw [List.drop_eq_getElem_cons hi,List.drop_eq_getElem_cons hi2];rfl
theorem bin_neq8 (x y : Operand) (m n : Int) : binA Tryz.prog .neq 5 x y (.v (.int .u8 m)) (.v (.int .u8 n)) = some (.v (.bool (!decide (m = n)))) := bin_neq m n
theorem ans81 {e : Exts} (he : Quiet e) (l : List Rd) (x : AV) (hx : RdsA l x) (hn : l.length < 2 ^ 63) : Ans (Cx e) 138 [x] (.v (.bool (ordB l))) := by
 have hx : SlOf 5 (l.map rdV) x := hx
 unfold Ans
 rw [fn_step (fn_138 e) (show Tryz.f138.body = some _ from rfl)]
 simp -implicitDefEqProofs only [Tryz.f138,go_sem,↓reduceIte,Int.reduceEq,Int.reduceLT,Int.reduceLE,List.reduceReplicate,intA,setT_nil,setT_cons]
 refine Lp_rule (P := fun μ a H => ∃ j,1 ≤ j ∧ (j ≤ l.length ∨ j = 1) ∧ l.length + 1 = j + μ ∧ a = ⟨39,[(0,x),(2,.v (.bool false)),(3,intA j)],[]⟩ ∧ H = ⟨[],0⟩ ∧ ordB l = ordB (l.drop (j - 1))) ?_ l.length _ _ ⟨1,by omega,by omega,by omega,rfl,rfl,by simp⟩
 rintro μ _ _ ⟨j,hj1,hj2,hj3,rfl,rfl,ho⟩
 by_cases hlt : (j : Int) < (l.length : Int)
 ·obtain ⟨a,ha⟩ := at_lt l (j - 1) (by omega)
  obtain ⟨b,hb⟩ := at_lt l j (by omega)
  have hw1 : IntKind.i64.wrap ((j : Int) - 1) = ((j - 1 : Nat) : Int) := by rw [wrap_in _ (by omega) (by omega)];omega
  have hw2 := wrap_succ j (by omega)
  have hia := hx.idx (rds_get ha)
  have hib := hx.idx (rds_get hb)
  unfold rdV at hia hib
  rw [ordB_drop l (j - 1) a b ha (by rw [show j - 1 + 1 = j by omega];exact hb),show j - 1 + 1 = j by omega] at ho
  have hc := call85 he a.ch a.ln a.wd b.ch b.ln b.wd
  simp -implicitDefEqProofs only [go_sem,↓reduceIte,Int.reduceEq,Int.reduceLT,Int.reduceLE,List.reduceReplicate,intA,setT_nil,setT_cons,hx.len,List.length_map,hlt,hw1,hw2]
  refine wp_drawX [([],[],false),([],[],false),([],[],false),([],[],false),([],[],false),([],[],false),([],[],false),([],[],false),([4],[],false),([4,8],[],false),([4,8,9],[],false),([8],[9,10],false),([],[9,10],false)] (by kernel_rfl) (by kernel_rfl) ?_
  have hd : ordB l = ordB (l.drop j) ∨ (ordB l = false ∧ pairB a b = false) := by
   rw [ho];cases pairB a b
   ·right;exact ⟨Bool.false_and _,rfl⟩
   ·left;exact Bool.true_and _
  have hpb : pairB a b = !((eqP a.ch a.ln a.wd b.ch b.ln b.wd && !decide (a.kind = 2)) || decide (0 < cmpP a.ch a.ln a.wd b.ch b.ln b.wd)) := rfl
  cases h1 : eqP a.ch a.ln a.wd b.ch b.ln b.wd
  ·cases h3 : decide (0 < cmpP a.ch a.ln a.wd b.ch b.ln b.wd)
   ·rw [h1,h3] at hpb
    rw [hpb] at ho
    simp -implicitDefEqProofs only [go_sem,↓reduceIte,Int.reduceEq,Int.reduceLT,Int.reduceLE,List.reduceReplicate,intA,setT_nil,setT_cons,hia,hib,hw1,hw2,eq32,h1,hc,h3,trim_at,hx.bound]
    exact ⟨μ - 1,by omega,j + 1,by omega,by omega,by omega,rfl,rfl,by rw [ho,Nat.add_sub_cancel];rfl⟩
   ·rw [h1,h3] at hpb
    rw [hpb] at ho
    simp -implicitDefEqProofs only [go_sem,↓reduceIte,Int.reduceEq,Int.reduceLT,Int.reduceLE,List.reduceReplicate,intA,setT_nil,setT_cons,hia,hib,hw1,hw2,eq32,h1,hc,h3]
    rw [ho];rfl
  ·cases h2 : decide (a.kind = 2)
   ·rw [h1,h2] at hpb
    rw [hpb] at ho
    simp -implicitDefEqProofs only [go_sem,↓reduceIte,Int.reduceEq,Int.reduceLT,Int.reduceLE,List.reduceReplicate,intA,setT_nil,setT_cons,hia,hib,hw1,hw2,eq32,h1,bin_neq8,h2]
    rw [ho];rfl
   ·cases h3 : decide (0 < cmpP a.ch a.ln a.wd b.ch b.ln b.wd)
    ·rw [h1,h2,h3] at hpb
     rw [hpb] at ho
     simp -implicitDefEqProofs only [go_sem,↓reduceIte,Int.reduceEq,Int.reduceLT,Int.reduceLE,List.reduceReplicate,intA,setT_nil,setT_cons,hia,hib,hw1,hw2,eq32,h1,bin_neq8,h2,hc,h3,trim_at,hx.bound]
     exact ⟨μ - 1,by omega,j + 1,by omega,by omega,by omega,rfl,rfl,by rw [ho,Nat.add_sub_cancel];rfl⟩
    ·rw [h1,h2,h3] at hpb
     rw [hpb] at ho
     simp -implicitDefEqProofs only [go_sem,↓reduceIte,Int.reduceEq,Int.reduceLT,Int.reduceLE,List.reduceReplicate,intA,setT_nil,setT_cons,hia,hib,hw1,hw2,eq32,h1,bin_neq8,h2,hc,h3]
     rw [ho];rfl
 ·have hend : ordB (l.drop (j - 1)) = true := by
   have : (l.drop (j - 1)).length ≤ 1 := by rw [List.length_drop];omega
   match hq : l.drop (j - 1),this with
   | [],_ => rfl
   | [a],_ => rfl
  simp -implicitDefEqProofs only [go_sem,↓reduceIte,Int.reduceEq,Int.reduceLT,Int.reduceLE,List.reduceReplicate,intA,setT_nil,setT_cons,hx.len,List.length_map,hlt]
  rw [ho,hend]
theorem call81 {e : Exts} (he : Quiet e) (l : List Rd) (x : AV) (hx : RdsA l x) (hn : l.length < 2 ^ 63) (me : FuncId) (d : Option Tmp) (H : Heap) : callA (Cx e) (lim (Cx e)) me 138 d [x] H = some (.v (.bool (ordB l)),H) :=
 (ans81 he l x hx hn).call (ext_138 he) (pure_138 _ _ _) (by simp only [boundL_cons,SlOf.bound hx,boundL_nil];rfl) H
end Go.Ev
namespace Go.Ev
open Go.Proofs
attribute [local irreducible] Wp WpS
theorem str_eqB (u w : ByteArray) : bytesEq u.data.toList w.data.toList = decide (u = w) := by
 rw [bytesEq_iff,Bool.eq_iff_iff]
 simp only [decide_eq_true_eq]
 exact (str_ext u w).symm
theorem bin_seq {P : Program} {t : TypeId} (x y : Operand) (u w : ByteArray) : binA P .eql t x y (.v (.string u)) (.v (.string w)) = some (.v (.bool (decide (u = w)))) := by
 rw [← str_eqB];rfl
theorem bin_sne {P : Program} {t : TypeId} (x y : Operand) (u w : ByteArray) : binA P .neq t x y (.v (.string u)) (.v (.string w)) = some (.v (.bool (!decide (u = w)))) := by
 rw [← str_eqB];rfl
def emp : ByteArray := ⟨#[]⟩
def at0 (l : Line) (i : Int) : ByteArray := (l[i.toNat]?).getD emp
def fits1 (l : Line) (r : Rd) : Bool := decide (0 ≤ r.wd ∧ r.wd < l.length) && decide (r.word = emp)
def fits2 (l : Line) (r : Rd) : Bool := withinB 0 l.length [r.wd] && wordB r.word
def fits3 (l : Line) (r : Rd) : Bool := decide (0 ≤ r.wd ∧ r.wd < l.length) && wordB r.word && !decide (r.word = at0 l r.wd)
theorem ans112 {e : Exts} (he : Quiet e) (l : Line) (x : AV) (hx : LineA l x) (hl : l.length < 2 ^ 63) (r : Rd) : Ans (Cx e) 162 [x,rdV r] (.v (.bool (fits1 l r))) := by
 have hx : SlOf 1 (strs l) x := hx
 have hc := call65 he r.wd l.length hl
 unfold Ans fits1
 rw [fn_step (fn_162 e) (show Tryz.f162.body = some _ from rfl)]
 cases h1 : decide (0 ≤ r.wd ∧ r.wd < l.length)
 ·rw [h1] at hc
  simp -implicitDefEqProofs only [Tryz.f162,rdV,go_sem,↓reduceIte,Int.reduceEq,Int.reduceLT,Int.reduceLE,List.reduceReplicate,intA,setT_nil,setT_cons,hx.len,strs_len,hc]
 ·rw [h1] at hc
  simp -implicitDefEqProofs only [Tryz.f162,rdV,go_sem,↓reduceIte,Int.reduceEq,Int.reduceLT,Int.reduceLE,List.reduceReplicate,intA,setT_nil,setT_cons,hx.len,strs_len,hc,bin_seq]
  rfl
theorem ans114 {e : Exts} (he : Quiet e) (l : Line) (x : AV) (hx : LineA l x) (_hl : l.length < 2 ^ 63) (r : Rd) (hr : r.word.size < 2 ^ 63) : Ans (Cx e) 164 [x,rdV r] (.v (.bool (fits2 l r))) := by
 have hx : SlOf 1 (strs l) x := hx
 have hc := call69 he 0 (l.length : Int) [r.wd] (by simp) (.vs 1 [.v (.int .i64 r.wd)] (some 1)) (Or.inr ⟨_,rfl⟩)
 unfold intA at hc
 have hw := call49 he r.word hr
 unfold Ans fits2
 rw [fn_step (fn_164 e) (show Tryz.f164.body = some _ from rfl)]
 cases h1 : withinB 0 l.length [r.wd]
 ·rw [h1] at hc
  simp -implicitDefEqProofs only [Tryz.f164,rdV,go_sem,↓reduceIte,Int.reduceEq,Int.reduceLT,Int.reduceLE,List.reduceReplicate,intA,setT_nil,setT_cons,hx.len,strs_len,hc]
 ·rw [h1] at hc
  simp -implicitDefEqProofs only [Tryz.f164,rdV,go_sem,↓reduceIte,Int.reduceEq,Int.reduceLT,Int.reduceLE,List.reduceReplicate,intA,setT_nil,setT_cons,hx.len,strs_len,hc,hw]
theorem ans116 {e : Exts} (he : Quiet e) (l : Line) (x : AV) (hx : LineA l x) (hl : l.length < 2 ^ 63) (r : Rd) (hr : r.word.size < 2 ^ 63) : Ans (Cx e) 166 [x,rdV r] (.v (.bool (fits3 l r))) := by
 have hx : SlOf 1 (strs l) x := hx
 have hc := callI65 he r.wd l.length hl
 have hw : ∀ (me : FuncId) (d : Option Tmp),callI (Cx e) me 90 d [.v (.string r.word)] = some (.v (.bool (wordB r.word))) := fun me d => (ans49 he r.word hr).callI (ext_90 he) (pure_90 _ _ _) rfl
 unfold Ans fits3
 rw [fn_step (fn_166 e) (show Tryz.f166.body = some _ from rfl)]
 simp -implicitDefEqProofs only [Tryz.f166,rdV,go_sem,↓reduceIte,Int.reduceEq,Int.reduceLT,Int.reduceLE,List.reduceReplicate,intA,setT_nil,setT_cons]
 refine wp_draw (by kernel_rfl) ?_
 by_cases h1 : 0 ≤ r.wd ∧ r.wd < l.length
 ·rw [decide_eq_true h1] at hc ⊢
  obtain ⟨w,hwn⟩ : ∃ n : Nat,r.wd = n := ⟨r.wd.toNat,by omega⟩
  obtain ⟨s,hs⟩ := at_lt l w (by omega)
  have hi := hx.idx (strs_get hs)
  rw [hwn] at hc ⊢
  have ha : at0 l w = s := by unfold at0;rw [Int.toNat_natCast,hs];rfl
  cases h2 : wordB r.word
  ·rw [h2] at hw
   simp -implicitDefEqProofs only [go_sem,↓reduceIte,Int.reduceEq,Int.reduceLT,Int.reduceLE,List.reduceReplicate,intA,setT_nil,setT_cons,hx.len,hx.lenI,strs_len,hc,hw]
  ·rw [h2] at hw
   simp -implicitDefEqProofs only [go_sem,↓reduceIte,Int.reduceEq,Int.reduceLT,Int.reduceLE,List.reduceReplicate,intA,setT_nil,setT_cons,hx.len,hx.lenI,strs_len,hc,hw,hi,bin_sne,ha]
 ·rw [decide_eq_false h1] at hc ⊢
  simp -implicitDefEqProofs only [go_sem,↓reduceIte,Int.reduceEq,Int.reduceLT,Int.reduceLE,List.reduceReplicate,intA,setT_nil,setT_cons,hx.len,hx.lenI,strs_len,hc]
def fnV (f : Nat) : AV := .fn (.func f) [] []
def kindsV : AV := .agg [.v .nilFunc,.v .nilFunc,fnV 162,fnV 163,fnV 164,fnV 165,fnV 166,fnV 167]
theorem ans93 {e : Exts} : Ans (Cx e) 140 [] kindsV := by
 unfold Ans
 rw [fn_step (fn_140 e) (show Tryz.f140.body = some _ from rfl)]
 simp -implicitDefEqProofs only [Tryz.f140,go_sem,↓reduceIte,Int.reduceEq,Int.reduceLT,Int.reduceLE,List.reduceReplicate,intA,setT_nil,setT_cons]
 rfl
end Go.Ev
namespace Go.Ev
open Go.Proofs
@[go_sem] theorem app_22 (H : Heap) (slot : Nat) (s x : AV) : appendA Tryz.prog H slot [22,22] [s,x] = appG 112 2 32 H slot s (cellsFrom H 2 x) := app_eq2 (by kernel_rfl) und_22 (by kernel_rfl) (by kernel_rfl) (by decide) (by decide) H slot s x
@[go_sem] theorem app_41 (H : Heap) (slot : Nat) (s x : AV) : appendA Tryz.prog H slot [41,41] [s,x] = appG 28 3 24 H slot s (cellsFrom H 3 x) := app_eq2 (by kernel_rfl) und_41 (by kernel_rfl) (by kernel_rfl) (by decide) (by decide) H slot s x
@[go_sem] theorem app_48 (H : Heap) (slot : Nat) (s x : AV) : appendA Tryz.prog H slot [48,48] [s,x] = appG 3 1 8 H slot s (cellsFrom H 1 x) := app_eq2 (by kernel_rfl) und_48 (by kernel_rfl) (by kernel_rfl) (by decide) (by decide) H slot s x
@[go_sem] theorem app_64 (H : Heap) (slot : Nat) (s x : AV) : appendA Tryz.prog H slot [64,64] [s,x] = appG 105 5 48 H slot s (cellsFrom H 5 x) := app_eq2 (by kernel_rfl) und_64 (by kernel_rfl) (by kernel_rfl) (by decide) (by decide) H slot s x
@[go_sem] theorem app_87 (H : Heap) (slot : Nat) (s x : AV) : appendA Tryz.prog H slot [87,87] [s,x] = appG 9 1 16 H slot s (cellsFrom H 1 x) := app_eq2 (by kernel_rfl) und_87 (by kernel_rfl) (by kernel_rfl) (by decide) (by decide) H slot s x
@[go_sem] theorem app_110 (H : Heap) (slot : Nat) (s x : AV) : appendA Tryz.prog H slot [110,110] [s,x] = appG 87 1 24 H slot s (cellsFrom H 1 x) := app_eq2 (by kernel_rfl) und_110 (by kernel_rfl) (by kernel_rfl) (by decide) (by decide) H slot s x
end Go.Ev
namespace Go.Ev
open Go.Proofs
attribute [local irreducible] Wp WpS
def fitOne (t : Txt) (r : Rd) : Bool := match lineAt t r.ch r.ln with | none => false | some l => !decide (l.length = 0) && withinB 1 3 [r.kind] && (if r.kind = 1 then fits1 l r else if r.kind = 2 then fits2 l r else fits3 l r)
structure RdF (r : Rd) : Prop where
 lo : 0 ≤ r.kind
 hi : r.kind < 256
 word : r.word.size < 2 ^ 63
theorem conv_u8 (n : Int) (h0 : 0 ≤ n) (h1 : n < 256) : convA Tryz.prog 5 3 (.v (.int .u8 n)) = some (.v (.int .i64 n)) := by
 have : convA Tryz.prog 5 3 (.v (.int .u8 n)) = some (.v (.int .i64 (IntKind.i64.wrap n))) := by kernel_rfl
 rw [this,wrap_in n (by omega) (by omega)]
theorem slLen_none : slLen (.v (.slice none 0 0)) = some (.v (.int .i64 0)) := rfl
theorem cast4 : ((4 : Nat) : Int) = 4 := rfl
theorem rdV_bound (r : Rd) : bound (rdV r) = 0 := rfl
theorem callI112 {e : Exts} (he : Quiet e) (l : Line) (x : AV) (hx : LineA l x) (hl : l.length < 2 ^ 63) (r : Rd) (me : FuncId) (d : Option Tmp) : callI (Cx e) me 162 d [x,rdV r] = some (.v (.bool (fits1 l r))) :=
 (ans112 he l x hx hl r).callI (ext_162 he) (pure_162 _ _ _) (by simp only [boundL_cons,SlOf.bound hx,rdV_bound,boundL_nil];rfl)
theorem callI114 {e : Exts} (he : Quiet e) (l : Line) (x : AV) (hx : LineA l x) (hl : l.length < 2 ^ 63) (r : Rd) (hr : r.word.size < 2 ^ 63) (me : FuncId) (d : Option Tmp) : callI (Cx e) me 164 d [x,rdV r] = some (.v (.bool (fits2 l r))) :=
 (ans114 he l x hx hl r hr).callI (ext_164 he) (pure_164 _ _ _) (by simp only [boundL_cons,SlOf.bound hx,rdV_bound,boundL_nil];rfl)
theorem callI116 {e : Exts} (he : Quiet e) (l : Line) (x : AV) (hx : LineA l x) (hl : l.length < 2 ^ 63) (r : Rd) (hr : r.word.size < 2 ^ 63) (me : FuncId) (d : Option Tmp) : callI (Cx e) me 166 d [x,rdV r] = some (.v (.bool (fits3 l r))) :=
 (ans116 he l x hx hl r hr).callI (ext_166 he) (pure_166 _ _ _) (by simp only [boundL_cons,SlOf.bound hx,rdV_bound,boundL_nil];rfl)
theorem callI69 {e : Exts} (he : Quiet e) (lo hi n : Int) (me : FuncId) (d : Option Tmp) : callI (Cx e) me 120 d [.agg [.v (.int .i64 lo),.v (.int .i64 hi)],.vs 1 [.v (.int .i64 n)] (some 1)] = some (.v (.bool (withinB lo hi [n]))) :=
 (ans69 lo hi [n] (by simp) (.vs 1 [.v (.int .i64 n)] (some 1)) (Or.inr ⟨_,rfl⟩)).callI (ext_120 he) (pure_120 _ _ _) rfl
theorem call93 {e : Exts} (he : Quiet e) (me : FuncId) (d : Option Tmp) (H : Heap) : callA (Cx e) (lim (Cx e)) me 140 d [] H = some (.agg [.v .nilFunc,.v .nilFunc,.fn (.func 162) [] [],.fn (.func 163) [] [],.fn (.func 164) [] [],.fn (.func 165) [] [],.fn (.func 166) [] [],.fn (.func 167) [] []],H) :=
 ans93.call (ext_140 he) (pure_140 _ _ _) rfl H
theorem ans80 {e : Exts} (he : Quiet e) (t : Txt) (ht : Fits t) (ch : AV) (xs : List AV) (hch : SlOf 2 xs ch) (hall : All2 ChapA t xs) (l : List Rd) (x : AV) (hx : RdsA l x) (hn : l.length < 2 ^ 63) (hrd : ∀ r ∈ l,RdF r) : Ans (Cx e) 137 [.agg [ch],x] (.v (.bool (l.all (fitOne t)))) := by
 have hx : SlOf 5 (l.map rdV) x := hx
 unfold Ans
 rw [fn_step (fn_137 e) (show Tryz.f137.body = some _ from rfl)]
 simp -implicitDefEqProofs only [Tryz.f137,go_sem,↓reduceIte,Int.reduceEq,Int.reduceLT,Int.reduceLE,List.reduceReplicate,intA,setT_nil,setT_cons,hch.cells,hch.flat,hch.bound,call93 he,hx.len,List.length_map]
 refine Lp_rule (P := fun μ a H => ∃ j,j + μ = l.length ∧ a = ⟨44,[(0,.agg [ch]),(1,x),(2,.ptr 0 0 0),(4,.v (.bool false)),(5,.ptr 1 0 0),(10,x),(11,intA l.length),(12,intA j)],[]⟩ ∧ H = ⟨[some (.cells 0 0 140 1 false [ch]),some (.cells 0 0 201 1 false [.v .nilFunc,.v .nilFunc,.fn (.func 162) [] [],.fn (.func 163) [] [],.fn (.func 164) [] [],.fn (.func 165) [] [],.fn (.func 166) [] [],.fn (.func 167) [] []])],0⟩ ∧ l.all (fitOne t) = (l.drop j).all (fitOne t)) ?_ l.length _ _ ⟨0,by omega,rfl,rfl,by simp⟩
 rintro μ _ _ ⟨j,hj,rfl,rfl,ho⟩
 cases μ with
 | zero =>
  obtain rfl : j = l.length := by omega
  rw [List.drop_of_length_le (Nat.le_refl _)] at ho
  simp -implicitDefEqProofs only [go_sem,↓reduceIte,Int.reduceEq,Int.reduceLT,Int.reduceLE,List.reduceReplicate,intA,setT_nil,setT_cons,Int.lt_irrefl]
  rw [ho];rfl
 | succ μ =>
  obtain ⟨r,hr⟩ := at_lt l j (by omega)
  have hrf := hrd r (List.mem_of_getElem? hr)
  have hlt : (j : Int) < (l.length : Int) := by omega
  have hw := wrap_succ j (by omega)
  have hir := hx.idx (rds_get hr)
  unfold rdV at hir
  rw [drop_all (fitOne t) l j r hr] at ho
  obtain ⟨y,hy,hc45, -⟩ := call45 he t ht ch xs hch hall r.ch r.ln r.wd
  have hcv := conv_u8 r.kind hrf.lo hrf.hi
  have h69 := callI69 he 1 3 r.kind
  cases hL : lineAt t r.ch r.ln with
  | none =>
   have hfo : fitOne t r = false := by unfold fitOne;rw [hL]
   rw [hfo,Bool.false_and] at ho
   rw [hL] at hy
   simp only [LineO] at hy
   subst hy
   simp -implicitDefEqProofs only [go_sem,↓reduceIte,Int.reduceEq,Int.reduceLT,Int.reduceLE,List.reduceReplicate,intA,setT_nil,setT_cons,hlt,hw,hir,hch.cells,hc45]
   refine wp_drawX [([],[],false),([],[],false),([],[],false),([],[],false),([],[],false),([],[],false),([],[],false),([],[],false),([],[],false),([],[8],false),([],[],false),([],[],false),([],[],false),([],[],false),([],[8],false),([],[],false),([],[],false),([],[8],false),([],[],false),([14,17],[8],false),([],[8],false),([],[],false),([],[],false)] (by kernel_rfl) (by kernel_rfl) ?_
   simp -implicitDefEqProofs only [go_sem,↓reduceIte,Int.reduceEq,Int.reduceLT,Int.reduceLE,List.reduceReplicate,intA,setT_nil,setT_cons,slLen_none,ho]
  | some ln =>
   rw [hL] at hy
   have hy : SlOf 1 (strs ln) y := hy
   obtain ⟨cp,hcm,hlm⟩ := lineAt_mem hL
   have hll := ht.words cp hcm ln hlm
   cases hz : decide (ln.length = 0)
   ·have hz' : decide ((ln.length : Int) = 0) = false := by simpa using hz
    cases hk : withinB 1 3 [r.kind]
    ·have hfo : fitOne t r = false := by unfold fitOne;rw [hL];simp only [hz,hk,Bool.and_false,Bool.false_and]
     rw [hfo,Bool.false_and] at ho
     rw [hk] at h69
     simp -implicitDefEqProofs only [go_sem,↓reduceIte,Int.reduceEq,Int.reduceLT,Int.reduceLE,List.reduceReplicate,intA,setT_nil,setT_cons,hlt,hw,hir,hch.cells,hy.cells,hy.flat,hc45]
     refine wp_drawX [([],[],false),([],[],false),([],[],false),([],[],false),([],[],false),([],[],false),([],[],false),([],[],false),([],[],false),([],[8],false),([],[],false),([],[],false),([],[],false),([],[],false),([],[8],false),([],[],false),([],[],false),([],[8],false),([],[],false),([14,17],[8],false),([],[8],false),([],[],false),([],[],false)] (by kernel_rfl) (by kernel_rfl) ?_
     simp -implicitDefEqProofs only [go_sem,↓reduceIte,Int.reduceEq,Int.reduceLT,Int.reduceLE,List.reduceReplicate,intA,setT_nil,setT_cons,hy.len,hy.lenI,hy.flat,strs_len,hz',hcv,h69,ho]
    ·rw [hk] at h69
     have hfo : fitOne t r = (if r.kind = 1 then fits1 ln r else if r.kind = 2 then fits2 ln r else fits3 ln r) := by unfold fitOne;rw [hL];simp only [hz,hk,Bool.not_false,Bool.true_and]
     have hk3 : r.kind = 1 ∨ r.kind = 2 ∨ r.kind = 3 := by
      simp only [withinB,List.all_cons,List.all_nil,Bool.and_true,Bool.and_eq_true,decide_eq_true_eq] at hk;omega
     rcases hk3 with hk1 | hk1 | hk1
     ·have hfn := callI112 he ln y hy hll r
      unfold rdV at hfn
      rw [hk1] at hir hcv h69 hfn
      rw [if_pos hk1] at hfo
      rw [hfo] at ho
      cases hf : fits1 ln r
      ·rw [hf] at hfn ho
       rw [Bool.false_and] at ho
       simp -implicitDefEqProofs only [go_sem,↓reduceIte,Int.reduceEq,Int.reduceLT,Int.reduceLE,List.reduceReplicate,intA,setT_nil,setT_cons,hlt,hw,hir,hch.cells,hy.cells,hy.flat,hc45]
       refine wp_drawX [([],[],false),([],[],false),([],[],false),([],[],false),([],[],false),([],[],false),([],[],false),([],[],false),([],[],false),([],[8],false),([],[],false),([],[],false),([],[],false),([],[],false),([],[8],false),([],[],false),([],[],false),([],[8],false),([],[],false),([14,17],[8],false),([],[8],false),([],[],false),([],[],false)] (by kernel_rfl) (by kernel_rfl) ?_
       simp -implicitDefEqProofs only [go_sem,↓reduceIte,Int.reduceEq,Int.reduceLT,Int.reduceLE,List.reduceReplicate,intA,setT_nil,setT_cons,hy.len,hy.lenI,hy.flat,strs_len,hz',hcv,h69,hfn,ho,cast4,Int.reduceToNat]
      ·rw [hf] at hfn ho
       rw [Bool.true_and] at ho
       simp -implicitDefEqProofs only [go_sem,↓reduceIte,Int.reduceEq,Int.reduceLT,Int.reduceLE,List.reduceReplicate,intA,setT_nil,setT_cons,hlt,hw,hir,hch.cells,hy.cells,hy.flat,hc45]
       refine wp_drawX [([],[],false),([],[],false),([],[],false),([],[],false),([],[],false),([],[],false),([],[],false),([],[],false),([],[],false),([],[8],false),([],[],false),([],[],false),([],[],false),([],[],false),([],[8],false),([],[],false),([],[],false),([],[8],false),([],[],false),([14,17],[8],false),([],[8],false),([],[],false),([],[],false)] (by kernel_rfl) (by kernel_rfl) ?_
       simp -implicitDefEqProofs only [go_sem,↓reduceIte,Int.reduceEq,Int.reduceLT,Int.reduceLE,List.reduceReplicate,intA,setT_nil,setT_cons,hy.len,hy.lenI,hy.flat,strs_len,hz',hcv,h69,hfn,cast4,Int.reduceToNat,trim_at,hx.bound,hch.bound,hw]
       exact ⟨μ,by omega,j + 1,by omega,rfl,rfl,ho⟩
     ·have hfn := callI114 he ln y hy hll r hrf.word
      unfold rdV at hfn
      rw [hk1] at hir hcv h69 hfn
      rw [if_neg (by omega),if_pos hk1] at hfo
      rw [hfo] at ho
      cases hf : fits2 ln r
      ·rw [hf] at hfn ho
       rw [Bool.false_and] at ho
       simp -implicitDefEqProofs only [go_sem,↓reduceIte,Int.reduceEq,Int.reduceLT,Int.reduceLE,List.reduceReplicate,intA,setT_nil,setT_cons,hlt,hw,hir,hch.cells,hy.cells,hy.flat,hc45]
       refine wp_drawX [([],[],false),([],[],false),([],[],false),([],[],false),([],[],false),([],[],false),([],[],false),([],[],false),([],[],false),([],[8],false),([],[],false),([],[],false),([],[],false),([],[],false),([],[8],false),([],[],false),([],[],false),([],[8],false),([],[],false),([14,17],[8],false),([],[8],false),([],[],false),([],[],false)] (by kernel_rfl) (by kernel_rfl) ?_
       simp -implicitDefEqProofs only [go_sem,↓reduceIte,Int.reduceEq,Int.reduceLT,Int.reduceLE,List.reduceReplicate,intA,setT_nil,setT_cons,hy.len,hy.lenI,hy.flat,strs_len,hz',hcv,h69,hfn,ho,cast4,Int.reduceToNat]
      ·rw [hf] at hfn ho
       rw [Bool.true_and] at ho
       simp -implicitDefEqProofs only [go_sem,↓reduceIte,Int.reduceEq,Int.reduceLT,Int.reduceLE,List.reduceReplicate,intA,setT_nil,setT_cons,hlt,hw,hir,hch.cells,hy.cells,hy.flat,hc45]
       refine wp_drawX [([],[],false),([],[],false),([],[],false),([],[],false),([],[],false),([],[],false),([],[],false),([],[],false),([],[],false),([],[8],false),([],[],false),([],[],false),([],[],false),([],[],false),([],[8],false),([],[],false),([],[],false),([],[8],false),([],[],false),([14,17],[8],false),([],[8],false),([],[],false),([],[],false)] (by kernel_rfl) (by kernel_rfl) ?_
       simp -implicitDefEqProofs only [go_sem,↓reduceIte,Int.reduceEq,Int.reduceLT,Int.reduceLE,List.reduceReplicate,intA,setT_nil,setT_cons,hy.len,hy.lenI,hy.flat,strs_len,hz',hcv,h69,hfn,cast4,Int.reduceToNat,trim_at,hx.bound,hch.bound,hw]
       exact ⟨μ,by omega,j + 1,by omega,rfl,rfl,ho⟩
     ·have hfn := callI116 he ln y hy hll r hrf.word
      unfold rdV at hfn
      rw [hk1] at hir hcv h69 hfn
      rw [if_neg (by omega),if_neg (by omega)] at hfo
      rw [hfo] at ho
      cases hf : fits3 ln r
      ·rw [hf] at hfn ho
       rw [Bool.false_and] at ho
       simp -implicitDefEqProofs only [go_sem,↓reduceIte,Int.reduceEq,Int.reduceLT,Int.reduceLE,List.reduceReplicate,intA,setT_nil,setT_cons,hlt,hw,hir,hch.cells,hy.cells,hy.flat,hc45]
       refine wp_drawX [([],[],false),([],[],false),([],[],false),([],[],false),([],[],false),([],[],false),([],[],false),([],[],false),([],[],false),([],[8],false),([],[],false),([],[],false),([],[],false),([],[],false),([],[8],false),([],[],false),([],[],false),([],[8],false),([],[],false),([14,17],[8],false),([],[8],false),([],[],false),([],[],false)] (by kernel_rfl) (by kernel_rfl) ?_
       simp -implicitDefEqProofs only [go_sem,↓reduceIte,Int.reduceEq,Int.reduceLT,Int.reduceLE,List.reduceReplicate,intA,setT_nil,setT_cons,hy.len,hy.lenI,hy.flat,strs_len,hz',hcv,h69,hfn,ho,cast4,Int.reduceToNat]
      ·rw [hf] at hfn ho
       rw [Bool.true_and] at ho
       simp -implicitDefEqProofs only [go_sem,↓reduceIte,Int.reduceEq,Int.reduceLT,Int.reduceLE,List.reduceReplicate,intA,setT_nil,setT_cons,hlt,hw,hir,hch.cells,hy.cells,hy.flat,hc45]
       refine wp_drawX [([],[],false),([],[],false),([],[],false),([],[],false),([],[],false),([],[],false),([],[],false),([],[],false),([],[],false),([],[8],false),([],[],false),([],[],false),([],[],false),([],[],false),([],[8],false),([],[],false),([],[],false),([],[8],false),([],[],false),([14,17],[8],false),([],[8],false),([],[],false),([],[],false)] (by kernel_rfl) (by kernel_rfl) ?_
       simp -implicitDefEqProofs only [go_sem,↓reduceIte,Int.reduceEq,Int.reduceLT,Int.reduceLE,List.reduceReplicate,intA,setT_nil,setT_cons,hy.len,hy.lenI,hy.flat,strs_len,hz',hcv,h69,hfn,cast4,Int.reduceToNat,trim_at,hx.bound,hch.bound,hw]
       exact ⟨μ,by omega,j + 1,by omega,rfl,rfl,ho⟩
   ·have hz' : decide ((ln.length : Int) = 0) = true := by simpa using hz
    have hfo : fitOne t r = false := by unfold fitOne;rw [hL];simp only [hz,Bool.not_true,Bool.false_and]
    rw [hfo,Bool.false_and] at ho
    simp -implicitDefEqProofs only [go_sem,↓reduceIte,Int.reduceEq,Int.reduceLT,Int.reduceLE,List.reduceReplicate,intA,setT_nil,setT_cons,hlt,hw,hir,hch.cells,hy.cells,hy.flat,hc45]
    refine wp_drawX [([],[],false),([],[],false),([],[],false),([],[],false),([],[],false),([],[],false),([],[],false),([],[],false),([],[],false),([],[8],false),([],[],false),([],[],false),([],[],false),([],[],false),([],[8],false),([],[],false),([],[],false),([],[8],false),([],[],false),([14,17],[8],false),([],[8],false),([],[],false),([],[],false)] (by kernel_rfl) (by kernel_rfl) ?_
    simp -implicitDefEqProofs only [go_sem,↓reduceIte,Int.reduceEq,Int.reduceLT,Int.reduceLE,List.reduceReplicate,intA,setT_nil,setT_cons,hy.len,hy.lenI,hy.flat,strs_len,hz',ho]
end Go.Ev
namespace Go.Ev
open Go.Proofs
attribute [local irreducible] Wp WpS
def atLine (ch ln wd : Int) (r : Rd) : Bool := eqP r.ch r.ln 0 ch ln wd
def rdCells (l : List Rd) : List AV := l.flatMap fun r => (rdV r).cells
def ofV : List Rd → AV
 | [] => .v (.slice none 0 0)
 | r :: l => .vs 5 ((r :: l).map rdV) none
def Of77 (x : AV) (n : Nat) (ch ln wd : Int) (j : Nat) (f : List Rd) (a : AAct) (H : Heap) : Prop :=
 (f = [] ∧ a = ⟨31,[(0,x),(1,.agg [intA ch,intA ln,intA wd]),(3,.ptr 0 0 0),(4,.v (.slice none 0 0)),(5,.v (.slice none 0 0)),(9,x),(10,intA n),(11,intA j)],[]⟩ ∧ H = ⟨[some (.cells 0 0 28 1 false [intA ch,intA ln,intA wd])],0⟩) ∨
 ∃ c1 c2 v,f ≠ [] ∧ a = ⟨31,[(0,x),(1,.agg [intA ch,intA ln,intA wd]),(3,.ptr 0 0 0),(4,.v (.slice none 0 0)),(5,.sl 3 v 0 f.length none),(9,x),(10,intA n),(11,intA j)],[]⟩ ∧ H = ⟨[some (.cells 0 0 28 1 false [intA ch,intA ln,intA wd]),some (.cells 0 0 105 1 false c1),some (.cells 0 0 28 1 false c2),some (.cells v 0 105 5 true (rdCells f))],0⟩
theorem bound_sl (b v o n : Nat) (c : Option Nat) : bound (.sl b v o n c) = b + 1 := rfl
theorem trim_not (l : List (Option AObj)) (k n : Nat) (vs : List AV) (ms : List Nat) (h : decide (boundL vs ≤ n) = false) : (Heap.mk l k).trim n vs ms = ⟨l,k⟩ := by
 have h := of_decide_eq_false h
 unfold Heap.trim
 rw [if_neg]
 rw [Bool.and_eq_true,Bool.and_eq_true,Bool.and_eq_true,Nat.ble_eq]
 exact fun g => h g.1.1.1
theorem rdCells_cons (r : Rd) (f : List Rd) : rdCells (r :: f) = (rdV r).cells ++ rdCells f := rfl
theorem rdCells_len : ∀ f : List Rd,(rdCells f).length = f.length * 5
 | [] => rfl
 | r :: f => by rw [rdCells_cons,List.length_append,rdCells_len f,List.length_cons];show 5 + _ = _;omega
theorem rdCells_append (f g : List Rd) : rdCells (f ++ g) = rdCells f ++ rdCells g := List.flatMap_append
theorem chunk_rds : ∀ f : List Rd,chunk 5 f.length (rdCells f) = f.map rdV
 | [] => rfl
 | r :: f => by
  rw [rdCells_cons,List.length_cons,List.map_cons,← chunk_rds f];rfl
theorem freeze_rds (H : Heap) (b v : Nat) (f : List Rd) (hf : f ≠ []) (hk : H.lock = 0) (hr : H.row b v = some (0,105,5,true,rdCells f)) : freezeV H 1000000 (.sl b v 0 f.length none) = some (ofV f) := by
 have : ofV f = .vs 5 (f.map rdV) none := by cases f with | nil => exact absurd rfl hf | cons r f => rfl
 rw [this,← chunk_rds f]
 unfold freezeV
 simp only [hr,hk]
 rw [if_neg (by omega),if_pos ⟨by rw [rdCells_len];omega,by omega⟩,if_pos trivial,List.drop_zero,List.take_of_length_le (by rw [rdCells_len];omega)]
theorem ans77 {e : Exts} (_he : Quiet e) (l : List Rd) (x : AV) (hx : RdsA l x) (hn : l.length < 2 ^ 33) (ch ln wd : Int) : Ans (Cx e) 123 [x,.agg [intA ch,intA ln,intA wd]] (ofV (l.filter (atLine ch ln wd))) := by
 have hx : SlOf 5 (l.map rdV) x := hx
 unfold Ans
 rw [fn_step (fn_123 e) (show Tryz.f123.body = some _ from rfl)]
 simp -implicitDefEqProofs only [Tryz.f123,go_sem,↓reduceIte,Int.reduceEq,Int.reduceLT,Int.reduceLE,List.reduceReplicate,intA,setT_nil,setT_cons,hx.len,List.length_map]
 refine Lp_rule (P := fun μ a H => ∃ j,j + μ = l.length ∧ Of77 x l.length ch ln wd j ((l.take j).filter (atLine ch ln wd)) a H) ?_ l.length _ _ ⟨0,by omega,Or.inl ⟨rfl,rfl,rfl⟩⟩
 rintro μ _ _ ⟨j,hj,⟨hf,rfl,rfl⟩ | ⟨c1,c2,v,hf,rfl,rfl⟩⟩
 ·cases μ with
  | zero =>
   obtain rfl : j = l.length := by omega
   rw [List.take_of_length_le (Nat.le_refl _)] at hf
   rw [hf]
   simp -implicitDefEqProofs only [go_sem,↓reduceIte,Int.reduceEq,Int.reduceLT,Int.reduceLE,List.reduceReplicate,intA,setT_nil,setT_cons,Int.lt_irrefl,ofV]
  | succ μ =>
   obtain ⟨r,hr⟩ := at_lt l j (by omega)
   have hlt : (j : Int) < (l.length : Int) := by omega
   have hw := wrap_succ j (by omega)
   have hir := hx.idx (rds_get hr)
   unfold rdV at hir
   have ht : (l.take (j + 1)).filter (atLine ch ln wd) = (l.take j).filter (atLine ch ln wd) ++ [r].filter (atLine ch ln wd) := by
    rw [List.take_add_one,hr,List.filter_append];rfl
   cases h1 : eqP r.ch r.ln 0 ch ln wd
   ·simp -implicitDefEqProofs only [go_sem,↓reduceIte,Int.reduceEq,Int.reduceLT,Int.reduceLE,List.reduceReplicate,intA,setT_nil,setT_cons,hlt,hw,hir,eq32,h1,trim_at,hx.bound]
    exact ⟨μ,by omega,j + 1,by omega,Or.inl ⟨by rw [ht,hf];simp [atLine,h1],rfl,rfl⟩⟩
   ·have hf48 : fitsA 48 1 = true := by decide
    simp -implicitDefEqProofs only [go_sem,↓reduceIte,Int.reduceEq,Int.reduceLT,Int.reduceLE,List.reduceReplicate,intA,setT_nil,setT_cons,hlt,hw,hir,eq32,h1,trim_at,hx.bound,hf48,List.flatMap_cons,List.flatMap_nil,trim_not,bound_sl]
    exact ⟨μ,by omega,j + 1,by omega,Or.inr ⟨_,_,0,by rw [ht,hf];simp [atLine,h1],by rw [ht,hf];simp [atLine,h1,intA],by rw [ht,hf];simp [atLine,h1,intA,rdCells,rdV,AV.cells];exact ⟨rfl,rfl⟩⟩⟩
 ·cases μ with
  | zero =>
   obtain rfl : j = l.length := by omega
   rw [List.take_of_length_le (Nat.le_refl _)] at hf
   simp -implicitDefEqProofs only [go_sem,↓reduceIte,Int.reduceEq,Int.reduceLT,Int.reduceLE,List.reduceReplicate,intA,setT_nil,setT_cons,Int.lt_irrefl]
   exact freeze_rds _ 3 v _ hf rfl (by simp [Heap.row,Heap.get])
  | succ μ =>
   obtain ⟨r,hr⟩ := at_lt l j (by omega)
   have hlt : (j : Int) < (l.length : Int) := by omega
   have hw := wrap_succ j (by omega)
   have hir := hx.idx (rds_get hr)
   unfold rdV at hir
   have ht : (l.take (j + 1)).filter (atLine ch ln wd) = (l.take j).filter (atLine ch ln wd) ++ [r].filter (atLine ch ln wd) := by
    rw [List.take_add_one,hr,List.filter_append];rfl
   have hfl : ((l.take j).filter (atLine ch ln wd)).length ≤ l.length := Nat.le_trans (List.length_filter_le _ _) (by rw [List.length_take];omega)
   generalize (l.take j).filter (atLine ch ln wd) = f at *
   cases h1 : eqP r.ch r.ln 0 ch ln wd
   ·simp -implicitDefEqProofs only [go_sem,↓reduceIte,Int.reduceEq,Int.reduceLT,Int.reduceLE,List.reduceReplicate,intA,setT_nil,setT_cons,hlt,hw,hir,eq32,h1,trim_at,hx.bound,bound_sl]
    exact ⟨μ,by omega,j + 1,by omega,Or.inr ⟨c1,c2,v,by rw [ht];simp [hf],by rw [ht];simp [atLine,h1,intA],by rw [ht];simp [atLine,h1,intA]⟩⟩
   ·simp -implicitDefEqProofs only [go_sem,↓reduceIte,Int.reduceEq,Int.reduceLT,Int.reduceLE,List.reduceReplicate,intA,setT_nil,setT_cons,hlt,hw,hir,eq32,h1,trim_at,hx.bound,bound_sl,List.flatMap_cons,List.flatMap_nil]
    rw [appTo_own (m := 0) (e' := 105) (cs := rdCells f) (by simp [Heap.row,Heap.get]) (by rw [rdCells_len]) (Nat.zero_le _) (by unfold fitsA;exact decide_eq_true (by omega)) (by omega) (by omega)]
    simp -implicitDefEqProofs only [go_sem,↓reduceIte,Int.reduceEq,Int.reduceLT,Int.reduceLE,List.reduceReplicate,intA,setT_nil,setT_cons,trim_at,hx.bound,bound_sl]
    exact ⟨μ,by omega,j + 1,by omega,Or.inr ⟨c1,c2,v + 1,by rw [ht];simp [hf],by rw [ht];simp [atLine,h1,intA],by rw [ht];simp [atLine,h1,intA,rdCells_append,rdCells,rdV,AV.cells]⟩⟩
end Go.Ev
namespace Go.Ev
open Go.Proofs
attribute [local irreducible] Wp WpS
theorem slice_from {P : Program} {t et sz : Nat} (hu : P.underlying t = some (.slice et)) (hs : sizeT P et = some sz) {xs : List AV} {x : AV} (h : SlOf sz xs x) (j : Nat) (hj : j ≤ xs.length) : ∃ y,sliceI P t x (some (.v (.int .i64 j))) none none = some y ∧ SlOf sz (xs.drop j) y := by
 rcases h with ⟨rfl,rfl⟩ | ⟨cap,rfl⟩
 ·have : j = 0 := by simpa using hj
  subst this
  refine ⟨.v (.slice none 0 0), ?_,Or.inl ⟨rfl,rfl⟩⟩
  unfold sliceI sliceA
  simp [hu,hs,boundA]
 ·have h1 : (0 : Int) ≤ (j : Int) ∧ (j : Int) ≤ (xs.length : Int) := by omega
  refine ⟨.vs sz (xs.drop j) (capOf none xs.length j cap), ?_,Or.inr ⟨_,rfl⟩⟩
  unfold sliceI sliceA
  simp [hu,hs,boundA,h1]
theorem ltB_hi (N k : Nat) : ltB N (N + (k + 1)) = true := by unfold ltB;simp
def rawE (H : Heap) (w : AV) (Y : Heap) : PostO := fun v H' => v = w ∧ ∃ F,H'.trim H.size [v] [] = Y.plus F
theorem callA_rawE {C : Cfg} {me f : FuncId} {d : Option Tmp} {args : List AV} {H Y : Heap} {w : AV} (hx : C.ext f = none) (hp : C.pure me f d = false) (h : Fn' C f args H (rawE H w Y)) (hh : C.exh f = none := by rfl) : ∃ F,callA C (lim C) me f d args H = some (w,Y.plus F) := by
 unfold Fn' at h
 rw [bindO_iff] at h
 obtain ⟨o,h1,h2⟩ := h
 have hk : callKind C me f d args = 0 := by unfold callKind;rw [hp];rfl
 cases o with
 | ret v H' =>
  obtain ⟨rfl,F,hF⟩ := h2
  refine ⟨F, ?_⟩
  rw [callA_none hx hh];unfold callB
  simp only [hk,h1,hF]
 | _ => exact h2.elim
theorem rawE_at {X Y : Heap} {N : Nat} (hN : X.size = N) (hNY : Y.size = N) (E : List (Option AObj)) (w v : AV) (h : v = w) : AtO (rawE X w Y) v (Y.plus E) := by
 refine ⟨h, ?_⟩
 subst hNY
 obtain ⟨G,hG⟩ := trim_plus (H := Y) [] E [v] [] (n := X.size) (by simp [hN])
 rw [List.nil_append] at hG
 exact ⟨_,hG⟩
theorem rawE_far {X Y : Heap} {E : List (Option AObj)} {N : Nat} (hN : X.size = N) (w v : AV) (h : v = w) (hv : N < bound v) : AtO (rawE X w Y) v (Y.plus E) := by
 refine ⟨h,E, ?_⟩
 unfold Heap.trim
 rw [if_neg]
 rw [Bool.and_eq_true,Bool.and_eq_true,Bool.and_eq_true,Nat.ble_eq]
 have : boundL [v] = bound v := by show Nat.max (bound v) 0 = _;exact Nat.max_eq_left (Nat.zero_le _)
 rw [this]
 exact fun g => by have := g.1.1.1;omega
theorem impure_95 (e : Exts) (h : FuncId) (d : Option Tmp) : (Cx e).pure h 142 d = false := by simp [Cx,pureF,impF,impC]
theorem impure_94 (e : Exts) (h : FuncId) (d : Option Tmp) : (Cx e).pure h 141 d = false := by simp [Cx,pureF,impF,impC]
theorem call95_all {e : Exts} (he : Quiet e) (ws : List ByteArray) (lx : AV) (hl : SlOf 1 (strs ws) lx) (k : Nat) (hk : k ≤ ws.length) (dv : AV) (hdf : dv.flat = true) (hdc : dv.cells = [dv]) :
  ∃ ly,SlOf 1 (strs (ws.drop k)) ly ∧ ∀ (X : Heap) (N : Nat),X.size = N → X.lock ≤ N → ∀ me d,∃ F,callA (Cx e) (lim (Cx e)) me 142 d [.agg [lx,dv],intA k] X = some (.agg [ly,dv],X.plus F) := by
 obtain ⟨ly,hs,hly⟩ := slice_from und_87 size_9 hl k (by rw [strs_len];exact hk)
 have hly : SlOf 1 (strs (ws.drop k)) ly := by unfold strs;rw [List.map_drop];exact hly
 refine ⟨ly,hly,fun X N hN hlk me d => callA_rawE (ext_142 he) (impure_95 _ _ _) ?_⟩
 rw [fn_step (fn_142 e) (show Tryz.f142.body = some _ from rfl)]
 generalize hKK : rawE X (.agg [ly,dv]) X = KK
 rw [← plus_nil X]
 simp -implicitDefEqProofs only [Tryz.f142,go_sem,↓reduceIte,Int.reduceEq,Int.reduceLT,Int.reduceLE,List.reduceReplicate,intA,setT_nil,setT_cons,sizeP hN,putP0 hN,putP hN,settleP0 hN,settleP hN,hl.flat,hl.bound,hdf,List.length_nil,Nat.add_zero]
 refine wp_drawX [([],[],false),([],[],false),([],[],false),([],[],false),([],[],false),([1,3],[],false),([],[],false),([],[],false)] (by kernel_rfl) (by kernel_rfl) ?_
 simp -implicitDefEqProofs only [go_sem,↓reduceIte,Int.reduceEq,Int.reduceLT,Int.reduceLE,List.reduceReplicate,intA,setT_nil,setT_cons,sizeP hN,putP0 hN,putP hN,settleP0 hN,settleP hN,rowP0 hN,rowP hN,storeP0 hN hlk,storeP hN hlk,hl.flat,hl.bound,hdf,hs,ltB_hi,hly.cells,hly.flat,hly.bound,hdc]
 rw [← hKK]
 exact rawE_at hN hN _ _ _ rfl
end Go.Ev
namespace Go.Ev
open Go.Proofs
attribute [local irreducible] Wp WpS
theorem n25 (N : Nat) : N + 2 + 5 = N + 7 := rfl
theorem n71 (N : Nat) : N + 7 + 1 = N + 8 := rfl
theorem cells_of {sz : Nat} {xs : List AV} {x : AV} (h : SlOf sz xs x) (H : Heap) : cellsFrom H sz x = some (xs.length,xs.flatMap AV.cells) := by
 rcases h with ⟨rfl,rfl⟩ | ⟨cap,rfl⟩
 ·rfl
 ·rw [cells_vs',if_pos rfl]
theorem SlOf.objs {sz : Nat} {xs : List AV} {x : AV} (h : SlOf sz xs x) : objsOf x = [] := by rcases h with ⟨rfl,rfl⟩ | ⟨cap,rfl⟩ <;> rfl
theorem strs_cells : ∀ vs : List ByteArray,(strs vs).flatMap AV.cells = strs vs
 | [] => rfl
 | v :: vs => by unfold strs at *;rw [List.map_cons,List.flatMap_cons];have := strs_cells vs;unfold strs at this;rw [this];rfl
theorem strs_flat (vs : List ByteArray) : (strs vs).all AV.flat = true := by unfold strs;rw [List.all_map];exact List.all_eq_true.2 fun _ _ => rfl
theorem strs_bound : ∀ vs : List ByteArray,boundL (strs vs) = 0
 | [] => rfl
 | v :: vs => by show Nat.max 0 (boundL (strs vs)) = 0;rw [strs_bound vs];rfl
theorem strs_append (a b : List ByteArray) : strs (a ++ b) = strs a ++ strs b := by unfold strs;exact List.map_append
theorem rawE_far0 {X Y : Heap} {N : Nat} (hN : X.size = N) (w v : AV) (h : v = w) (hv : N < bound v) : AtO (rawE X w Y) v Y := by
 have := rawE_far (X := X) (Y := Y) (E := []) hN w v h hv
 rwa [plus_nil] at this
theorem call94_nil {e : Exts} (he : Quiet e) (X : Heap) (N : Nat) (hN : X.size = N) (hlk : X.lock ≤ N) (lx : AV) (ls : List ByteArray) (hl : SlOf 1 (strs ls) lx) (vs : List ByteArray) (sx : AV) (hs : SlOf 1 (strs vs) sx) (hv : vs = []) (me : FuncId) (d : Option Tmp) :
  ∃ F,callA (Cx e) (lim (Cx e)) me 141 d [.agg [lx,(.v (.slice none 0 0))],sx] X = some (.agg [lx,(.v (.slice none 0 0))],X.plus F) := by
 refine callA_rawE (ext_141 he) (impure_94 _ _ _) ?_
 rw [fn_step (fn_141 e) (show Tryz.f141.body = some _ from rfl)]
 subst hv
 generalize hKK : rawE X (.agg [lx,(.v (.slice none 0 0))]) X = KK
 rw [← plus_nil X]
 simp -implicitDefEqProofs only [Tryz.f141,go_sem,↓reduceIte,Int.reduceEq,Int.reduceLT,Int.reduceLE,List.reduceReplicate,intA,setT_nil,setT_cons,sizeP hN,putP0 hN,putP hN,settleP0 hN,settleP hN,hl.flat,hl.bound,List.length_nil,Nat.add_zero]
 refine wp_drawX [([],[],false),([],[],false),([],[],false),([1],[],false),([],[],false),([1],[],false),([],[],false),([],[5],false)] (by kernel_rfl) (by kernel_rfl) ?_
 simp -implicitDefEqProofs only [go_sem,↓reduceIte,Int.reduceEq,Int.reduceLT,Int.reduceLE,List.reduceReplicate,intA,setT_nil,setT_cons,sizeP hN,putP0 hN,putP hN,settleP0 hN,settleP hN,rowP0 hN,rowP hN,storeP0 hN hlk,storeP hN hlk,hl.flat,hl.bound,ltB_hi,hl.cells,hs.objs,cells_of hs,strs_cells,strs_flat,strs_bound,strs_len,List.length_nil]
 rw [← hKK]
 exact rawE_at hN hN _ _ _ rfl
theorem call94_new {e : Exts} (he : Quiet e) (X : Heap) (N : Nat) (hN : X.size = N) (hlk : X.lock ≤ N) (lx : AV) (ls : List ByteArray) (hl : SlOf 1 (strs ls) lx) (vs : List ByteArray) (sx : AV) (hs : SlOf 1 (strs vs) sx) (hv : vs ≠ []) (hn : vs.length < 2 ^ 33) (me : FuncId) (d : Option Tmp) :
  ∃ F,callA (Cx e) (lim (Cx e)) me 141 d [.agg [lx,(.v (.slice none 0 0))],sx] X = some (.agg [lx,.sl (N + 7) 0 0 vs.length none],(X.plus [some (.cells 0 0 204 1 false [lx,.v (.slice none 0 0)]),some (.cells 0 (N + 8) 204 1 false [lx,.sl (N + 7) 0 0 vs.length none]),none,none,none,none,none,some (.cells 0 0 9 1 true (strs vs)),none,none]).plus F) := by
 refine callA_rawE (ext_141 he) (impure_94 _ _ _) ?_
 rw [fn_step (fn_141 e) (show Tryz.f141.body = some _ from rfl)]
 have hv0 : vs.length ≠ 0 := fun h => hv (List.length_eq_zero_iff.1 h)
 have hf : fitsA 16 vs.length = true := by unfold fitsA;exact decide_eq_true (by omega)
 generalize hKK : rawE X (.agg [lx,.sl (N + 7) 0 0 vs.length none]) (X.plus [some (.cells 0 0 204 1 false [lx,.v (.slice none 0 0)]),some (.cells 0 (N + 8) 204 1 false [lx,.sl (N + 7) 0 0 vs.length none]),none,none,none,none,none,some (.cells 0 0 9 1 true (strs vs)),none,none]) = KK
 rw [← plus_nil X]
 simp -implicitDefEqProofs only [Tryz.f141,go_sem,↓reduceIte,Int.reduceEq,Int.reduceLT,Int.reduceLE,List.reduceReplicate,intA,setT_nil,setT_cons,sizeP hN,putP0 hN,putP hN,settleP0 hN,settleP hN,hl.flat,hl.bound,List.length_nil,Nat.add_zero]
 refine wp_drawX [([],[],false),([],[],false),([],[],false),([1],[],false),([],[],false),([1],[],false),([],[],false),([],[5],false)] (by kernel_rfl) (by kernel_rfl) ?_
 simp -implicitDefEqProofs only [go_sem,↓reduceIte,Int.reduceEq,Int.reduceLT,Int.reduceLE,List.reduceReplicate,intA,setT_nil,setT_cons,sizeP hN,putP0 hN,putP hN,settleP0 hN,settleP hN,rowP0 hN,rowP hN,storeP0 hN hlk,storeP hN hlk,hl.flat,hl.bound,ltB_hi,hl.cells,hs.objs,cells_of hs,strs_cells,strs_flat,strs_bound,strs_len,hv0,hf,n25,n71,bound_sl]
 rw [← hKK]
 exact rawE_far0 hN _ _ rfl (by simp only [bound,boundL,hl.bound];exact Nat.lt_of_lt_of_le (by omega : N < N + 7 + 1) (Nat.le_trans (Nat.le_max_left _ _) (Nat.le_max_right _ _)))
theorem call94_same {e : Exts} (he : Quiet e) (X : Heap) (N : Nat) (hN : X.size = N) (hlk : X.lock ≤ N) (lx : AV) (ls : List ByteArray) (hl : SlOf 1 (strs ls) lx) (vs : List ByteArray) (sx : AV) (hs : SlOf 1 (strs vs) sx) (ds : List ByteArray) (b v : Nat) (hb : b < N) (_hr : X.row b v = some (0,9,1,true,strs ds)) (hv : vs = []) (me : FuncId) (d : Option Tmp) :
  ∃ F,callA (Cx e) (lim (Cx e)) me 141 d [.agg [lx,(.sl b v 0 ds.length none)],sx] X = some (.agg [lx,(.sl b v 0 ds.length none)],X.plus F) := by
 refine callA_rawE (ext_141 he) (impure_94 _ _ _) ?_
 rw [fn_step (fn_141 e) (show Tryz.f141.body = some _ from rfl)]
 subst hv
 have hb1 : ltB b (N + 2) = true := by unfold ltB;simp;omega
 have hb2 : (N == b) = false := by simp;omega
 generalize hKK : rawE X (.agg [lx,(.sl b v 0 ds.length none)]) X = KK
 rw [← plus_nil X]
 simp -implicitDefEqProofs only [Tryz.f141,go_sem,↓reduceIte,Int.reduceEq,Int.reduceLT,Int.reduceLE,List.reduceReplicate,intA,setT_nil,setT_cons,sizeP hN,putP0 hN,putP hN,settleP0 hN,settleP hN,hl.flat,hl.bound,List.length_nil,Nat.add_zero]
 refine wp_drawX [([],[],false),([],[],false),([],[],false),([1],[],false),([],[],false),([1],[],false),([],[],false),([],[5],false)] (by kernel_rfl) (by kernel_rfl) ?_
 simp -implicitDefEqProofs only [go_sem,↓reduceIte,Int.reduceEq,Int.reduceLT,Int.reduceLE,List.reduceReplicate,intA,setT_nil,setT_cons,sizeP hN,putP0 hN,putP hN,settleP0 hN,settleP hN,rowP0 hN,rowP hN,storeP0 hN hlk,storeP hN hlk,hl.flat,hl.bound,ltB_hi,hl.cells,hs.objs,cells_of hs,strs_cells,strs_flat,strs_bound,strs_len,List.length_nil,hb1,hb2,appTo_none]
 rw [← hKK]
 exact rawE_at hN hN _ _ _ rfl
theorem call94_more {e : Exts} (he : Quiet e) (X : Heap) (N : Nat) (hN : X.size = N) (hlk : X.lock ≤ N) (lx : AV) (ls : List ByteArray) (hl : SlOf 1 (strs ls) lx) (vs : List ByteArray) (sx : AV) (hs : SlOf 1 (strs vs) sx) (ds : List ByteArray) (b v : Nat) (hb : b < N) (hr : X.row b v = some (0,9,1,true,strs ds)) (hk0 : X.lock ≤ b) (hv : vs ≠ []) (hn : ds.length + vs.length < 2 ^ 33) (me : FuncId) (d : Option Tmp) :
  ∃ F,callA (Cx e) (lim (Cx e)) me 141 d [.agg [lx,(.sl b v 0 ds.length none)],sx] X = some (.agg [lx,(.sl b (v + 1) 0 (ds.length + vs.length) none)],(X.put b (.cells (v + 1) 0 9 1 true (strs (ds ++ vs)))).plus F) := by
 refine callA_rawE (ext_141 he) (impure_94 _ _ _) ?_
 rw [fn_step (fn_141 e) (show Tryz.f141.body = some _ from rfl)]
 have hv0 : 0 < vs.length := Nat.pos_of_ne_zero fun h => hv (List.length_eq_zero_iff.1 h)
 have hb1 : ltB b (N + 2) = true := by unfold ltB;simp;omega
 have hb2 : (N == b) = false := by simp;omega
 generalize hY : (X.put b (.cells (v + 1) 0 9 1 true (strs (ds ++ vs)))) = Y
 generalize hKK : rawE X (.agg [lx,(.sl b (v + 1) 0 (ds.length + vs.length) none)]) Y = KK
 rw [← plus_nil X]
 simp -implicitDefEqProofs only [Tryz.f141,go_sem,↓reduceIte,Int.reduceEq,Int.reduceLT,Int.reduceLE,List.reduceReplicate,intA,setT_nil,setT_cons,sizeP hN,putP0 hN,putP hN,settleP0 hN,settleP hN,hl.flat,hl.bound,List.length_nil,Nat.add_zero]
 refine wp_drawX [([],[],false),([],[],false),([],[],false),([1],[],false),([],[],false),([1],[],false),([],[],false),([],[5],false)] (by kernel_rfl) (by kernel_rfl) ?_
 simp -implicitDefEqProofs only [go_sem,↓reduceIte,Int.reduceEq,Int.reduceLT,Int.reduceLE,List.reduceReplicate,intA,setT_nil,setT_cons,sizeP hN,putP0 hN,putP hN,settleP0 hN,settleP hN,rowP0 hN,rowP hN,storeP0 hN hlk,storeP hN hlk,hl.flat,hl.bound,ltB_hi,hl.cells,hs.objs,cells_of hs,strs_cells,strs_flat,strs_bound,strs_len,hb1,hb2]
 have hrp : ∀ E,(X.plus E).row b v = some (0,9,1,true,strs ds) := fun E => by rw [rowLo (by omega)];exact hr
 rw [appTo_own (m := 0) (e' := 9) (cs := strs ds) (hrp _) (by rw [strs_len,Nat.mul_one]) hk0 (by unfold fitsA;exact decide_eq_true (by omega)) hv0 (by omega)]
 rw [putLo (by omega),strs_bound,← strs_append]
 have hNY : (X.put b (.cells (v + 1) (Nat.max 0 0) 9 1 true (strs (ds ++ vs)))).size = N := by rw [put_sizeI _ (by omega)];exact hN
 have hlY : (X.put b (.cells (v + 1) (Nat.max 0 0) 9 1 true (strs (ds ++ vs)))).lock ≤ N := hlk
 change X.put b (.cells (v + 1) (Nat.max 0 0) 9 1 true (strs (ds ++ vs))) = _ at hY
 rw [hY] at hNY hlY ⊢
 simp -implicitDefEqProofs only [go_sem,↓reduceIte,Int.reduceEq,Int.reduceLT,Int.reduceLE,List.reduceReplicate,intA,setT_nil,setT_cons,sizeP hNY,putP0 hNY,putP hNY,settleP0 hNY,settleP hNY,rowP0 hNY,rowP hNY,storeP0 hNY hlY,storeP hNY hlY,hl.flat,hl.bound,bound_sl]
 rw [← hKK]
 exact rawE_at hN hNY _ _ _ rfl
end Go.Ev
namespace Go.Ev
open Go.Proofs
attribute [local irreducible] Wp WpS
def rowOf : AV → Option Nat
 | .sl b _ _ _ _ => some b
 | _ => none
def DoneR (X : Heap) (ds : List ByteArray) (dv : AV) : Prop :=
 (ds = [] ∧ dv = .v (.slice none 0 0)) ∨ ∃ b v,X.lock ≤ b ∧ b < X.size ∧ dv = .sl b v 0 ds.length none ∧ X.row b v = some (0,9,1,true,strs ds)
structure Turned (X Y : Heap) (dv dv' : AV) (ds' : List ByteArray) : Prop where
 lock : Y.lock = X.lock
 size : X.size ≤ Y.size
 same : ∀ i,i < X.size → rowOf dv ≠ some i → Y.get i = X.get i
 done : DoneR Y ds' dv'
 row : rowOf dv' = rowOf dv ∨ ∃ i,rowOf dv' = some i ∧ X.size ≤ i
theorem row_put_same {H : Heap} {b v m e sz : Nat} {g : Bool} {cs : List AV} (hb : b < H.size) : (H.put b (.cells v m e sz g cs)).row b v = some (m,e,sz,g,cs) := by
 unfold Heap.row
 rw [put_get_eq _ (by omega)]
 simp
theorem call94_any {e : Exts} (he : Quiet e) (X : Heap) (hlk : X.lock ≤ X.size) (lx : AV) (ls : List ByteArray) (hl : SlOf 1 (strs ls) lx) (ds : List ByteArray) (dv : AV) (hd : DoneR X ds dv) (vs : List ByteArray) (sx : AV) (hs : SlOf 1 (strs vs) sx) (hn : ds.length + vs.length < 2 ^ 33) (me : FuncId) (d : Option Tmp) :
  ∃ dv' Y,callA (Cx e) (lim (Cx e)) me 141 d [.agg [lx,dv],sx] X = some (.agg [lx,dv'],Y) ∧ Turned X Y dv dv' (ds ++ vs) := by
 rcases hd with ⟨rfl,rfl⟩ | ⟨b,v,hb0,hb,rfl,hr⟩
 ·by_cases hv : vs = []
  ·obtain ⟨F,hF⟩ := call94_nil he X _ rfl hlk lx ls hl vs sx hs hv me d
   refine ⟨_,_,hF,rfl,by rw [plus_size];omega,fun i hi _ => plus_get F hi,Or.inl ⟨by rw [hv];rfl,rfl⟩,Or.inl rfl⟩
  ·obtain ⟨F,hF⟩ := call94_new he X _ rfl hlk lx ls hl vs sx hs hv (by simpa using hn) me d
   rw [plus_plus] at hF
   refine ⟨_,_,hF,rfl,by rw [plus_size];omega,fun i hi _ => plus_get _ hi,Or.inr ⟨X.size + 7,0,by show X.lock ≤ _;omega,by rw [plus_size];simp,rfl, ?_⟩,Or.inr ⟨X.size + 7,rfl,by omega⟩⟩
   rw [rowP rfl];rfl
 ·by_cases hv : vs = []
  ·obtain ⟨F,hF⟩ := call94_same he X _ rfl hlk lx ls hl vs sx hs ds b v hb hr hv me d
   refine ⟨_,_,hF,rfl,by rw [plus_size];omega,fun i hi _ => plus_get F hi,Or.inr ⟨b,v,hb0,by rw [plus_size];omega,by rw [hv,List.append_nil], ?_⟩,Or.inl rfl⟩
   rw [rowLo hb,hr,hv,List.append_nil]
  ·obtain ⟨F,hF⟩ := call94_more he X _ rfl hlk lx ls hl vs sx hs ds b v hb hr hb0 hv hn me d
   have hsz := put_sizeI (H := X) (b := b) (.cells (v + 1) 0 9 1 true (strs (ds ++ vs))) hb
   refine ⟨_,_,hF,rfl,by rw [plus_size,hsz];omega,fun i hi hne => ?_,Or.inr ⟨b,v + 1,hb0,by rw [plus_size,hsz];omega,by rw [List.length_append], ?_⟩,Or.inl rfl⟩
   ·rw [plus_get F (by rw [hsz];exact hi)]
    exact put_get_ne _ (by omega) fun h => hne (by rw [h];rfl)
   ·rw [rowLo (by rw [hsz];exact hb)]
    exact row_put_same hb
end Go.Ev
namespace Go.Ev
open Go.Proofs
attribute [local irreducible] Wp WpS
theorem takeH_get {n i : Nat} {H : Heap} (hi : i < n) : ({ H with objs := H.objs.take n } : Heap).get i = H.get i := by
 unfold Heap.get
 simp only
 rw [List.getElem?_take,if_pos hi]
theorem settle_lo {n i : Nat} {H : Heap} (hi : i < n) : (settleH n H).get i = H.get i := by
 unfold settleH
 split
 ·exact takeH_get hi
 ·rfl
theorem settle_some {n i : Nat} {H : Heap} {o : AObj} (h : H.get i = some o) : (settleH n H).get i = some o := by
 unfold settleH
 split
 ·rename_i ha
  by_cases hi : i < n
  ·rw [takeH_get hi];exact h
  ·exfalso
   unfold Heap.get at h
   have h2 : (H.objs.drop n)[i - n]? = some (some o) := by
    rw [List.getElem?_drop,show n + (i - n) = i by omega]
    cases hq : H.objs[i]? with
    | none => rw [hq] at h;exact nomatch h
    | some z => rw [hq] at h;simp only [Option.join] at h;rw [show z = some o from h]
   have := List.all_eq_true.1 ha _ (List.mem_of_getElem? h2)
   exact nomatch this
 ·exact h
theorem settle_size' {n : Nat} {H : Heap} (h : n ≤ H.size) : n ≤ (settleH n H).size := by
 unfold settleH
 split
 ·unfold Heap.size at *;simp only [List.length_take];omega
 ·exact h
theorem settle_lock {n : Nat} {H : Heap} : (settleH n H).lock = H.lock := by unfold settleH;split <;> rfl
theorem row_of_get {H : Heap} {b v m e sz : Nat} {g : Bool} {cs : List AV} (h : H.row b v = some (m,e,sz,g,cs)) : H.get b = some (.cells v m e sz g cs) := by
 unfold Heap.row at h
 split at h
 ·rename_i hq;split at h
  ·rename_i hv;subst hv;simp only [Option.some.injEq,Prod.mk.injEq] at h;obtain ⟨rfl,rfl,rfl,rfl,rfl⟩ := h;exact hq
  ·exact nomatch h
 ·exact nomatch h
theorem get_row {H : Heap} {b v m e sz : Nat} {g : Bool} {cs : List AV} (h : H.get b = some (.cells v m e sz g cs)) : H.row b v = some (m,e,sz,g,cs) := by
 unfold Heap.row;rw [h];simp
theorem get_size {H : Heap} {b : Nat} {o : AObj} (h : H.get b = some o) : b < H.size := by
 unfold Heap.get at h
 unfold Heap.size
 cases hq : H.objs[b]? with
 | none => rw [hq] at h;exact nomatch h
 | some z => exact (List.getElem?_eq_some_iff.1 hq).1
theorem DoneR.put {X : Heap} {ds : List ByteArray} {dv : AV} (h : DoneR X ds dv) {i : Nat} (o : AObj) (hi : i < X.size) (hne : rowOf dv ≠ some i) : DoneR (X.put i o) ds dv := by
 rcases h with h | ⟨b,v,h1,h2,rfl,h4⟩
 ·exact Or.inl h
 ·refine Or.inr ⟨b,v,h1,by rw [put_sizeI _ hi];exact h2,rfl,get_row ?_⟩
  rw [put_get_ne _ (by omega) (fun h => hne (by rw [← h];rfl))]
  exact row_of_get h4
theorem DoneR.settle {X : Heap} {ds : List ByteArray} {dv : AV} (h : DoneR X ds dv) (n : Nat) : DoneR (settleH n X) ds dv := by
 rcases h with h | ⟨b,v,h1,h2,rfl,h4⟩
 ·exact Or.inl h
 ·have := settle_some (n := n) (row_of_get h4)
  exact Or.inr ⟨b,v,by rw [settle_lock];exact h1,get_size this,rfl,get_row this⟩
theorem DoneR.trim {X : Heap} {ds : List ByteArray} {dv : AV} (h : DoneR X ds dv) (n : Nat) (lx : AV) : DoneR (X.trim n [.agg [lx,dv]] []) ds dv := by
 rcases h with h | ⟨b,v,h1,h2,rfl,h4⟩
 ·exact Or.inl h
 ·unfold Heap.trim
  split
  ·rename_i hq
   rw [Bool.and_eq_true,Bool.and_eq_true,Bool.and_eq_true,Nat.ble_eq] at hq
   have hb : b < n := by
    have h5 := hq.1.1.1
    have : b + 1 ≤ boundL [.agg [lx,.sl b v 0 ds.length none]] := by
     simp only [boundL,bound]
     exact Nat.le_trans (Nat.le_trans (Nat.le_max_left _ _) (Nat.le_max_right _ _)) (Nat.le_max_left _ _)
    omega
   have hg := (takeH_get (H := X) hb).trans (row_of_get h4)
   exact Or.inr ⟨b,v,h1,get_size hg,rfl,get_row hg⟩
  ·exact Or.inr ⟨b,v,h1,h2,rfl,h4⟩
theorem trim_lo {n i : Nat} {H : Heap} {vs : List AV} {ms : List Nat} (hi : i < n) : (H.trim n vs ms).get i = H.get i := by
 unfold Heap.trim
 split
 ·exact takeH_get hi
 ·rfl
theorem trim_size' {n : Nat} {H : Heap} {vs : List AV} {ms : List Nat} (h : n ≤ H.size) : n ≤ (H.trim n vs ms).size := by
 unfold Heap.trim
 split
 ·unfold Heap.size at *;simp only [List.length_take];omega
 ·exact h
theorem trim_lock {n : Nat} {H : Heap} {vs : List AV} {ms : List Nat} : (H.trim n vs ms).lock = H.lock := by unfold Heap.trim;split <;> rfl
end Go.Ev
namespace Go.Ev
open Go.Proofs
attribute [local irreducible] Wp WpS
theorem cast1 : ((1 : Nat) : Int) = 1 := rfl
theorem impure_113 (e : Exts) (h : FuncId) (d : Option Tmp) : (Cx e).pure h 163 d = false := by simp [Cx,pureF,impF,impC]
theorem impure_115 (e : Exts) (h : FuncId) (d : Option Tmp) : (Cx e).pure h 165 d = false := by simp [Cx,pureF,impF,impC]
theorem impure_117 (e : Exts) (h : FuncId) (d : Option Tmp) : (Cx e).pure h 167 d = false := by simp [Cx,pureF,impF,impC]
def rawT (H : Heap) (w : AV) (Q : Heap → Prop) : PostO := fun v H' => v = w ∧ Q (H'.trim H.size [v] [])
theorem callA_rawT {C : Cfg} {me f : FuncId} {d : Option Tmp} {args : List AV} {H : Heap} {w : AV} {Q : Heap → Prop} (hx : C.ext f = none) (hp : C.pure me f d = false) (h : Fn' C f args H (rawT H w Q)) (hh : C.exh f = none := by rfl) : ∃ Y,callA C (lim C) me f d args H = some (w,Y) ∧ Q Y := by
 unfold Fn' at h
 rw [bindO_iff] at h
 obtain ⟨o,h1,h2⟩ := h
 have hk : callKind C me f d args = 0 := by unfold callKind;rw [hp];rfl
 cases o with
 | ret v H' =>
  obtain ⟨rfl,hQ⟩ := h2
  refine ⟨_, ?_,hQ⟩
  rw [callA_none hx hh];unfold callB
  simp only [hk,h1]
 | _ => exact h2.elim
theorem DoneR.plus {X : Heap} {ds : List ByteArray} {dv : AV} (h : DoneR X ds dv) (E : List (Option AObj)) : DoneR (X.plus E) ds dv := by
 rcases h with h | ⟨b,v,h1,h2,rfl,h4⟩
 ·exact Or.inl h
 ·exact Or.inr ⟨b,v,h1,by rw [plus_size];omega,rfl,by rw [rowLo h2];exact h4⟩
theorem rawT_plus {X : Heap} {N : Nat} {ds : List ByteArray} {dv ly : AV} (_hN : X.size = N) (h : DoneR X ds dv) (E : List (Option AObj)) : AtO (rawT X (.agg [ly,dv]) fun Y => Turned X Y dv dv ds) (.agg [ly,dv]) (X.plus E) := by
 refine ⟨rfl, ?_⟩
 exact ⟨trim_lock,trim_size' (by rw [plus_size];omega),fun i hi _ => (trim_lo hi).trans (plus_get E hi),(h.plus E).trim _ _,Or.inl rfl⟩
theorem call113_all {e : Exts} (he : Quiet e) (lx : AV) (ls : List ByteArray) (hl : SlOf 1 (strs ls) lx) (h1 : 1 ≤ ls.length) (dv : AV) (hdf : dv.flat = true) (hdc : dv.cells = [dv]) :
  ∃ ly,SlOf 1 (strs (ls.drop 1)) ly ∧ ∀ (X : Heap) (N : Nat) (_ : X.size = N) (_ : X.lock ≤ N) (ds : List ByteArray) (_ : DoneR X ds dv) (w : ByteArray) (me : FuncId) (d : Option Tmp),∃ Y,callA (Cx e) (lim (Cx e)) me 163 d [.agg [lx,dv],.v (.string w)] X = some (.agg [ly,dv],Y) ∧ Turned X Y dv dv ds := by
 obtain ⟨ly,hly,hcA⟩ := call95_all he ls lx hl 1 h1 dv hdf hdc
 refine ⟨ly,hly,fun X N hN hlk ds hd w me d => ?_⟩
 rcases hd with ⟨rfl,rfl⟩ | ⟨b,v,hb0,hb,rfl,hr⟩
 ·have hd : DoneR X [] (.v (.slice none 0 0)) := Or.inl ⟨rfl,rfl⟩
  have hc := hcA (X.plus [some (.cells 0 0 204 1 false [lx,(.v (.slice none 0 0))]),some (.cells 0 0 204 1 false [.v (.slice none 0 0),.v (.slice none 0 0)])]) (N + 2) (by rw [plus_size,hN];rfl) (Nat.le_trans hlk (by omega))
  refine callA_rawT (ext_163 he) (impure_113 _ _ _) ?_
  obtain ⟨F,hF⟩ := hc 163 (some 6)
  simp only [intA,cast1] at hF
  rw [fn_step (fn_163 e) (show Tryz.f163.body = some _ from rfl)]
  generalize hKK : rawT X _ _ = KK
  rw [← plus_nil X]
  cases hn : F.all Option.isNone
  ·simp -implicitDefEqProofs only [Tryz.f163,go_sem,↓reduceIte,Int.reduceEq,Int.reduceLT,Int.reduceLE,List.reduceReplicate,intA,setT_nil,setT_cons,sizeP hN,putP0 hN,putP hN,settleP0 hN,settleP hN,rowP0 hN,rowP hN,storeP0 hN hlk,storeP hN hlk,hl.flat,hl.bound,hl.cells,bound_sl,List.length_nil,Nat.add_zero,hF,hly.cells,hly.flat,hly.bound,hn]
   rw [← hKK];exact rawT_plus hN hd _
  ·simp -implicitDefEqProofs only [Tryz.f163,go_sem,↓reduceIte,Int.reduceEq,Int.reduceLT,Int.reduceLE,List.reduceReplicate,intA,setT_nil,setT_cons,sizeP hN,putP0 hN,putP hN,settleP0 hN,settleP hN,rowP0 hN,rowP hN,storeP0 hN hlk,storeP hN hlk,hl.flat,hl.bound,hl.cells,bound_sl,List.length_nil,Nat.add_zero,hF,hly.cells,hly.flat,hly.bound,hn]
   rw [← hKK];exact rawT_plus hN hd _
 ·have hd : DoneR X ds (.sl b v 0 ds.length none) := Or.inr ⟨b,v,hb0,hb,rfl,hr⟩
  have hc := hcA (X.plus [some (.cells 0 (b + 1) 204 1 false [lx,(.sl b v 0 ds.length none)]),some (.cells 0 0 204 1 false [.v (.slice none 0 0),.v (.slice none 0 0)])]) (N + 2) (by rw [plus_size,hN];rfl) (Nat.le_trans hlk (by omega))
  refine callA_rawT (ext_163 he) (impure_113 _ _ _) ?_
  obtain ⟨F,hF⟩ := hc 163 (some 6)
  simp only [intA,cast1] at hF
  rw [fn_step (fn_163 e) (show Tryz.f163.body = some _ from rfl)]
  generalize hKK : rawT X _ _ = KK
  rw [← plus_nil X]
  cases hn : F.all Option.isNone
  ·simp -implicitDefEqProofs only [Tryz.f163,go_sem,↓reduceIte,Int.reduceEq,Int.reduceLT,Int.reduceLE,List.reduceReplicate,intA,setT_nil,setT_cons,sizeP hN,putP0 hN,putP hN,settleP0 hN,settleP hN,rowP0 hN,rowP hN,storeP0 hN hlk,storeP hN hlk,hl.flat,hl.bound,hl.cells,bound_sl,List.length_nil,Nat.add_zero,hF,hly.cells,hly.flat,hly.bound,hn]
   rw [← hKK];exact rawT_plus hN hd _
  ·simp -implicitDefEqProofs only [Tryz.f163,go_sem,↓reduceIte,Int.reduceEq,Int.reduceLT,Int.reduceLE,List.reduceReplicate,intA,setT_nil,setT_cons,sizeP hN,putP0 hN,putP hN,settleP0 hN,settleP hN,rowP0 hN,rowP hN,storeP0 hN hlk,storeP hN hlk,hl.flat,hl.bound,hl.cells,bound_sl,List.length_nil,Nat.add_zero,hF,hly.cells,hly.flat,hly.bound,hn]
   rw [← hKK];exact rawT_plus hN hd _
theorem DoneR.below {X : Heap} {ds : List ByteArray} {dv : AV} (h : DoneR X ds dv) {i : Nat} (hi : X.size ≤ i) : rowOf dv ≠ some i := by
 rcases h with ⟨_,rfl⟩ | ⟨b,v,h1,h2,rfl,h4⟩
 ·exact fun h => nomatch h
 ·intro h;simp only [rowOf,Option.some.injEq] at h;omega
theorem Turned.off {X Y : Heap} {dv dv' : AV} {_ds ds' : List ByteArray} (ht : Turned X Y dv dv' ds') {i : Nat} (hi : i < X.size) (hne : rowOf dv ≠ some i) : rowOf dv' ≠ some i := by
 rcases ht.row with h | ⟨j,h,hj⟩
 ·rw [h];exact hne
 ·rw [h];intro h;simp only [Option.some.injEq] at h;omega
theorem turned_end {X Y : Heap} {N : Nat} (hN : X.size = N) {B : List (Option AObj)} (hB : 2 ≤ B.length) {dv dv' ly : AV} {ds ds' : List ByteArray} (hd : DoneR X ds dv) (ht : Turned (X.plus B) Y dv dv' ds') (o : AObj) :
  Turned X ((settleH (N + 2) (Y.put (N + 1) o)).trim N [.agg [ly,dv']] []) dv dv' ds' := by
 have hs : N + 2 ≤ Y.size := by have := ht.size;rw [plus_size,hN] at this;omega
 have hp : (Y.put (N + 1) o).size = Y.size := put_sizeI _ (by omega)
 have hne : rowOf dv' ≠ some (N + 1) := ht.off (_ds := ds) (by rw [plus_size,hN];omega) (hd.below (by omega))
 refine ⟨?_, ?_,fun i hi hi2 => ?_,((ht.done.put o (by omega) hne).settle _).trim _ _, ?_⟩
 ·rw [trim_lock,settle_lock];exact ht.lock
 ·rw [hN]
  refine trim_size' ?_
  have := settle_size' (n := N + 2) (H := Y.put (N + 1) o) (by omega)
  omega
 ·rw [trim_lo (by omega),settle_lo (by omega),put_get_ne _ (by omega) (by omega),ht.same i (by rw [plus_size];omega) hi2,plus_get _ hi]
 ·rcases ht.row with h | ⟨j,h,hj⟩
  ·exact Or.inl h
  ·exact Or.inr ⟨j,h,by rw [plus_size] at hj;omega⟩
theorem store_get {Y : Heap} {b m e sz : Nat} {g : Bool} {cs xs : List AV} (hg : Y.get b = some (.cells 0 m e sz g cs)) (hlk : Y.lock ≤ b) (hx : xs.length = cs.length) (hf : xs.all AV.flat = true) :
  storeCells Y b 0 0 xs = some (Y.put b (.cells 0 (Nat.max m (boundL xs)) e sz g xs)) := by
 have hs : splice 0 xs cs = xs := by unfold splice;rw [List.take_zero,List.nil_append,Nat.zero_add,hx,List.drop_length,List.append_nil]
 unfold storeCells
 rw [get_row hg]
 simp only [hlk,hf,hx,Nat.zero_add,Nat.le_refl,and_self,if_true,hs]
theorem DoneR.flat {X : Heap} {ds : List ByteArray} {dv : AV} (h : DoneR X ds dv) : dv.flat = true ∧ dv.cells = [dv] := by
 rcases h with ⟨_,rfl⟩ | ⟨b,v,h1,h2,rfl,h4⟩ <;> exact ⟨rfl,rfl⟩
theorem call115_any {e : Exts} (he : Quiet e) (X : Heap) (N : Nat) (hN : X.size = N) (hlk : X.lock ≤ N) (lx : AV) (ls : List ByteArray) (hl : SlOf 1 (strs ls) lx) (ds : List ByteArray) (hn : ds.length + 1 < 2 ^ 33) (dv : AV) (hd : DoneR X ds dv) (w : ByteArray) (me : FuncId) (d : Option Tmp) :
  ∃ dv' Y,callA (Cx e) (lim (Cx e)) me 165 d [.agg [lx,dv],.v (.string w)] X = some (.agg [lx,dv'],Y) ∧ Turned X Y dv dv' (ds ++ [w]) := by
 rcases hd with ⟨rfl,rfl⟩ | ⟨b,v,hb0,hb,rfl,hr⟩
 ·have hd : DoneR X [] (.v (.slice none 0 0)) := Or.inl ⟨rfl,rfl⟩
  obtain ⟨dv',Y,hc,ht⟩ := call94_any he (X.plus [some (.cells 0 0 204 1 false [lx,(.v (.slice none 0 0))]),some (.cells 0 0 204 1 false [.v (.slice none 0 0),.v (.slice none 0 0)])]) (by rw [plus_size];show X.lock ≤ _;omega) lx ls hl _ (.v (.slice none 0 0)) (hd.plus _) [w] (.vs 1 [.v (.string w)] (some 1)) (Or.inr ⟨_,rfl⟩) hn 165 (some 8)
  refine ⟨dv',callA_rawT (ext_165 he) (impure_115 _ _ _) ?_⟩
  have hsz : N + 2 ≤ Y.size := by have := ht.size;rw [plus_size,hN] at this;exact this
  have hg : Y.get (N + 1) = some (.cells 0 0 204 1 false [.v (.slice none 0 0),.v (.slice none 0 0)]) := by
   rw [ht.same (N + 1) (by rw [plus_size,hN];show N + 1 < N + 2;omega) (hd.below (by omega)),plus_get_hi _ (by omega),show N + 1 - X.size = 1 by omega];rfl
  have hfl := ht.done.flat
  have hst := store_get (xs := [lx,dv']) hg (by rw [ht.lock];show X.lock ≤ _;omega) rfl (by simp [hl.flat,hfl.1])
  have hrow := get_row ((settle_lo (n := N + 2) (by omega)).trans (put_get_eq (H := Y) (b := N + 1) (.cells 0 (Nat.max 0 (boundL [lx,dv'])) 204 1 false [lx,dv']) (by omega)))
  have hend0 := turned_end (ly := lx) hN (by exact Nat.le_refl 2) hd ht (.cells 0 (Nat.max 0 (boundL [lx,dv'])) 204 1 false [lx,dv'])
  generalize Y.put (N + 1) (.cells 0 (Nat.max 0 (boundL [lx,dv'])) 204 1 false [lx,dv']) = Z at *
  have hend : AtO (rawT X (.agg [lx,dv']) fun Y => Turned X Y (.v (.slice none 0 0)) dv' _) (.agg [lx,dv']) (settleH (N + 2) Z) := ⟨rfl,by show Turned X (Heap.trim _ X.size _ _) _ _ _;rw [hN];exact hend0⟩
  rw [fn_step (fn_165 e) (show Tryz.f165.body = some _ from rfl)]
  generalize hKK : rawT X _ _ = KK at *
  rw [← plus_nil X]
  simp -implicitDefEqProofs only [Tryz.f165,go_sem,↓reduceIte,Int.reduceEq,Int.reduceLT,Int.reduceLE,List.reduceReplicate,intA,setT_nil,setT_cons,sizeP hN,putP0 hN,putP hN,settleP0 hN,settleP hN,rowP0 hN,rowP hN,storeP0 hN hlk,storeP hN hlk,hl.flat,hl.bound,hl.cells,bound_sl,List.length_nil,Nat.add_zero,hc,hfl.1,hfl.2,hst,hrow]
  exact hend
 ·have hd : DoneR X ds (.sl b v 0 ds.length none) := Or.inr ⟨b,v,hb0,hb,rfl,hr⟩
  obtain ⟨dv',Y,hc,ht⟩ := call94_any he (X.plus [some (.cells 0 (b + 1) 204 1 false [lx,(.sl b v 0 ds.length none)]),some (.cells 0 0 204 1 false [.v (.slice none 0 0),.v (.slice none 0 0)])]) (by rw [plus_size];show X.lock ≤ _;omega) lx ls hl _ (.sl b v 0 ds.length none) (hd.plus _) [w] (.vs 1 [.v (.string w)] (some 1)) (Or.inr ⟨_,rfl⟩) hn 165 (some 8)
  refine ⟨dv',callA_rawT (ext_165 he) (impure_115 _ _ _) ?_⟩
  have hsz : N + 2 ≤ Y.size := by have := ht.size;rw [plus_size,hN] at this;exact this
  have hg : Y.get (N + 1) = some (.cells 0 0 204 1 false [.v (.slice none 0 0),.v (.slice none 0 0)]) := by
   rw [ht.same (N + 1) (by rw [plus_size,hN];show N + 1 < N + 2;omega) (hd.below (by omega)),plus_get_hi _ (by omega),show N + 1 - X.size = 1 by omega];rfl
  have hfl := ht.done.flat
  have hst := store_get (xs := [lx,dv']) hg (by rw [ht.lock];show X.lock ≤ _;omega) rfl (by simp [hl.flat,hfl.1])
  have hrow := get_row ((settle_lo (n := N + 2) (by omega)).trans (put_get_eq (H := Y) (b := N + 1) (.cells 0 (Nat.max 0 (boundL [lx,dv'])) 204 1 false [lx,dv']) (by omega)))
  have hend0 := turned_end (ly := lx) hN (by exact Nat.le_refl 2) hd ht (.cells 0 (Nat.max 0 (boundL [lx,dv'])) 204 1 false [lx,dv'])
  generalize Y.put (N + 1) (.cells 0 (Nat.max 0 (boundL [lx,dv'])) 204 1 false [lx,dv']) = Z at *
  have hend : AtO (rawT X (.agg [lx,dv']) fun Y => Turned X Y (.sl b v 0 ds.length none) dv' _) (.agg [lx,dv']) (settleH (N + 2) Z) := ⟨rfl,by show Turned X (Heap.trim _ X.size _ _) _ _ _;rw [hN];exact hend0⟩
  rw [fn_step (fn_165 e) (show Tryz.f165.body = some _ from rfl)]
  generalize hKK : rawT X _ _ = KK at *
  rw [← plus_nil X]
  simp -implicitDefEqProofs only [Tryz.f165,go_sem,↓reduceIte,Int.reduceEq,Int.reduceLT,Int.reduceLE,List.reduceReplicate,intA,setT_nil,setT_cons,sizeP hN,putP0 hN,putP hN,settleP0 hN,settleP hN,rowP0 hN,rowP hN,storeP0 hN hlk,storeP hN hlk,hl.flat,hl.bound,hl.cells,bound_sl,List.length_nil,Nat.add_zero,hc,hfl.1,hfl.2,hst,hrow]
  exact hend
theorem call117_all {e : Exts} (he : Quiet e) (lx : AV) (ls : List ByteArray) (hl : SlOf 1 (strs ls) lx) (h1 : 1 ≤ ls.length) (dv : AV) (hdf : dv.flat = true) (hdc : dv.cells = [dv]) :
  ∃ ly,SlOf 1 (strs (ls.drop 1)) ly ∧ ∀ (X : Heap) (N : Nat) (_ : X.size = N) (_ : X.lock ≤ N) (ds : List ByteArray) (_ : ds.length + 1 < 2 ^ 33) (_ : DoneR X ds dv) (w : ByteArray) (me : FuncId) (d : Option Tmp),∃ dv' Y,callA (Cx e) (lim (Cx e)) me 167 d [.agg [lx,dv],.v (.string w)] X = some (.agg [ly,dv'],Y) ∧ Turned X Y dv dv' (ds ++ [w]) := by
 obtain ⟨ly,hly,hcA⟩ := call95_all he ls lx hl 1 h1 dv hdf hdc
 refine ⟨ly,hly,fun X N hN hlk ds hn hd w me d => ?_⟩
 rcases hd with ⟨rfl,rfl⟩ | ⟨b,v,hb0,hb,rfl,hr⟩
 ·have hd : DoneR X [] (.v (.slice none 0 0)) := Or.inl ⟨rfl,rfl⟩
  have hc0 := hcA (X.plus [some (.cells 0 0 204 1 false [lx,(.v (.slice none 0 0))]),some (.cells 0 0 204 1 false [.v (.slice none 0 0),.v (.slice none 0 0)])]) (N + 2) (by rw [plus_size,hN];rfl) (Nat.le_trans hlk (by omega))
  obtain ⟨F,hF⟩ := hc0 167 (some 6)
  simp only [intA,cast1] at hF
  rw [plus_plus] at hF
  have hF : callA (Cx e) (lim (Cx e)) 167 142 (some 6) [.agg [lx,(.v (.slice none 0 0))],.v (.int .i64 1)] (X.plus [some (.cells 0 0 204 1 false [lx,(.v (.slice none 0 0))]),some (.cells 0 0 204 1 false [.v (.slice none 0 0),.v (.slice none 0 0)])]) = some (.agg [ly,(.v (.slice none 0 0))],X.plus (some (.cells 0 0 204 1 false [lx,(.v (.slice none 0 0))]) :: some (.cells 0 0 204 1 false [.v (.slice none 0 0),.v (.slice none 0 0)]) :: F)) := hF
  obtain ⟨dv',Y,hc,ht⟩ := call94_any he (X.plus (some (.cells 0 0 204 1 false [lx,(.v (.slice none 0 0))]) :: some (.cells 0 0 204 1 false [.v (.slice none 0 0),.v (.slice none 0 0)]) :: F)) (by rw [plus_size];show X.lock ≤ _;omega) ly (ls.drop 1) hly _ (.v (.slice none 0 0)) (hd.plus _) [w] (.vs 1 [.v (.string w)] (some 1)) (Or.inr ⟨_,rfl⟩) hn 167 (some 9)
  have hB2 : 2 ≤ (some (.cells 0 0 204 1 false [lx,(.v (.slice none 0 0))]) :: some (.cells 0 0 204 1 false [.v (.slice none 0 0),.v (.slice none 0 0)]) :: F).length := by simp
  refine ⟨dv',callA_rawT (ext_167 he) (impure_117 _ _ _) ?_⟩
  have hsz : N + 2 ≤ Y.size := by have := ht.size;rw [plus_size,hN] at this;omega
  have hg : Y.get (N + 1) = some (.cells 0 0 204 1 false [.v (.slice none 0 0),.v (.slice none 0 0)]) := by
   rw [ht.same (N + 1) (by rw [plus_size,hN];omega) (hd.below (by omega)),plus_get_hi _ (by omega),show N + 1 - X.size = 1 by omega];rfl
  have hfl := ht.done.flat
  have hst := store_get (xs := [ly,dv']) hg (by rw [ht.lock];show X.lock ≤ _;omega) rfl (by simp [hly.flat,hfl.1])
  have hrow := get_row ((settle_lo (n := N + 2) (by omega)).trans (put_get_eq (H := Y) (b := N + 1) (.cells 0 (Nat.max 0 (boundL [ly,dv'])) 204 1 false [ly,dv']) (by omega)))
  have hend0 := turned_end (ly := ly) hN hB2 hd ht (.cells 0 (Nat.max 0 (boundL [ly,dv'])) 204 1 false [ly,dv'])
  generalize Y.put (N + 1) (.cells 0 (Nat.max 0 (boundL [ly,dv'])) 204 1 false [ly,dv']) = Z at *
  have hend : AtO (rawT X (.agg [ly,dv']) fun Y => Turned X Y (.v (.slice none 0 0)) dv' _) (.agg [ly,dv']) (settleH (N + 2) Z) := ⟨rfl,by show Turned X (Heap.trim _ X.size _ _) _ _ _;rw [hN];exact hend0⟩
  rw [fn_step (fn_167 e) (show Tryz.f167.body = some _ from rfl)]
  generalize hKK : rawT X _ _ = KK at *
  rw [← plus_nil X]
  simp -implicitDefEqProofs only [Tryz.f167,go_sem,↓reduceIte,Int.reduceEq,Int.reduceLT,Int.reduceLE,List.reduceReplicate,intA,setT_nil,setT_cons,sizeP hN,putP0 hN,putP hN,settleP0 hN,settleP hN,rowP0 hN,rowP hN,storeP0 hN hlk,storeP hN hlk,hl.flat,hl.bound,hl.cells,bound_sl,List.length_nil,Nat.add_zero,hF,hc,hly.flat,hly.cells,hfl.1,hfl.2,hst,hrow]
  exact hend
 ·have hd : DoneR X ds (.sl b v 0 ds.length none) := Or.inr ⟨b,v,hb0,hb,rfl,hr⟩
  have hc0 := hcA (X.plus [some (.cells 0 (b + 1) 204 1 false [lx,(.sl b v 0 ds.length none)]),some (.cells 0 0 204 1 false [.v (.slice none 0 0),.v (.slice none 0 0)])]) (N + 2) (by rw [plus_size,hN];rfl) (Nat.le_trans hlk (by omega))
  obtain ⟨F,hF⟩ := hc0 167 (some 6)
  simp only [intA,cast1] at hF
  rw [plus_plus] at hF
  have hF : callA (Cx e) (lim (Cx e)) 167 142 (some 6) [.agg [lx,(.sl b v 0 ds.length none)],.v (.int .i64 1)] (X.plus [some (.cells 0 (b + 1) 204 1 false [lx,(.sl b v 0 ds.length none)]),some (.cells 0 0 204 1 false [.v (.slice none 0 0),.v (.slice none 0 0)])]) = some (.agg [ly,(.sl b v 0 ds.length none)],X.plus (some (.cells 0 (b + 1) 204 1 false [lx,(.sl b v 0 ds.length none)]) :: some (.cells 0 0 204 1 false [.v (.slice none 0 0),.v (.slice none 0 0)]) :: F)) := hF
  obtain ⟨dv',Y,hc,ht⟩ := call94_any he (X.plus (some (.cells 0 (b + 1) 204 1 false [lx,(.sl b v 0 ds.length none)]) :: some (.cells 0 0 204 1 false [.v (.slice none 0 0),.v (.slice none 0 0)]) :: F)) (by rw [plus_size];show X.lock ≤ _;omega) ly (ls.drop 1) hly _ (.sl b v 0 ds.length none) (hd.plus _) [w] (.vs 1 [.v (.string w)] (some 1)) (Or.inr ⟨_,rfl⟩) hn 167 (some 9)
  have hB2 : 2 ≤ (some (.cells 0 (b + 1) 204 1 false [lx,(.sl b v 0 ds.length none)]) :: some (.cells 0 0 204 1 false [.v (.slice none 0 0),.v (.slice none 0 0)]) :: F).length := by simp
  refine ⟨dv',callA_rawT (ext_167 he) (impure_117 _ _ _) ?_⟩
  have hsz : N + 2 ≤ Y.size := by have := ht.size;rw [plus_size,hN] at this;omega
  have hg : Y.get (N + 1) = some (.cells 0 0 204 1 false [.v (.slice none 0 0),.v (.slice none 0 0)]) := by
   rw [ht.same (N + 1) (by rw [plus_size,hN];omega) (hd.below (by omega)),plus_get_hi _ (by omega),show N + 1 - X.size = 1 by omega];rfl
  have hfl := ht.done.flat
  have hst := store_get (xs := [ly,dv']) hg (by rw [ht.lock];show X.lock ≤ _;omega) rfl (by simp [hly.flat,hfl.1])
  have hrow := get_row ((settle_lo (n := N + 2) (by omega)).trans (put_get_eq (H := Y) (b := N + 1) (.cells 0 (Nat.max 0 (boundL [ly,dv'])) 204 1 false [ly,dv']) (by omega)))
  have hend0 := turned_end (ly := ly) hN hB2 hd ht (.cells 0 (Nat.max 0 (boundL [ly,dv'])) 204 1 false [ly,dv'])
  generalize Y.put (N + 1) (.cells 0 (Nat.max 0 (boundL [ly,dv'])) 204 1 false [ly,dv']) = Z at *
  have hend : AtO (rawT X (.agg [ly,dv']) fun Y => Turned X Y (.sl b v 0 ds.length none) dv' _) (.agg [ly,dv']) (settleH (N + 2) Z) := ⟨rfl,by show Turned X (Heap.trim _ X.size _ _) _ _ _;rw [hN];exact hend0⟩
  rw [fn_step (fn_167 e) (show Tryz.f167.body = some _ from rfl)]
  generalize hKK : rawT X _ _ = KK at *
  rw [← plus_nil X]
  simp -implicitDefEqProofs only [Tryz.f167,go_sem,↓reduceIte,Int.reduceEq,Int.reduceLT,Int.reduceLE,List.reduceReplicate,intA,setT_nil,setT_cons,sizeP hN,putP0 hN,putP hN,settleP0 hN,settleP hN,rowP0 hN,rowP hN,storeP0 hN hlk,storeP hN hlk,hl.flat,hl.bound,hl.cells,bound_sl,List.length_nil,Nat.add_zero,hF,hc,hly.flat,hly.cells,hfl.1,hfl.2,hst,hrow]
  exact hend
end Go.Ev
namespace Go.Ev
open Go.Proofs
attribute [local irreducible] Wp WpS
theorem storeLo {X : Heap} {b m e sz : Nat} {g : Bool} {cs xs : List AV} (hb : b < X.size) (hlk : X.lock ≤ b) (hr : X.row b 0 = some (m,e,sz,g,cs)) (hx : xs.length = cs.length) (hf : xs.all AV.flat = true) (E : List (Option AObj)) :
  storeCells (X.plus E) b 0 0 xs = some ((X.put b (.cells 0 (Nat.max m (boundL xs)) e sz g xs)).plus E) := by
 have hs : splice 0 xs cs = xs := by unfold splice;rw [List.take_zero,List.nil_append,Nat.zero_add,hx,List.drop_length,List.append_nil]
 unfold storeCells
 rw [rowLo hb,hr]
 have hl : (X.plus E).lock ≤ b := hlk
 simp only [hl,hf,hx,Nat.zero_add,Nat.le_refl,and_self,if_true,hs,putLo hb,true_and]
structure Rdr (X : Heap) (N : Nat) (lv dv : AV) (left ds : List ByteArray) : Prop where
 size : X.size = N
 two : 2 ≤ N
 lock : X.lock = 0
 tab : X.row 0 0 = some (0,201,1,false,[.v .nilFunc,.v .nilFunc,.fn (.func 162) [] [],.fn (.func 163) [] [],.fn (.func 164) [] [],.fn (.func 165) [] [],.fn (.func 166) [] [],.fn (.func 167) [] []])
 cell : ∃ m,X.row 1 0 = some (m,204,1,false,[lv,dv])
 left : SlOf 1 (strs left) lv
 done : DoneR X ds dv
 off : rowOf dv ≠ some 0 ∧ rowOf dv ≠ some 1
def rdOne (ls : List ByteArray) (st : Nat × List ByteArray) (r : Rd) : Nat × List ByteArray :=
 (if r.kind = 2 then r.wd.toNat else r.wd.toNat + 1,st.2 ++ (ls.drop st.1).take (r.wd.toNat - st.1) ++ if r.kind = 1 then [] else [r.word])
structure RdOk (ls : List ByteArray) (p : Nat) (r : Rd) : Prop where
 lo : (p : Int) ≤ r.wd
 kind : r.kind = 1 ∨ r.kind = 2 ∨ r.kind = 3
 hi : r.wd + (if r.kind = 2 then 0 else 1) ≤ ls.length
def RdsOk (ls : List ByteArray) : Nat → List Rd → Prop
 | _,[] => True
 | p,r :: l => RdOk ls p r ∧ RdsOk ls (if r.kind = 2 then r.wd.toNat else r.wd.toNat + 1) l
theorem chunk_one : ∀ (l : List AV),chunk 1 l.length l = l
 | [] => rfl
 | x :: r => by
  show (if 1 = 1 then (x :: r).headD undefA else _) :: chunk 1 r.length ((x :: r).drop 1) = x :: r
  rw [if_pos rfl,List.drop_one,List.tail_cons,chunk_one r];rfl
theorem freeze_done {H : Heap} {ds : List ByteArray} {dv : AV} (h : DoneR H ds dv) (hk : H.lock = 0) : ∃ v,freezeV { H with lock := 0 } 1000000 dv = some v ∧ SlOf 1 (strs ds) v := by
 rcases h with ⟨rfl,rfl⟩ | ⟨b,v,h1,h2,rfl,h4⟩
 ·exact ⟨_,rfl,Or.inl ⟨rfl,rfl⟩⟩
 ·refine ⟨.vs 1 (strs ds) none, ?_,Or.inr ⟨none,rfl⟩⟩
  have hH : ({ H with lock := 0 } : Heap) = H := by cases H;simp only at hk;subst hk;rfl
  rw [hH]
  unfold freezeV
  simp only [h4,hk]
  have hl : (strs ds).length = ds.length := strs_len ds
  rw [if_neg (by omega),if_pos ⟨by omega,by omega⟩,if_pos trivial,List.drop_zero,List.take_of_length_le (by omega)]
  have := chunk_one (strs ds)
  rw [hl] at this
  rw [this]
def ansP (Q : AV → Prop) : PostO := fun x H => ∃ v,Q v ∧ freezeV { H with lock := 0 } 1000000 x = some v
theorem ans_of_P {C : Cfg} {f : FuncId} {args : List AV} {Q : AV → Prop} (h : Fn' C f args { objs := [],lock := 0 } (ansP Q)) : ∃ v,Q v ∧ Ans C f args v := by
 unfold Fn' at h
 rw [bindO_iff] at h
 obtain ⟨o,h1,h2⟩ := h
 cases o with
 | ret x H =>
  obtain ⟨v,hq,hf⟩ := h2
  exact ⟨v,hq,Ans.iff.2 ⟨x,H,h1,hf⟩⟩
 | _ => exact h2.elim
theorem trim_whole {H : Heap} {n : Nat} (h : H.size ≤ n) (vs : List AV) (ms : List Nat) : H.trim n vs ms = H := by
 unfold Heap.trim
 split
 ·unfold Heap.size at h
  rw [List.take_of_length_le h]
 ·rfl
def readLineL (ls : List ByteArray) (l : List Rd) : List ByteArray := (l.foldl (rdOne ls) (0,[])).2 ++ ls.drop (l.foldl (rdOne ls) (0,[])).1
end Go.Ev
namespace Go.Ev
open Go.Proofs
attribute [local irreducible] Wp WpS
def Clear (base top : Nat) (dv : AV) : Prop := ∀ i,rowOf dv = some i → i < base ∨ top ≤ i
theorem DoneR.agree {G G' : Heap} {base top : Nat} {ds : List ByteArray} {dv : AV} (h : DoneR G ds dv) (hc : Clear base top dv) (hl : G'.lock = G.lock) (hs : SameOut base top G G') : DoneR G' ds dv := by
 rcases h with h | ⟨b,v,h1,h2,rfl,h4⟩
 ·exact Or.inl h
 ·have hg : G'.get b = _ := (hs b (hc b rfl)).trans (row_of_get h4)
  exact Or.inr ⟨b,v,by rw [hl];exact h1,get_size hg,rfl,get_row hg⟩
structure Behind (base top : Nat) (G G' : Heap) (dv dv' : AV) (ds' : List ByteArray) : Prop where
 lock : G'.lock = G.lock
 size : G.size ≤ G'.size
 same : ∀ i,i < base → rowOf dv ≠ some i → G'.get i = G.get i
 done : DoneR G' ds' dv'
 clear : Clear base top dv'
 row : rowOf dv' = rowOf dv ∨ ∃ i,rowOf dv' = some i ∧ G.size ≤ i
theorem Behind.off {base top : Nat} {G G' : Heap} {dv dv' : AV} {ds' : List ByteArray} (h : Behind base top G G' dv dv' ds') {i : Nat} (hi : i < G.size) (hne : rowOf dv ≠ some i) : rowOf dv' ≠ some i := by
 rcases h.row with h | ⟨j,h,hj⟩
 ·rw [h];exact hne
 ·rw [h];intro h;simp only [Option.some.injEq] at h;omega
theorem effV_of {e : Exts} {me f : FuncId} {d : Option Tmp} {l : List AV} {base top : Nat} {G : Heap} {cont : AV → Heap → Prop} {ds ds' : List ByteArray} {dv : AV} (hx : (Cx e).ext f = none) (hp : (Cx e).pure me f d = false)
  (hbt : base ≤ top) (hG : top ≤ G.size) (hd : DoneR G ds dv) (hcl : Clear base top dv) (res : AV → AV)
  (hcall : ∀ X : Heap,X.lock = G.lock → X.size = G.size → DoneR X ds dv → ∃ dv' Y,callA (Cx e) (lim (Cx e)) me f d l X = some (res dv',Y) ∧ Turned X Y dv dv' ds')
  (hcont : ∀ dv' G',Behind base top G G' dv dv' ds' → cont (res dv') G') : effV (Cx e) me base top d (.fn (.func f) [] []) l G cont := by
 refine ⟨?_,fun Gh h1 h2 h3 => ?_⟩
 ·unfold kind0
  have hk : callKind (Cx e) me f d ([] ++ l ++ []) = 0 := by unfold callKind;rw [hp];rfl
  simp only [hx,hk];rfl
 ·obtain ⟨dv',Y,hc,ht⟩ := hcall Gh h1 h2 (hd.agree hcl h1 h3)
  refine ⟨res dv',Y, ?_,by have := ht.size;omega,fun G' g1 g2 g3 g4 => ?_⟩
  ·unfold callX
   simp only [List.nil_append,List.append_nil]
   exact hc
  ·have hcl' : Clear base top dv' := by
    rcases ht.row with h | ⟨j,h,hj⟩
    ·unfold Clear;rw [h];exact hcl
    ·intro i hi;rw [h] at hi;simp only [Option.some.injEq] at hi;omega
   refine hcont dv' G' ⟨g1,by rw [g2];have := ht.size;omega,fun i hi hne => ?_,ht.done.agree hcl' (by rw [g1,ht.lock,h1]) g3,hcl',by rw [← h2];exact ht.row⟩
   rw [g3 i (Or.inl hi),ht.same i (by omega) hne,h3 i (Or.inl hi)]
end Go.Ev
namespace Go.Ev
open Go.Proofs
attribute [local irreducible] Wp WpS
theorem ans76 {e : Exts} (he : Quiet e) (ls : List ByteArray) (hls : ls.length < 2 ^ 32) (x : AV) (hx : SlOf 1 (strs ls) x) (l : List Rd) (y : AV) (hy : RdsA l y) (hn : l.length < 2 ^ 32) (hok : RdsOk ls 0 l) : ∃ w,SlOf 1 (strs (readLineL ls l)) w ∧ Ans (Cx e) 122 [x,y] w := by
 refine ans_of_P ?_
 have hy : SlOf 5 (l.map rdV) y := hy
 rw [fn_step (fn_122 e) (show Tryz.f122.body = some _ from rfl)]
 simp -implicitDefEqProofs only [Tryz.f122,go_sem,↓reduceIte,Int.reduceEq,Int.reduceLT,Int.reduceLE,List.reduceReplicate,intA,setT_nil,setT_cons,hx.cells,hx.flat,hx.bound,hy.len,List.length_map,call93 he]
 refine Lp_rule (P := fun μ a X => ∃ j p ds lv dv N,j + μ = l.length ∧ ds.length ≤ p + j ∧ (l.take j).foldl (rdOne ls) (0,[]) = (p,ds) ∧ p ≤ ls.length ∧ RdsOk ls p (l.drop j) ∧ a = ⟨52,[(0,x),(1,y),(4,.v (.slice none 0 0)),(5,.ptr 0 0 0),(6,.ptr 1 0 0),(13,y),(14,intA l.length),(15,intA j)],[]⟩ ∧ Rdr X N lv dv (ls.drop p) ds) ?_ l.length _ _ ?_
 ·rintro μ _ X ⟨j,p,ds,lv,dv,N,hj,hdl,hfold,hpl,hrs,rfl,hX⟩
  have hN := hX.size
  have hlk : X.lock ≤ N := by rw [hX.lock];exact Nat.zero_le _
  obtain ⟨m,hcell⟩ := hX.cell
  have hcl : ∀ E,(X.plus E).row 1 0 = some (m,204,1,false,[lv,dv]) := fun E => by rw [rowLo (by have := hX.two;omega)];exact hcell
  have htb := fun E => (rowLo (X := X) (b := 0) (by have := hX.two;omega) E 0).trans hX.tab
  have hlen : ∀ H,lenA Tryz.prog H [87] [lv] = some (.v (.int .i64 ((ls.length - p : Nat) : Int))) := fun H => by
   rw [len_87,hX.left.len,strs_len,List.length_drop]
  cases μ with
  | zero =>
   have hj0 : j = l.length := by omega
   subst hj0
   have hlt : ¬ ((l.length : Int) < (l.length : Int)) := by omega
   have hT := fun vs => trim_whole (H := X) (n := N) (by omega) vs []
   have hpart : ∀ k,rowPart Tryz.prog 204 k (X.row 1 0) = rowPart Tryz.prog 204 k (some (m,204,1,false,[lv,dv])) := fun k => by rw [hcell]
   have hpart2 : ∀ k,rowPart Tryz.prog 87 k (X.row 1 0) = rowPart Tryz.prog 87 k (some (m,204,1,false,[lv,dv])) := fun k => by rw [hcell]
   have hdl2 : (ls.drop p).length ≤ ls.length - p := by rw [List.length_drop];exact Nat.le_refl _
   obtain ⟨dv',Y,hc,ht⟩ := call94_any he X (by rw [hX.lock];exact Nat.zero_le _) lv _ hX.left ds dv hX.done (ls.drop p) lv hX.left (by omega) 122 (some 50)
   rw [← plus_nil X]
   simp -implicitDefEqProofs only [go_sem,↓reduceIte,Int.reduceEq,Int.reduceLT,Int.reduceLE,List.reduceReplicate,intA,setT_nil,setT_cons,hlt,sizeP hN,putP0 hN,putP hN,settleP0 hN,settleP hN,rowP0 hN,rowP hN,storeP0 hN hlk,storeP hN hlk,hcl,hX.left.cells,hX.left.flat]
   simp -implicitDefEqProofs only [plus_nil,hT,hpart,hpart2,go_sem,↓reduceIte,Int.reduceEq,Int.reduceLT,Int.reduceLE,List.reduceReplicate,intA,setT_nil,setT_cons,hc,hX.left.cells,hX.left.flat]
   rw [show fieldA Tryz.prog 204 (.agg [lv,dv']) 1 = some dv' by kernel_rfl]
   obtain ⟨v,h1,h2⟩ := freeze_done (ht.done.settle X.size) (by rw [settle_lock,ht.lock,hX.lock])
   refine ⟨v, ?_,h1⟩
   have hr : readLineL ls l = ds ++ ls.drop p := by
    rw [List.take_length] at hfold
    unfold readLineL;rw [hfold]
   rw [hr];exact h2
  | succ μ =>
   obtain ⟨r,hr⟩ := at_lt l j (by omega)
   have hlt : (j : Int) < (l.length : Int) := by omega
   have hw := wrap_succ j (by omega)
   have hir := hy.idx (rds_get hr)
   unfold rdV at hir
   have hrk : RdOk ls p r := by
    obtain ⟨h,rfl⟩ := List.getElem?_eq_some_iff.1 hr
    rw [List.drop_eq_getElem_cons h] at hrs;exact hrs.1
   have hw1 : IntKind.i64.wrap ((ls.length : Int) - r.wd) = (ls.length : Int) - r.wd := by
    have := hrk.lo;have := hrk.hi;rw [wrap_in _ (by split at * <;> omega) (by split at * <;> omega)]
   have hw2 : IntKind.i64.wrap (((ls.length - p : Nat) : Int) - ((ls.length : Int) - r.wd)) = ((r.wd.toNat - p : Nat) : Int) := by
    have := hrk.lo;have := hrk.hi;rw [wrap_in _ (by split at * <;> omega) (by split at * <;> omega)];split at * <;> omega
   rw [← plus_nil X]
   simp -implicitDefEqProofs only [go_sem,↓reduceIte,Int.reduceEq,Int.reduceLT,Int.reduceLE,List.reduceReplicate,intA,setT_nil,setT_cons,hlt,hw,hir,sizeP hN,putP0 hN,putP hN,settleP0 hN,settleP hN,rowP0 hN,rowP hN,storeP0 hN hlk,storeP hN hlk,hcl,hlen,hx.len,strs_len,hw1,hw2]
   have hkept : r.wd.toNat - p ≤ (ls.drop p).length := by rw [List.length_drop];have := hrk.hi;have := hrk.lo;split at * <;> omega
   obtain ⟨sx,hsx,hsl⟩ := hX.left.slice und_87 size_9 (r.wd.toNat - p) (by rw [strs_len];exact hkept)
   have hwl : p ≤ r.wd.toNat ∧ r.wd.toNat ≤ ls.length := by have := hrk.hi;have := hrk.lo;split at * <;> omega
   have htk : ((ls.drop p).take (r.wd.toNat - p)).length ≤ r.wd.toNat - p := by rw [List.length_take];exact Nat.min_le_left _ _
   have hnn2 : (ds ++ (ls.drop p).take (r.wd.toNat - p)).length + 1 < 2 ^ 33 := by rw [List.length_append];have : j < l.length := by omega
                                                                                   omega
   have hltN : ltB 0 N = true := by unfold ltB;have := hX.two;simp;omega
   have hdone : DoneR X ds dv := hX.done
   have hclear : Clear (N + 1) (N + 1 + 9) dv := fun i hi => Or.inl (by
    by_cases h : i < N + 1
    ·exact h
    ·exact absurd hi (hdone.below (by omega)))
   have hsl' : SlOf 1 (strs ((ls.drop p).take (r.wd.toNat - p))) sx := by unfold strs;rw [List.map_take];exact hsl
   have hnn : ds.length + ((ls.drop p).take (r.wd.toNat - p)).length < 2 ^ 33 := by
    have h1 : ((ls.drop p).take (r.wd.toNat - p)).length ≤ r.wd.toNat - p := by rw [List.length_take];exact Nat.min_le_left _ _
    have h2 : j < l.length := by omega
    omega
   refine wp_drawX [([],[],false),([],[],false),([0],[],false),([],[],false),([0],[],false),([],[],true),([],[],false),([],[],true),([],[],false)] (by kernel_rfl) (by kernel_rfl) ?_
   simp -implicitDefEqProofs only [go_sem,↓reduceIte,Int.reduceEq,Int.reduceLT,Int.reduceLE,List.reduceReplicate,intA,setT_nil,setT_cons,sizeP hN,putP0 hN,putP hN,settleP0 hN,settleP hN,rowP0 hN,rowP hN,storeP0 hN hlk,storeP hN hlk,hcl,hsx,hX.left.flat,hX.left.objs,hltN,List.isEmpty_nil]
   refine effV_of (ds := ds) (ds' := ds ++ (ls.drop p).take (r.wd.toNat - p)) (dv := dv) (ext_141 he) (impure_94 _ _ _) (by omega) (by rw [plus_size,hN];exact Nat.le_refl _) (hdone.plus _) hclear (fun dv' => .agg [lv,dv']) (fun X' q1 q2 q3 => call94_any he X' (by rw [q1,q2,plus_lock,plus_size];omega) lv _ hX.left ds dv q3 _ sx hsl' hnn 122 (some 34)) fun dv1 G1 b1 => ?_
   show AtO (contP _ _ _ _ _ _ _ _ _ _ _) _ _
   simp -implicitDefEqProofs only [go_sem,↓reduceIte,Int.reduceEq,Int.reduceLT,Int.reduceLE,List.reduceReplicate,intA,setT_nil,setT_cons,hcl,List.isEmpty_nil]
   obtain ⟨ly,hly0,hc95⟩ : ∃ ly,SlOf 1 (strs ((ls.drop p).drop (r.wd.toNat - p))) ly ∧ ∀ X' : Heap,X'.lock = G1.lock → X'.size = G1.size → DoneR X' (ds ++ (ls.drop p).take (r.wd.toNat - p)) dv1 → ∃ dv' Y,callA (Cx e) (lim (Cx e)) 122 142 (some 36) [.agg [lv,dv1],intA (r.wd.toNat - p : Nat)] X' = some ((fun dv' => .agg [ly,dv']) dv',Y) ∧ Turned X' Y dv1 dv' (ds ++ (ls.drop p).take (r.wd.toNat - p)) := by
    obtain ⟨ly,h1,h2⟩ := call95_all he (ls.drop p) lv hX.left (r.wd.toNat - p) hkept dv1 b1.done.flat.1 b1.done.flat.2
    refine ⟨ly,h1,fun X' q1 q2 q3 => ?_⟩
    obtain ⟨F,hF⟩ := h2 X' _ rfl (by have := b1.lock;have := b1.size;rw [plus_size,hN] at this;rw [q1,q2,b1.lock];show X.lock ≤ _;omega) 76 (some 36)
    exact ⟨dv1,_,hF,rfl,by rw [plus_size];omega,fun i hi _ => plus_get F hi,q3.plus F,Or.inl rfl⟩
   refine effV_of (ds := ds ++ (ls.drop p).take (r.wd.toNat - p)) (dv := dv1) (ext_142 he) (impure_95 _ _ _) (by omega) (by have := b1.size;rw [plus_size,hN] at this;exact this) b1.done b1.clear (fun dv' => .agg [ly,dv']) hc95 fun dv2 G2 b2 => ?_
   show AtO (contP _ _ _ _ _ _ _ _ _ _ _) _ _
   have hsz1 : N + 10 ≤ G1.size := by have h1 := b1.size;rw [plus_size,hN] at h1;exact h1
   have hGs : ∀ i,i < N + 10 → i < (X.plus [some (AObj.cells 0 0 105 1 false [.v (.int .i64 r.ch),.v (.int .i64 r.ln),.v (.int .i64 r.wd),.v (.int .u8 r.kind),.v (.string r.word)]),none,none,none,none,none,none,none,none,none]).size := fun i hi => by rw [plus_size,hN];exact hi
   have hne1 : rowOf dv1 ≠ some 1 := b1.off (hGs 1 (by have := hX.two;omega)) hX.off.2
   have hne1' : rowOf dv2 ≠ some 1 := b2.off (by have := hX.two;omega) hne1
   have hne0 : rowOf dv1 ≠ some 0 := b1.off (hGs 0 (by omega)) hX.off.1
   have hne0' : rowOf dv2 ≠ some 0 := b2.off (by omega) hne0
   have hneN0 : rowOf dv ≠ some N := hdone.below (by omega)
   have hneN : rowOf dv1 ≠ some N := b1.off (hGs N (by omega)) hneN0
   have hneN' : rowOf dv2 ≠ some N := b2.off (by omega) hneN
   have hg2 : G2.get 1 = some (.cells 0 m 204 1 false [lv,dv]) := by
    rw [b2.same 1 (by have := hX.two;omega) hne1,b1.same 1 (by have := hX.two;omega) hX.off.2,plus_get _ (by have := hX.two;omega)]
    exact row_of_get hcell
   have hst2 := store_get (xs := [ly,dv2]) hg2 (by rw [b2.lock,b1.lock];show X.lock ≤ 1;rw [hX.lock];omega) rfl (by simp [hly0.flat,b2.done.flat.1])
   simp -implicitDefEqProofs only [go_sem,↓reduceIte,Int.reduceEq,Int.reduceLT,Int.reduceLE,List.reduceReplicate,intA,setT_nil,setT_cons,hcl,List.isEmpty_nil,hst2,hltN]
   generalize hZ : settleH (N + 1) (G2.put 1 _) = Z
   have hG2 : N + 10 ≤ G2.size := by
    have h1 := b1.size;have h2 := b2.size
    rw [plus_size,hN] at h1
    have h3 : N + 10 ≤ G1.size := h1
    omega
   have hzl : Z.lock = 0 := by subst hZ;rw [settle_lock];show G2.lock = 0;rw [b2.lock,b1.lock];exact hX.lock
   have hz1 : ∃ m',Z.row 1 0 = some (m',204,1,false,[ly,dv2]) := by
    subst hZ;exact ⟨_,get_row ((settle_lo (by have := hX.two;omega)).trans (put_get_eq _ (by omega)))⟩
   obtain ⟨m',hz1⟩ := hz1
   have hz0 : Z.row 0 0 = some (0,201,1,false,[.v .nilFunc,.v .nilFunc,.fn (.func 162) [] [],.fn (.func 163) [] [],.fn (.func 164) [] [],.fn (.func 165) [] [],.fn (.func 166) [] [],.fn (.func 167) [] []]) := by
    refine get_row ?_
    subst hZ
    rw [settle_lo (by omega),put_get_ne _ (by omega) (by omega),b2.same 0 (by omega) hne0,b1.same 0 (by omega) hX.off.1,plus_get _ (by have := hX.two;omega)]
    exact row_of_get hX.tab
   have hzN : Z.row N 0 = some (0,105,1,false,[.v (.int .i64 r.ch),.v (.int .i64 r.ln),.v (.int .i64 r.wd),.v (.int .u8 r.kind),.v (.string r.word)]) := by
    refine get_row ?_
    subst hZ
    rw [settle_lo (by omega),put_get_ne _ (by omega) (by have := hX.two;omega),b2.same N (by omega) hneN,b1.same N (by omega) hneN0,plus_get_hi _ (by omega),hN,Nat.sub_self]
    rfl
   have hzd : DoneR Z (ds ++ (ls.drop p).take (r.wd.toNat - p)) dv2 := by
    subst hZ
    exact (b2.done.put _ (by omega) hne1').settle _
   have hsM : N + 1 ≤ Z.size := by subst hZ;exact settle_size' (by rw [put_sizeI _ (by have := hX.two;omega)];omega)
   generalize hM : Z.size = M at *
   have hr1 : ∀ E,(Z.plus E).row 1 0 = some (m',204,1,false,[ly,dv2]) := fun E => by rw [rowLo (by have := hX.two;omega)];exact hz1
   have hr0 := fun E => (rowLo (X := Z) (b := 0) (by omega) E 0).trans hz0
   have hrN := fun E => (rowLo (X := Z) (b := N) (by omega) E 0).trans hzN
   have hlt1 : ltB 1 M = true := by unfold ltB;have := hX.two;simp;omega
   have hlt0 : ltB 0 M = true := by unfold ltB;have := hX.two;simp;omega
   have hltNM : ltB N M = true := by unfold ltB;simp;omega
   have hclear2 : Clear M (M + 10) dv2 := fun i hi => Or.inl (by
    by_cases h : i < M
    ·exact h
    ·exact absurd hi (hzd.below (by omega)))
   have hg3' : ∀ (R : List (Option AObj)) G3 dv3 ds3,Behind M (M + 10) (Z.plus R) G3 dv2 dv3 ds3 → G3.get 1 = some (.cells 0 m' 204 1 false [ly,dv2]) := fun R G3 dv3 ds3 b3 => by
    rw [b3.same 1 (by have := hX.two;omega) hne1',plus_get _ (by have := hX.two;omega)]
    exact row_of_get hz1
   have hdrop := List.drop_eq_getElem_cons (l := l) (i := j) (by omega)
   have hrj : l[j]'(by omega) = r := by have := List.getElem?_eq_getElem (l := l) (i := j) (by omega);rw [hr] at this;exact (Option.some.inj this).symm
   have hrs2 : RdsOk ls (if r.kind = 2 then r.wd.toNat else r.wd.toNat + 1) (l.drop (j + 1)) := by
    rw [hdrop,hrj] at hrs;exact hrs.2
   have hfold2 : (l.take (j + 1)).foldl (rdOne ls) (0,[]) = rdOne ls (p,ds) r := by
    rw [List.take_add_one,hr,List.foldl_append,hfold];rfl
   have hend : ∀ (R : List (Option AObj)) G3 lz dv3 ds3 p3 (W : Heap) (mm : Nat) vs,Behind M (M + 10) (Z.plus R) G3 dv2 dv3 ds3 → SlOf 1 (strs (ls.drop p3)) lz → W = settleH M (G3.put 1 (.cells 0 mm 204 1 false [lz,dv3])) → bound dv3 ≤ mm → rdOne ls (p,ds) r = (p3,ds3) → p3 ≤ ls.length → (if r.kind = 2 then r.wd.toNat else r.wd.toNat + 1) = p3 → ds3.length ≤ p3 + (j + 1) →
     ∃ j' p' ds' lv' dv' N',j' + μ = l.length ∧ ds'.length ≤ p' + j' ∧ (l.take j').foldl (rdOne ls) (0,[]) = (p',ds') ∧ p' ≤ ls.length ∧ RdsOk ls p' (l.drop j') ∧ (⟨52,[(0,x),(1,y),(4,.v (.slice none 0 0)),(5,.ptr 0 0 0),(6,.ptr 1 0 0),(13,y),(14,intA l.length),(15,.v (.int .i64 (IntKind.i64.wrap (↑j + 1))))],[]⟩ : AAct) = ⟨52,[(0,x),(1,y),(4,.v (.slice none 0 0)),(5,.ptr 0 0 0),(6,.ptr 1 0 0),(13,y),(14,intA l.length),(15,intA j')],[]⟩ ∧ Rdr (W.trim N vs []) N' lv' dv' (ls.drop p') ds' := by
    intro R G3 lz dv3 ds3 p3 W mm vs b3 hlz hW hmm hone hp3 hpk hdl3
    have h2 := hX.two
    have hGs3 : M ≤ G3.size := by have := b3.size;rw [plus_size,hM] at this;omega
    have hn1 : rowOf dv3 ≠ some 1 := b3.off (by rw [plus_size,hM];omega) hne1'
    have hn0 : rowOf dv3 ≠ some 0 := b3.off (by rw [plus_size,hM];omega) hne0'
    have hps : (G3.put 1 (.cells 0 mm 204 1 false [lz,dv3])).size = G3.size := put_sizeI _ (by omega)
    have hWs : N ≤ W.size := by rw [hW];have := settle_size' (n := M) (H := G3.put 1 (.cells 0 mm 204 1 false [lz,dv3])) (by omega);omega
    have hW1 : W.get 1 = some (.cells 0 mm 204 1 false [lz,dv3]) := by rw [hW,settle_lo (by omega)];exact put_get_eq _ (by omega)
    have hWd : DoneR W ds3 dv3 := by rw [hW];exact (b3.done.put _ (by omega) hn1).settle _
    have hWl : W.lock = 0 := by rw [hW,settle_lock];show G3.lock = 0;rw [b3.lock];exact hzl
    refine ⟨j + 1,p3,ds3,lz,dv3,_,by omega,hdl3,by rw [hfold2,hone],hp3,by rw [← hpk];exact hrs2,by rw [hw];rfl,rfl, ?_,by rw [trim_lock];exact hWl, ?_,⟨mm, ?_⟩,hlz, ?_,⟨hn0,hn1⟩⟩
    ·have := trim_size' (n := N) (vs := vs) (ms := []) hWs;omega
    ·refine get_row ?_
     rw [trim_lo (by omega),hW,settle_lo (by omega),put_get_ne _ (by omega) (by omega),b3.same 0 (by omega) hne0',plus_get _ (by omega)]
     exact row_of_get hz0
    ·refine get_row ?_
     rw [trim_lo (by omega)];exact hW1
    ·rcases trim_cases W N vs [] with h | ⟨h,hb⟩
     ·rw [h];exact hWd
     ·rw [h]
      rcases hWd with ⟨h3,h4⟩ | ⟨b,v,h3,h4,h5,h6⟩
      ·exact Or.inl ⟨h3,h4⟩
      ·have hbo := boundsOk_getI (b := 1) (o := .cells 0 mm 204 1 false [lz,dv3]) hb (by
        have := takeH_get (n := N) (i := 1) (H := W) (by omega)
        rw [hW1] at this
        unfold Heap.get at this
        cases hq : (W.objs.take N)[1]? with
        | none => rw [hq] at this;exact nomatch this
        | some z => rw [hq] at this;exact congrArg some (show z = some _ from this))
       have hbN : b < N := by
        have : bound dv3 = b + 1 := by rw [h5];rfl
        have : mm ≤ N := hbo
        omega
       have hg := (takeH_get (n := N) (H := W) hbN).trans (row_of_get h6)
       exact Or.inr ⟨b,v,h3,get_size hg,h5,get_row hg⟩
   rcases hrk.kind with hk1 | hk1 | hk1
   ·rw [hk1] at hrN
    refine wp_drawX [([],[],false),([],[],false),([],[],false),([],[],false),([],[],false),([1,4],[],false),([],[],false),([1,4,5],[],false),([],[],true),([],[],false)] (by kernel_rfl) (by kernel_rfl) ?_
    simp -implicitDefEqProofs only [go_sem,↓reduceIte,Int.reduceEq,Int.reduceLT,Int.reduceLE,List.reduceReplicate,intA,setT_nil,setT_cons,sizeP hM,hM,hr1,hr0,hrN,hlt1,hlt0,hltNM,cast4,Int.reduceToNat,List.isEmpty_nil]
    have hkl : 1 ≤ ((ls.drop p).drop (r.wd.toNat - p)).length := by
     have h1 := hrk.hi;have h2 := hrk.lo;rw [hk1,if_neg (by decide)] at h1;simp only [List.length_drop];omega
    obtain ⟨lz,hlz,hc⟩ := call113_all he ly _ hly0 hkl dv2 b2.done.flat.1 b2.done.flat.2
    refine effV_of (ds := ds ++ (ls.drop p).take (r.wd.toNat - p)) (ds' := ds ++ (ls.drop p).take (r.wd.toNat - p)) (dv := dv2) (ext_163 he) (impure_113 _ _ _) (by omega) (by rw [plus_size,hM];exact Nat.le_refl _) (hzd.plus _) hclear2 (fun dv' => .agg [lz,dv']) (fun X' q1 q2 q3 => by
     obtain ⟨Y,h1,h2⟩ := hc X' X'.size rfl (by rw [q1,q2,plus_lock,plus_size,hzl];omega) _ q3 r.word 76 (some 45)
     exact ⟨dv2,Y,h1,h2⟩) fun dv3 G3 b3 => ?_
    show AtO (contP _ _ _ _ _ _ _ _ _ _ _) _ _
    have hg3 := hg3' _ _ _ _ b3
    have hst3 := store_get (xs := [lz,dv3]) hg3 (by rw [b3.lock];show Z.lock ≤ 1;omega) rfl (by simp [hlz.flat,b3.done.flat.1])
    simp -implicitDefEqProofs only [go_sem,↓reduceIte,Int.reduceEq,Int.reduceLT,Int.reduceLE,List.reduceReplicate,intA,setT_nil,setT_cons,hr1,List.isEmpty_nil,hst3,hlt1]
    have hlz' : SlOf 1 (strs (ls.drop (r.wd.toNat + 1))) lz := by
     rw [List.drop_drop,List.drop_drop,show p + (r.wd.toNat - p + 1) = r.wd.toNat + 1 by omega] at hlz;exact hlz
    have hk2 : r.wd.toNat + 1 ≤ ls.length := by have h1 := hrk.hi;have h2 := hrk.lo;rw [hk1,if_neg (by decide)] at h1;omega
    exact ⟨μ,by omega,hend _ G3 lz dv3 _ (r.wd.toNat + 1) _ _ _ b3 hlz' rfl (by (repeat' split) <;> omega) (by unfold rdOne;simp [hk1]) hk2 (by rw [hk1];rfl) (by rw [List.length_append];omega)⟩
   ·rw [hk1] at hrN
    refine wp_drawX [([],[],false),([],[],false),([],[],false),([],[],false),([],[],false),([1,4],[],false),([],[],false),([1,4,5],[],false),([],[],true),([],[],false)] (by kernel_rfl) (by kernel_rfl) ?_
    simp -implicitDefEqProofs only [go_sem,↓reduceIte,Int.reduceEq,Int.reduceLT,Int.reduceLE,List.reduceReplicate,intA,setT_nil,setT_cons,sizeP hM,hM,hr1,hr0,hrN,hlt1,hlt0,hltNM,cast4,Int.reduceToNat,List.isEmpty_nil]
    refine effV_of (ds := ds ++ (ls.drop p).take (r.wd.toNat - p)) (ds' := ds ++ (ls.drop p).take (r.wd.toNat - p) ++ [r.word]) (dv := dv2) (ext_165 he) (impure_115 _ _ _) (by omega) (by rw [plus_size,hM];exact Nat.le_refl _) (hzd.plus _) hclear2 (fun dv' => .agg [ly,dv']) (fun X' q1 q2 q3 =>
     call115_any he X' X'.size rfl (by rw [q1,q2,plus_lock,plus_size,hzl];omega) ly _ hly0 _ hnn2 dv2 q3 r.word 122 (some 45)) fun dv3 G3 b3 => ?_
    show AtO (contP _ _ _ _ _ _ _ _ _ _ _) _ _
    have hg3 := hg3' _ _ _ _ b3
    have hst3 := store_get (xs := [ly,dv3]) hg3 (by rw [b3.lock];show Z.lock ≤ 1;omega) rfl (by simp [hly0.flat,b3.done.flat.1])
    simp -implicitDefEqProofs only [go_sem,↓reduceIte,Int.reduceEq,Int.reduceLT,Int.reduceLE,List.reduceReplicate,intA,setT_nil,setT_cons,hr1,List.isEmpty_nil,hst3,hlt1]
    have hlz' : SlOf 1 (strs (ls.drop r.wd.toNat)) ly := by
     rw [List.drop_drop,show p + (r.wd.toNat - p) = r.wd.toNat by omega] at hly0;exact hly0
    exact ⟨μ,by omega,hend _ G3 ly dv3 _ r.wd.toNat _ _ _ b3 hlz' rfl (by (repeat' split) <;> omega) (by unfold rdOne;simp [hk1]) hwl.2 (by rw [hk1];rfl) (by rw [List.length_append,List.length_append];simp only [List.length_singleton];omega)⟩
   ·rw [hk1] at hrN
    refine wp_drawX [([],[],false),([],[],false),([],[],false),([],[],false),([],[],false),([1,4],[],false),([],[],false),([1,4,5],[],false),([],[],true),([],[],false)] (by kernel_rfl) (by kernel_rfl) ?_
    simp -implicitDefEqProofs only [go_sem,↓reduceIte,Int.reduceEq,Int.reduceLT,Int.reduceLE,List.reduceReplicate,intA,setT_nil,setT_cons,sizeP hM,hM,hr1,hr0,hrN,hlt1,hlt0,hltNM,cast4,Int.reduceToNat,List.isEmpty_nil]
    have hkl : 1 ≤ ((ls.drop p).drop (r.wd.toNat - p)).length := by
     have h1 := hrk.hi;have h2 := hrk.lo;rw [hk1,if_neg (by decide)] at h1;simp only [List.length_drop];omega
    obtain ⟨lz,hlz,hc⟩ := call117_all he ly _ hly0 hkl dv2 b2.done.flat.1 b2.done.flat.2
    refine effV_of (ds := ds ++ (ls.drop p).take (r.wd.toNat - p)) (ds' := ds ++ (ls.drop p).take (r.wd.toNat - p) ++ [r.word]) (dv := dv2) (ext_167 he) (impure_117 _ _ _) (by omega) (by rw [plus_size,hM];exact Nat.le_refl _) (hzd.plus _) hclear2 (fun dv' => .agg [lz,dv']) (fun X' q1 q2 q3 =>
     hc X' X'.size rfl (by rw [q1,q2,plus_lock,plus_size,hzl];omega) _ hnn2 q3 r.word 76 (some 45)) fun dv3 G3 b3 => ?_
    show AtO (contP _ _ _ _ _ _ _ _ _ _ _) _ _
    have hg3 := hg3' _ _ _ _ b3
    have hst3 := store_get (xs := [lz,dv3]) hg3 (by rw [b3.lock];show Z.lock ≤ 1;omega) rfl (by simp [hlz.flat,b3.done.flat.1])
    simp -implicitDefEqProofs only [go_sem,↓reduceIte,Int.reduceEq,Int.reduceLT,Int.reduceLE,List.reduceReplicate,intA,setT_nil,setT_cons,hr1,List.isEmpty_nil,hst3,hlt1]
    have hlz' : SlOf 1 (strs (ls.drop (r.wd.toNat + 1))) lz := by
     rw [List.drop_drop,List.drop_drop,show p + (r.wd.toNat - p + 1) = r.wd.toNat + 1 by omega] at hlz;exact hlz
    have hk2 : r.wd.toNat + 1 ≤ ls.length := by have h1 := hrk.hi;have h2 := hrk.lo;rw [hk1,if_neg (by decide)] at h1;omega
    exact ⟨μ,by omega,hend _ G3 lz dv3 _ (r.wd.toNat + 1) _ _ _ b3 hlz' rfl (by (repeat' split) <;> omega) (by unfold rdOne;simp [hk1]) hk2 (by rw [hk1];rfl) (by rw [List.length_append,List.length_append];simp only [List.length_singleton];omega)⟩
 ·exact ⟨0,0,[],x,.v (.slice none 0 0),2,by omega,by simp,rfl,by omega,hok,rfl,⟨rfl,by omega,rfl,rfl,⟨0,rfl⟩,hx,Or.inl ⟨rfl,rfl⟩,⟨(fun h => nomatch h),(fun h => nomatch h)⟩⟩⟩
end Go.Ev
namespace Go.Ev
open Go.Proofs
attribute [local irreducible] Wp WpS
def chId (y : AV) : List AV := match y with | .agg (i :: _) => [i,.v (.slice none 0 0)] | _ => []
abbrev o55 (n : Nat) (cs : List AV) : Option AObj := some (.cells 0 0 n 1 false cs)
theorem chId_len : ∀ {ys : List AV} (_ : ∀ y ∈ ys,∃ a b,y = .agg [intA a,b]),(ys.flatMap chId).length = ys.length * 2
 | [],_ => rfl
 | y :: r,h => by
  obtain ⟨a,b,rfl⟩ := h y (by simp)
  rw [List.flatMap_cons,List.length_append,chId_len (fun z hz => h z (by simp [hz]))]
  simp [chId];omega
theorem chId_bound : ∀ {ys : List AV} (_ : ∀ y ∈ ys,∃ a b,y = .agg [intA a,b]),boundL (ys.flatMap chId) = 0
 | [],_ => rfl
 | y :: r,h => by
  obtain ⟨a,b,rfl⟩ := h y (by simp)
  rw [List.flatMap_cons]
  show Nat.max 0 (Nat.max 0 (boundL (r.flatMap chId))) = 0
  rw [chId_bound (fun z hz => h z (by simp [hz]))];rfl
theorem trim_no4 (l : List (Option AObj)) (k n b : Nat) (vs : List AV) (ms : List Nat) (o : AObj) (h : l[b]? = some (some o)) (hb : b < n) (ho : n < o.bound) : (Heap.mk l k).trim n vs ms = ⟨l,k⟩ := by
 rcases trim_cases (Heap.mk l k) n vs ms with h1 | ⟨_,h2⟩
 ·exact h1
 ·have := boundsOk_getI h2 (b := b) (o := o) (by rw [List.getElem?_take,if_pos hb];exact h)
  omega
end Go.Ev
