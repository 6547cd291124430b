/- What the proof of this claim stands on, part 3: an evaluator of the model, proved right, and what it answers for functions of the program. -/
import Derived.Test.YtpfbekhkakfoiaaGreatDoorPk01
import Derived.IntWalk
import Derived.Test.YtpfbekhkakfoiaaGreatDoorProg
import Derived.KernelRfl
import Derived.Laws.StructEq
import Derived.Lib.Bytealg
import Derived.ChangeReads
import Derived.ChangeOld
import Derived.ChangeArms
import Derived.RowKit3
import Derived.WalkKit
import Derived.ProofKit
import Derived.OpenShut
set_option maxHeartbeats 8000000
set_option maxRecDepth 1000000
set_option linter.unusedSimpArgs false
namespace Go.Ev
section
variable {P : Program}
@[go_sem] theorem eval_tmp (s : Nat) (l : List (Tmp × AV)) (m : List Nat) (t : Tmp) : (AAct.mk s l m).eval (.tmp t) = assoc t l := rfl
@[go_sem] theorem eval_int (a : AAct) (k : IntKind) (n : Int) : a.eval (.const (.int k n)) = some (.v (.int k n)) := rfl
@[go_sem] theorem eval_bool (a : AAct) (b : Bool) : a.eval (.const (.bool b)) = some (.v (.bool b)) := rfl
@[go_sem] theorem eval_string (a : AAct) (b : ByteArray) : a.eval (.const (.string b)) = some (.v (.string b)) := rfl
@[go_sem] theorem eval_nilslice (a : AAct) : a.eval (.const (.slice none 0 0)) = some (.v (.slice none 0 0)) := rfl
@[go_sem] theorem eval_nilfunc (a : AAct) : a.eval (.const .nilFunc) = some (.v .nilFunc) := rfl
@[go_sem] theorem eval_func (a : AAct) (f : FuncId) : a.eval (.func f) = some (.fn (.func f) [] []) := rfl
@[go_sem] theorem assoc_nil (t : Tmp) : assoc t [] = none := rfl
@[go_sem] theorem assoc_cons (t k : Tmp) (v : AV) (r : List (Tmp × AV)) : assoc t ((k,v) :: r) = if k = t then some v else assoc t r := by
 simp only [assoc];by_cases h : k = t <;> simp [h]
@[go_sem] theorem set_nil (t : Tmp) (v : AV) : setAssoc t v [] = [(t,v)] := rfl
@[go_sem] theorem set_cons (t k : Tmp) (v x : AV) (r : List (Tmp × AV)) : setAssoc t v ((k,x) :: r) = if k = t then (k,v) :: r else (k,x) :: setAssoc t v r := by
 simp only [setAssoc];by_cases h : k = t <;> simp [h]
@[go_sem] theorem keepT_put (ks : List Nat) (s d : Tmp) (v : AV) (l : List (Tmp × AV)) : keepT ks (putT s d v l) = if d < s ∧ d ∈ ks then setAssoc d v (keepT ks l) else keepT ks l := by
 have h : ∀ ks : List Nat,memNat d ks = decide (d ∈ ks) := by
  intro ks;induction ks with
  | nil => rfl
  | cons x r ih =>
   simp only [memNat,ih,List.mem_cons]
   by_cases hx : x = d
   ·subst hx;simp
   ·have hb : Nat.beq x d = false := by
     cases hb : Nat.beq x d
     ·rfl
     ·exact absurd (Nat.eq_of_beq_eq_true hb) hx
    have hx' : ¬ d = x := fun e => hx e.symm
    simp [hb,hx']
 have key : ∀ l : List (Tmp × AV),keepT ks (setAssoc d v l) = if d ∈ ks then setAssoc d v (keepT ks l) else keepT ks l := by
  intro l
  induction l with
  | nil => simp only [keepT,set_nil,List.filter_cons,List.filter_nil,h];by_cases hd : d ∈ ks <;> simp [hd]
  | cons x r ih =>
   obtain ⟨k,y⟩ := x
   rw [set_cons]
   by_cases hk : k = d
   ·subst hk
    simp only [if_true,keepT,List.filter_cons,h]
    by_cases hd : k ∈ ks <;> simp [hd,set_cons]
   ·rw [if_neg hk]
    simp only [keepT,List.filter_cons] at ih ⊢
    cases hm : memNat k ks
    ·simp only [Bool.false_eq_true,if_false,ih]
    ·simp only [if_true,ih]
     by_cases hd : d ∈ ks
     ·simp only [hd,if_true];rw [set_cons,if_neg hk]
     ·simp only [hd,if_false]
 unfold putT
 by_cases hs : d < s
 ·rw [if_pos hs,key];by_cases hd : d ∈ ks <;> simp [hs,hd]
 ·rw [if_neg hs,if_neg (fun h => hs h.1)]
@[go_sem] theorem assoc_put (t s d : Tmp) (v : AV) (l : List (Tmp × AV)) : assoc t (putT s d v l) = if d < s ∧ d = t then some v else assoc t l := by
 unfold putT
 by_cases hs : d < s
 ·rw [if_pos hs]
  simp only [hs,true_and]
  induction l with
  | nil => simp only [set_nil,assoc_cons]
  | cons x r ih =>
   obtain ⟨k,y⟩ := x
   rw [set_cons]
   by_cases h : k = d
   ·subst h;simp only [if_true,assoc_cons];split <;> rfl
   ·rw [if_neg h,assoc_cons,assoc_cons,ih]
    by_cases h2 : k = t
    ·subst h2;rw [if_pos rfl,if_pos rfl,if_neg (fun e => h e.symm)]
    ·rw [if_neg h2,if_neg h2]
 ·rw [if_neg hs,if_neg (fun h => hs h.1)]
@[go_sem] theorem evals_nil (a : AAct) : evals a [] = some [] := rfl
def consO (x : Option AV) (y : Option (List AV)) : Option (List AV) := match x,y with | some v,some vs => some (v :: vs) | _,_ => none
@[go_sem] theorem consO_some (v : AV) (vs : List AV) : consO (some v) (some vs) = some (v :: vs) := rfl
@[go_sem] theorem evals_cons (a : AAct) (x : Operand) (r : List Operand) : evals a (x :: r) = consO (a.eval x) (evals a r) := rfl
def consP (i : Nat) (x : Option AV) (y : Option (List (Nat × AV))) : Option (List (Nat × AV)) := match x,y with | some v,some vs => some ((i,v) :: vs) | _,_ => none
@[go_sem] theorem consP_some (i : Nat) (v : AV) (vs : List (Nat × AV)) : consP i (some v) (some vs) = some ((i,v) :: vs) := rfl
@[go_sem] theorem evalParts_nil (a : AAct) : evalParts a [] = some [] := rfl
@[go_sem] theorem evalParts_cons (a : AAct) (i : Nat) (x : Operand) (r : List (Nat × Operand)) : evalParts a ((i,x) :: r) = consP i (a.eval x) (evalParts a r) := rfl
@[go_sem] theorem keepT_nil (ks : List Nat) : keepT ks [] = [] := rfl
@[go_sem] theorem keepT_cons (ks : List Nat) (k : Tmp) (v : AV) (r : List (Tmp × AV)) : keepT ks ((k,v) :: r) = if k ∈ ks then (k,v) :: keepT ks r else keepT ks r := by
 have h : ∀ ks : List Nat,memNat k ks = decide (k ∈ ks) := by
  intro ks;induction ks with
  | nil => rfl
  | cons x r ih =>
   simp only [memNat,ih,List.mem_cons]
   by_cases hx : x = k
   ·subst hx;simp
   ·have hb : Nat.beq x k = false := by
     cases hb : Nat.beq x k
     ·rfl
     ·exact absurd (Nat.eq_of_beq_eq_true hb) hx
    have hx' : ¬ k = x := fun e => hx e.symm
    simp [hb,hx']
 simp only [keepT,List.filter_cons,h]
 by_cases hk : k ∈ ks <;> simp [hk]
variable {t : TypeId} {x y : Operand} {k : IntKind}
@[go_sem] theorem bin_lss (m n : Int) : binA P .lss t x y (.v (.int k m)) (.v (.int k n)) = some (.v (.bool (decide (m < n)))) := by cases k <;> rfl
@[go_sem] theorem bin_leq (m n : Int) : binA P .leq t x y (.v (.int k m)) (.v (.int k n)) = some (.v (.bool (decide (m ≤ n)))) := by cases k <;> rfl
@[go_sem] theorem bin_gtr (m n : Int) : binA P .gtr t x y (.v (.int k m)) (.v (.int k n)) = some (.v (.bool (decide (n < m)))) := by cases k <;> rfl
@[go_sem] theorem bin_geq (m n : Int) : binA P .geq t x y (.v (.int k m)) (.v (.int k n)) = some (.v (.bool (decide (n ≤ m)))) := by cases k <;> rfl
@[go_sem] theorem bin_eql (m n : Int) : binA P .eql t x y (.v (.int k m)) (.v (.int k n)) = some (.v (.bool (decide (m = n)))) := by
 have : (m == n) = decide (m = n) := rfl
 cases k <;> rw [← this] <;> rfl
@[go_sem] theorem bin_neq (m n : Int) : binA P .neq t x y (.v (.int k m)) (.v (.int k n)) = some (.v (.bool (!decide (m = n)))) := by
 have : (m != n) = !decide (m = n) := rfl
 cases k <;> rw [← this] <;> rfl
@[go_sem] theorem bin_add (m n : Int) : binA P .add t x y (.v (.int k m)) (.v (.int k n)) = some (.v (.int k (k.wrap (m + n)))) := by cases k <;> rfl
@[go_sem] theorem bin_sub (m n : Int) : binA P .sub t x y (.v (.int k m)) (.v (.int k n)) = some (.v (.int k (k.wrap (m - n)))) := by cases k <;> rfl
@[go_sem] theorem bin_str (op : BinOp) (u w : ByteArray) : binA P op t x y (.v (.string u)) (.v (.string w)) = atomA (strOp op u w) := rfl
theorem wrap_in (n : Int) (h1 : -9223372036854775808 ≤ n) (h2 : n ≤ 9223372036854775807) : IntKind.i64.wrap n = n := IntWalk.i64_in n ⟨h1,h2⟩
theorem bytesEq_iff : ∀ (a b : List UInt8),bytesEq a b = decide (a = b)
 | [],[] => by simp [bytesEq]
 | [],_ :: _ => by simp [bytesEq]
 | _ :: _,[] => by simp [bytesEq]
 | x :: a,y :: b => by
  simp only [bytesEq,bytesEq_iff a b,List.cons.injEq]
  by_cases h : x = y
  ·subst h;simp
  ·have : ¬ x.toNat = y.toNat := fun e => h (UInt8.toNat_inj.1 e)
   simp [h,this]
theorem str_ext (a b : ByteArray) : a = b ↔ a.data.toList = b.data.toList := by
 constructor
 ·rintro rfl;rfl
 ·intro h;cases a;cases b;congr;exact Array.toList_inj.1 h
@[go_sem] theorem str_eql (u w : ByteArray) : strOp .eql u w = some (.bool (decide (u = w))) := by
 simp only [strOp,bytesEq_iff,str_ext]
@[go_sem] theorem str_neq (u w : ByteArray) : strOp .neq u w = some (.bool (!decide (u = w))) := by
 simp only [strOp,bytesEq_iff,str_ext]
@[go_sem] theorem atomA_bool (b : Bool) : atomA (some (.bool b)) = some (.v (.bool b)) := rfl
@[go_sem] theorem atomA_str (n : ByteArray) : atomA (some (.string n)) = some (.v (.string n)) := rfl
theorem index_str (h : P.underlying t = some .string) (s : ByteArray) (k : IntKind) (i : Int) : indexA P t (.v (.string s)) (.v (.int k i)) = if 0 ≤ i then (strAt s i.toNat).map fun b => .v (.int .u8 b.toNat) else none := by
 unfold indexA;rw [h]
theorem partOf_one (cs : List AV) (k : Nat) (h : isAggT P t = some false) {n : Nat} (hs : sizeT P t = some n) : partOf P t cs k = cs[k]? := by
 unfold partOf;rw [h,hs]
theorem partOf_agg (cs : List AV) (k : Nat) (h : isAggT P t = some true) {n : Nat} (hs : sizeT P t = some n) : partOf P t cs k = if k + n ≤ cs.length then some (.agg ((cs.drop k).take n)) else none := by
 unfold partOf;rw [h,hs]
@[go_sem] theorem load_ro (H : Heap) (z : AV) (k : Nat) : loadA P H t (.ro z k) = partOf P t z.cells k := rfl
def rowPart (P : Program) (t : TypeId) (k : Nat) (r : Option (Nat × TypeId × Nat × Bool × List AV)) : Option AV := match r with | some (_,_,_,_,cs) => partOf P t cs k | _ => none
@[go_sem] theorem rowPart_some (m e sz g) (cs : List AV) (k : Nat) : rowPart P t k (some (m,e,sz,g,cs)) = partOf P t cs k := rfl
@[go_sem] theorem load_ptr (H : Heap) (b v k : Nat) : loadA P H t (.ptr b v k) = rowPart P t k (H.row b v) := rfl
def fieldOff (P : Program) (t : TypeId) (i : Nat) : Option (Nat × Nat) :=
 match P.underlying t with
 | some (.struct fs) => (match fs[i]? with | some f => (sizeT P f.type).map fun n => (f.offset,n) | none => none)
 | _ => none
theorem fieldAddr_off {i off n : Nat} (h : fieldOff P t i = some (off,n + 1)) (x : AV) : fieldAddrA P t x i = match x with | .ptr b v k => some (.ptr b v (k + off)) | .ro z k => some (.ro z (k + off)) | _ => none := by
 unfold fieldOff at h
 unfold fieldAddrA
 cases hu : P.underlying t with
 | none => rw [hu] at h;simp at h
 | some u =>
  rw [hu] at h
  cases u <;> simp only at h ⊢ <;> try (cases h)
  rename_i fs
  cases hf : fs[i]? with
  | none => rw [hf] at h;simp at h
  | some f =>
   rw [hf] at h;simp only at h ⊢
   cases hs : sizeT P f.type with
   | none => rw [hs] at h;simp at h
   | some m =>
    rw [hs] at h;simp only [Option.map_some,Option.some.injEq,Prod.mk.injEq] at h
    obtain ⟨h1,h2⟩ := h
    subst h1;subst h2
    cases x <;> rfl
theorem fieldAddr_ptr {i off n : Nat} (h : fieldOff P t i = some (off,n + 1)) (b v k : Nat) : fieldAddrA P t (.ptr b v k) i = some (.ptr b v (k + off)) := fieldAddr_off h _
theorem fieldAddr_ro {i off n : Nat} (h : fieldOff P t i = some (off,n + 1)) (z : AV) (k : Nat) : fieldAddrA P t (.ro z k) i = some (.ro z (k + off)) := fieldAddr_off h _
theorem len_str (h : P.underlying t = some .string) (H : Heap) (s : ByteArray) (r) : lenA P H (t :: r) [.v (.string s)] = some (.v (.int .i64 s.size)) := by
 unfold lenA;simp only;rw [h]
theorem len_slice {e : TypeId} (h : P.underlying t = some (.slice e)) (H : Heap) (x : AV) (r) : lenA P H (t :: r) [x] = match x with | .v (.slice none 0 0) => some (.v (.int .i64 0)) | .vs _ xs _ => some (.v (.int .i64 xs.length)) | .sl _ _ _ len _ => some (.v (.int .i64 len)) | _ => none := by
 unfold lenA;simp only;rw [h]
 split <;> simp_all
end
end Go.Ev
namespace Go.Ev
section
variable {C : Cfg} {me : FuncId} {rd : Option Nat}
def goP (o : Out) (K : Post) : Prop := match o with | .go e a H => AtK K e a H | _ => False
def Lp (C : Cfg) (me : FuncId) (rd : Option Nat) (ks : List Tmp) (c : Code) (a : AAct) (H : Heap) (K : Post) : Prop := bindO (lim C (.loop me rd ks c a H)) fun o => goP o K
@[congr] theorem Lp_congr {ks ks' : List Tmp} {c : Code} {a a' : AAct} {H H' : Heap} {K : Post} (hk : ks = ks') (ha : a = a') (hH : H = H') : Lp C me rd ks c a H K = Lp C me rd ks' c a' H' K := by rw [hk,ha,hH]
@[go_sem ↓] theorem wp_loopE (c : Code) (a : AAct) (H : Heap) (K : Post) : Wp C me rd (.loop c) a H K = Lp C me rd (a.tmps.map (·.1)) c a H K := by
 show bindO (match lim C (.loop me rd (a.tmps.map (·.1)) c a H) with | some (.go e a' H') => some (e,a',H') | _ => none) _ = bindO _ _
 cases lim C (.loop me rd (a.tmps.map (·.1)) c a H) with
 | none => rfl
 | some o => cases o <;> rfl
def loopK (C : Cfg) (me : FuncId) (rd : Option Nat) (ks : List Tmp) (c : Code) (n : Nat) (K : Post) : Post := fun e a H =>
 match e with
 | .normal => Lp C me rd ks c (a.only ks) (H.trim n ((a.only ks).tmps.map (·.2)) (a.only ks).marks) K
 | .exit i => AtK K (.exit i) (a.only ks) (H.trim n ((a.only ks).tmps.map (·.2)) (a.only ks).marks)
 | .ret => AtK K .ret a H
@[go_sem ↓] theorem loopK_normal (ks : List Tmp) (c : Code) (n : Nat) (K : Post) (a : AAct) (H : Heap) : AtK (loopK C me rd ks c n K) .normal a H = Lp C me rd ks c (a.only ks) (H.trim n ((a.only ks).tmps.map (·.2)) (a.only ks).marks) K := rfl
@[go_sem ↓] theorem loopK_exit (ks : List Tmp) (c : Code) (n i : Nat) (K : Post) (a : AAct) (H : Heap) : AtK (loopK C me rd ks c n K) (.exit i) a H = AtK K (.exit i) (a.only ks) (H.trim n ((a.only ks).tmps.map (·.2)) (a.only ks).marks) := rfl
@[go_sem ↓] theorem loopK_ret (ks : List Tmp) (c : Code) (n : Nat) (K : Post) (a : AAct) (H : Heap) : AtK (loopK C me rd ks c n K) .ret a H = AtK K .ret a H := rfl
theorem lim_eq (t : Task) : lim C t = taskA C (lim C) t := by
 cases h : taskA C (lim C) t with
 | some x => exact lim_step.2 h
 | none =>
  cases h' : lim C t with
  | none => rfl
  | some x => rw [lim_step.1 h'] at h;cases h
theorem Lp_step (ks : List Tmp) (c : Code) (a : AAct) (H : Heap) (K : Post) : Lp C me rd ks c a H K = Wp C me rd c a H (loopK C me rd ks c H.size K) := by
 unfold Lp
 rw [lim_eq]
 unfold Wp
 simp only [taskA]
 rcases codeA C (lim C) me rd c a H with _ | ⟨e,a',H'⟩
 ·rfl
 ·cases e <;> rfl
@[go_sem] theorem only_mk (s : Nat) (l : List (Tmp × AV)) (m : List Nat) (ks : List Tmp) : (AAct.mk s l m).only ks = ⟨s,ks.filterMap fun k => (assoc k l).map fun v => (k,v),m⟩ := rfl
theorem trim_size (H : Heap) (vs : List AV) (ms : List Nat) : H.trim H.size vs ms = H := by
 unfold Heap.trim
 have : H.objs.take H.size = H.objs := List.take_length
 split
 ·rw [this]
 ·rfl
theorem settle_size (H : Heap) : settleH H.size H = H := by
 unfold settleH
 have h : H.objs.take H.size = H.objs := List.take_length
 split
 ·rw [h]
 ·rfl
@[go_sem] theorem trim_same (H : Heap) (vs : List AV) (ms : List Nat) : H.trim H.size vs ms = H := trim_size H vs ms
@[go_sem] theorem settle_same (H : Heap) : settleH H.size H = H := settle_size H
def Fn' (C : Cfg) (f : FuncId) (args : List AV) (H : Heap) (K : PostO) : Prop := bindO (lim C (.call f args H)) fun o => retP o K
def finK (C : Cfg) (rs : List ResultVar) (K : PostO) : Post := fun e a H =>
 match e with
 | .exit _ => False
 | _ => bindO (killAll a.marks H) fun H2 => bindO (resultsA C a H2 rs) fun vs => AtO K (oneOf vs) H2
@[go_sem ↓] theorem finK_ret (rs : List ResultVar) (K : PostO) (a : AAct) (H : Heap) : AtK (finK C rs K) .ret a H = bindO (killAll a.marks H) fun H2 => bindO (resultsA C a H2 rs) fun vs => AtO K (oneOf vs) H2 := rfl
@[go_sem ↓] theorem finK_normal (rs : List ResultVar) (K : PostO) (a : AAct) (H : Heap) : AtK (finK C rs K) .normal a H = bindO (killAll a.marks H) fun H2 => bindO (resultsA C a H2 rs) fun vs => AtO K (oneOf vs) H2 := rfl
theorem fn_step {f : FuncId} {args : List AV} {H : Heap} {K : PostO} {fn : Func} (hf : C.P.funcs[f]? = some fn) {c : Code} (hc : fn.body = some c) (hlay : C.lay f = none := by rfl) :
  Fn' C f args H K = Wp C f none c ⟨args.length + (fn.ntmps - args.length),number 0 args,[]⟩ H (finK C fn.results.toList K) := by
 unfold Fn'
 rw [lim_eq]
 unfold Wp
 simp only [taskA,hlay,hf,hc]
 rcases codeA C (lim C) f none c ⟨args.length + (fn.ntmps - args.length),number 0 args,[]⟩ H with _ | ⟨e,a',H'⟩
 ·rfl
 ·cases e with
  | exit i => rfl
  | normal =>
   simp only [bindO_some,finK]
   rcases killAll a'.marks H' with _ | H2
   ·rfl
   ·simp only [bindO_some];cases resultsA C a' H2 fn.results.toList <;> rfl
  | ret =>
   simp only [bindO_some,finK]
   rcases killAll a'.marks H' with _ | H2
   ·rfl
   ·simp only [bindO_some];cases resultsA C a' H2 fn.results.toList <;> rfl
@[go_sem] theorem kill_nil (H : Heap) : killAll [] H = some H := rfl
@[go_sem] theorem results_nil (a : AAct) (H : Heap) : resultsA C a H [] = some [] := rfl
@[go_sem] theorem results_tmp (s : Nat) (l : List (Tmp × AV)) (m : List Nat) (H : Heap) (t : Tmp) (r : List ResultVar) : resultsA C ⟨s,l,m⟩ H (.tmp t :: r) = consO (assoc t l) (resultsA C ⟨s,l,m⟩ H r) := rfl
@[go_sem] theorem results_cell (s : Nat) (l : List (Tmp × AV)) (m : List Nat) (H : Heap) (t : Tmp) (ty : TypeId) (r : List ResultVar) : resultsA C ⟨s,l,m⟩ H (.cell t ty :: r) = consO ((assoc t l).bind (loadA C.P H ty)) (resultsA C ⟨s,l,m⟩ H r) := rfl
@[go_sem] theorem oneOf_one (v : AV) : oneOf [v] = v := rfl
@[go_sem] theorem oneOf_two (v w : AV) (r : List AV) : oneOf (v :: w :: r) = .tup (v :: w :: r) := rfl
@[go_sem] theorem oneOf_nil : oneOf [] = .tup [] := rfl
@[go_sem] theorem number_nil (n : Nat) : number n [] = [] := rfl
@[go_sem] theorem number_cons (n : Nat) (x : AV) (r : List AV) : number n (x :: r) = (n,x) :: number (n + 1) r := rfl
def ansK (v : AV) : PostO := fun x H => freezeV { H with lock := 0 } 1000000 x = some v
@[go_sem] theorem ansK_at (v x : AV) (l : List (Option AObj)) (k : Nat) : AtO (ansK v) x ⟨l,k⟩ = (freezeV ⟨l,0⟩ 1000000 x = some v) := rfl
def Ans (C : Cfg) (f : FuncId) (args : List AV) (v : AV) : Prop :=
 Fn' C f args { objs := [],lock := 0 } (ansK v)
theorem Ans.iff {f : FuncId} {args : List AV} {v : AV} : Ans C f args v ↔ ∃ x H,lim C (.call f args { objs := [],lock := 0 }) = some (.ret x H) ∧ freezeV { H with lock := 0 } 1000000 x = some v := by
 unfold Ans Fn' ansK
 rw [bindO_iff]
 constructor
 ·rintro ⟨o,h1,h2⟩
  cases o with
  | ret x H => exact ⟨x,H,h1,h2⟩
  | go => exact h2.elim
 ·rintro ⟨x,H,h1,h2⟩;exact ⟨_,h1,h2⟩
theorem Ans.call {f : FuncId} {args : List AV} {v : AV} (h : Ans C f args v) {d : Option Tmp} (hx : C.ext f = none) (hp : C.pure me f d = true) (hb : boundL args = 0) (H : Heap) (hh : C.exh f = none := by rfl) : callA C (lim C) me f d args H = some (v,H) := by
 obtain ⟨x,H',h1,h2⟩ := Ans.iff.1 h
 have hk : callKind C me f d args = 1 := by unfold callKind;rw [hp,hb];rfl
 unfold callA standA standH;rw [hx];simp only;rw [hh];simp only
 unfold callB;rw [hk];simp only [h1,h2,Option.map_some]
def SlOf (sz : Nat) (xs : List AV) (x : AV) : Prop := (x = .v (.slice none 0 0) ∧ xs = []) ∨ ∃ cap,x = .vs sz xs cap
def slLen (x : AV) : Option AV := match x with | .v (.slice none 0 0) => some (.v (.int .i64 0)) | .vs _ xs _ => some (.v (.int .i64 xs.length)) | .sl _ _ _ len _ => some (.v (.int .i64 len)) | _ => none
theorem len_sl {P : Program} {t e : TypeId} (h : P.underlying t = some (.slice e)) (H : Heap) (x : AV) : lenA P H [t] [x] = slLen x := len_slice h H x []
def slIdx (s : Nat) (x ix : AV) : Option AV :=
 match ix with
 | .v (.int _ i) =>
  match x with
  | .sl b v off len _ => if 0 ≤ i ∧ i < (len : Int) then some (.ptr b v (off + i.toNat * s)) else none
  | .vs sz xs _ => if 0 ≤ i ∧ i < (xs.length : Int) ∧ sz = s then (xs[i.toNat]?).map fun y => .ro y 0 else none
  | _ => none
 | _ => none
theorem idx_sl {P : Program} {t e : TypeId} {s : Nat} (h : P.underlying t = some (.slice e)) (hs : sizeT P e = some s) (x ix : AV) : indexAddrA P t x ix = slIdx s x ix := by
 unfold indexAddrA slIdx;rw [h]
 rcases ix with v | _ | _ | _ | _ | _ | _ | _ | _ | _ | _ <;> try rfl
 cases v <;> try rfl
 simp only;rw [hs]
 cases x <;> rfl
theorem SlOf.len {sz : Nat} {xs : List AV} {x : AV} (h : SlOf sz xs x) : slLen x = some (.v (.int .i64 (xs.length : Nat))) := by
 rcases h with ⟨rfl,rfl⟩ | ⟨cap,rfl⟩ <;> rfl
theorem SlOf.idx {sz : Nat} {xs : List AV} {x y : AV} (h : SlOf sz xs x) {j : Nat} (hy : xs[j]? = some y) (k : IntKind) : slIdx sz x (.v (.int k (j : Nat))) = some (.ro y 0) := by
 rcases h with ⟨rfl,rfl⟩ | ⟨cap,rfl⟩
 ·simp at hy
 ·have := (List.getElem?_eq_some_iff.1 hy).1
  unfold slIdx;simp only [Int.toNat_natCast,hy,Option.map_some]
  rw [if_pos ⟨by omega,by omega,trivial⟩]
theorem SlOf.bound {sz : Nat} {xs : List AV} {x : AV} (h : SlOf sz xs x) : bound x = 0 := by
 rcases h with ⟨rfl,rfl⟩ | ⟨cap,rfl⟩ <;> rfl
theorem SlOf.flat {sz : Nat} {xs : List AV} {x : AV} (h : SlOf sz xs x) : x.flat = true := by
 rcases h with ⟨rfl,rfl⟩ | ⟨cap,rfl⟩ <;> rfl
theorem SlOf.cells {sz : Nat} {xs : List AV} {x : AV} (h : SlOf sz xs x) : x.cells = [x] := by
 rcases h with ⟨rfl,rfl⟩ | ⟨cap,rfl⟩ <;> rfl
def bsFin (mt : Bool) (e n : Nat) (H : Heap) (slot len : Nat) (cs : List AV) : Option (AV × Heap) :=
 if cs.all AV.flat = true then (if mt = true ∨ boundL cs ≠ 0 then some (.sl slot 0 0 len (some len),H.put slot (.cells 0 (boundL cs) e n false cs)) else some (.vs n (chunk n len cs) (some len),H)) else none
theorem buildSl_eq {P : Program} {t e n : Nat} {z : AV} (hu : P.underlying t = some (.slice e)) (hs : sizeT P e = some n) (hz : zeroT P e = some z) (hn : 0 < n) (hl : z.cells.length = n) (mt : Bool) (H : Heap) (slot len : Nat) (parts : List (Nat × AV)) :
  buildSliceA P mt H slot t len parts = if len * n ≤ 65536 then (fillA (fun i => some (i * n,n)) (repeatCells z.cells len) parts).bind (bsFin mt e n H slot len) else none := by
 unfold buildSliceA
 rw [hu];simp only;rw [hs,hz];simp only [hn,hl,and_true]
 split
 ·cases fillA (fun i => some (i * n,n)) (repeatCells z.cells len) parts with
  | none => rfl
  | some cs =>
   simp only [Option.bind_some,bsFin]
   cases hf : cs.all AV.flat
   ·rfl
   ·simp only [Bool.true_eq_false,if_false,if_true]
    have : Nat.beq (boundL cs) 0 = decide (boundL cs = 0) := by
     cases boundL cs <;> rfl
    rw [this]
    cases mt <;> by_cases hb : boundL cs = 0 <;> simp [hb]
 ·rfl
@[go_sem] theorem fillA_nil (place : Nat → Option (Nat × Nat)) (cells : List AV) : fillA place cells [] = some cells := rfl
def fill1 (place : Nat → Option (Nat × Nat)) (cells : List AV) (v : AV) (rest : List (Nat × AV)) (p : Option (Nat × Nat)) : Option (List AV) :=
 match p with
 | none => none
 | some (off,size) => if v.cells.length = size ∧ off + size ≤ cells.length then fillA place (splice off v.cells cells) rest else none
@[go_sem] theorem fillA_cons (place : Nat → Option (Nat × Nat)) (cells : List AV) (i : Nat) (v : AV) (rest : List (Nat × AV)) : fillA place cells ((i,v) :: rest) = fill1 place cells v rest (place i) := by
 unfold fill1;simp only [fillA]
 cases place i <;> rfl
@[go_sem] theorem fill1_some (place : Nat → Option (Nat × Nat)) (cells : List AV) (v : AV) (rest : List (Nat × AV)) (off size : Nat) : fill1 place cells v rest (some (off,size)) = if v.cells.length = size ∧ off + size ≤ cells.length then fillA place (splice off v.cells cells) rest else none := rfl
theorem wrap_succ (j : Nat) (h : j + 1 < 2 ^ 63) : IntKind.i64.wrap ((j : Int) + 1) = ((j + 1 : Nat) : Int) := by
 rw [wrap_in _ (by omega) (by omega)];omega
end
end Go.Ev
namespace Go.Ev
@[go_sem] theorem heap_size (l : List (Option AObj)) (k : Nat) : (Heap.mk l k).size = l.length := rfl
@[go_sem] theorem heap_put (l : List (Option AObj)) (k b : Nat) (o : AObj) : (Heap.mk l k).put b o = ⟨setOrPush (some o) b l,k⟩ := rfl
@[go_sem] theorem sop_nil {α : Type} (x : α) (n : Nat) : setOrPush x n [] = [x] := by cases n <;> rfl
@[go_sem] theorem sop_zero {α : Type} (x y : α) (r : List α) : setOrPush x 0 (y :: r) = x :: r := rfl
@[go_sem] theorem sop_succ {α : Type} (x y : α) (n : Nat) (r : List α) : setOrPush x (n + 1) (y :: r) = y :: setOrPush x n r := rfl
def objRow (v : Nat) (o : Option AObj) : Option (Nat × TypeId × Nat × Bool × List AV) := match o with | some (.cells w m e sz g cs) => if w = v then some (m,e,sz,g,cs) else none | _ => none
@[go_sem] theorem objRow_cells (v w m e sz g) (cs : List AV) : objRow v (some (.cells w m e sz g cs)) = if w = v then some (m,e,sz,g,cs) else none := rfl
@[go_sem] theorem heap_row (l : List (Option AObj)) (k b v : Nat) : (Heap.mk l k).row b v = objRow v ((l[b]?).join) := by
 unfold Heap.row Heap.get objRow;rfl
@[go_sem] theorem join_some {α : Type} (x : Option α) : (some x).join = x := rfl
@[go_sem] theorem bound_v (x : Value) : bound (.v x) = 0 := rfl
@[go_sem] theorem bound_vs (s : Nat) (x : List AV) (k : Option Nat) : bound (.vs s x k) = 0 := rfl
@[go_sem] theorem bound_agg (l : List AV) : bound (.agg l) = boundL l := rfl
@[go_sem] theorem bound_ptr (b v k : Nat) : bound (.ptr b v k) = b + 1 := rfl
@[go_sem] theorem bound_fn (f : Fn) (a b : List AV) : bound (.fn f a b) = Nat.max (boundL a) (boundL b) := rfl
@[go_sem] theorem boundL_nil : boundL [] = 0 := rfl
@[go_sem] theorem boundL_cons (x : AV) (r : List AV) : boundL (x :: r) = Nat.max (bound x) (boundL r) := rfl
@[go_sem] theorem nmax (a b : Nat) : Nat.max a b = if a ≤ b then b else a := by rw [show Nat.max a b = max a b from rfl,Nat.max_def]
@[go_sem] theorem settle_mk (l : List (Option AObj)) (k n : Nat) : settleH n ⟨l,k⟩ = if (l.drop n).all Option.isNone = true then ⟨l.take n,k⟩ else ⟨l,k⟩ := rfl
@[go_sem] theorem isNone_some' {α : Type} (x : α) : (some x).isNone = false := rfl
@[go_sem] theorem isNone_none' {α : Type} : (none : Option α).isNone = true := rfl
@[go_sem] theorem trim_len (l : List (Option AObj)) (k n : Nat) (vs : List AV) (ms : List Nat) (h : l.length ≤ n) : (Heap.mk l k).trim n vs ms = ⟨l,k⟩ := by
 unfold Heap.trim
 have : l.take n = l := List.take_of_length_le h
 split
 ·simp only [this]
 ·rfl
theorem trim_at (l : List (Option AObj)) (k n : Nat) (vs : List AV) (ms : List Nat) (h : boundL vs ≤ n) (hm : ms = []) (ho : boundsOk n (l.take n) = true) (hk : k ≤ n) : (Heap.mk l k).trim n vs ms = ⟨l.take n,k⟩ := by
 unfold Heap.trim
 subst hm
 rw [if_pos]
 simp only [List.all_nil,Bool.and_true,Bool.and_eq_true]
 exact ⟨⟨Nat.ble_eq_true_of_le h,ho⟩,Nat.ble_eq_true_of_le hk⟩
@[go_sem] theorem boundsOk_nil (n : Nat) : boundsOk n [] = true := rfl
@[go_sem] theorem boundsOk_some (n : Nat) (o : AObj) (r : List (Option AObj)) : boundsOk n (some o :: r) = (decide (o.bound ≤ n) && boundsOk n r) := by
 show (Nat.ble o.bound n && boundsOk n r) = _
 congr 1
 by_cases h : o.bound ≤ n
 ·rw [decide_eq_true h];exact Nat.ble_eq_true_of_le h
 ·rw [decide_eq_false h]
  cases hb : Nat.ble o.bound n
  ·rfl
  ·exact absurd (Nat.le_of_ble_eq_true hb) h
@[go_sem] theorem obound_cells (v m e sz g) (cs : List AV) : (AObj.cells v m e sz g cs).bound = m := rfl
theorem assoc_setI (t d : Tmp) (v : AV) (l : List (Tmp × AV)) : assoc t (setAssoc d v l) = if d = t then some v else assoc t l := by
 induction l with
 | nil => simp only [set_nil,assoc_cons]
 | cons x r ih =>
  obtain ⟨k,y⟩ := x
  rw [set_cons]
  by_cases h : k = d
  ·subst h;simp only [if_true,assoc_cons];split <;> rfl
  ·rw [if_neg h,assoc_cons,assoc_cons,ih]
   by_cases h2 : k = t
   ·subst h2;rw [if_pos rfl,if_pos rfl,if_neg (fun e => h e.symm)]
   ·rw [if_neg h2,if_neg h2]
@[go_sem] theorem freeze_v (H : Heap) (x : Value) : freezeV H 1000000 (.v x) = some (.v x) := rfl
@[go_sem] theorem freeze_vs (H : Heap) (s : Nat) (x : List AV) (k : Option Nat) : freezeV H 1000000 (.vs s x k) = some (.vs s x k) := rfl
@[go_sem] theorem cells_v (x : Value) : AV.cells (.v x) = [.v x] := rfl
@[go_sem] theorem flat_v (x : Value) : AV.flat (.v x) = true := rfl
@[go_sem] theorem cells_vs (s : Nat) (l : List AV) (k : Option Nat) : AV.cells (.vs s l k) = [.vs s l k] := rfl
@[go_sem] theorem flat_vs (s : Nat) (l : List AV) (k : Option Nat) : AV.flat (.vs s l k) = true := rfl
@[go_sem] theorem flat_sl (b v o n : Nat) (k : Option Nat) : AV.flat (.sl b v o n k) = true := rfl
@[go_sem] theorem cells_fn (f : Fn) (a b : List AV) : AV.cells (.fn f a b) = [.fn f a b] := rfl
@[go_sem] theorem flat_fn (f : Fn) (a b : List AV) : AV.flat (.fn f a b) = true := rfl
@[go_sem] theorem cells_agg (l : List AV) : AV.cells (.agg l) = l := rfl
def stObj (l : List (Option AObj)) (k b v off : Nat) (xs : List AV) (o : Option AObj) : Option Heap :=
 match o with
 | some (.cells w m e sz g cs) => if w = v ∧ k ≤ b ∧ off + xs.length ≤ cs.length ∧ xs.all AV.flat = true then some ⟨setOrPush (some (.cells w (Nat.max m (boundL xs)) e sz g (splice off xs cs))) b l,k⟩ else none
 | _ => none
@[go_sem] theorem stObj_cells (l : List (Option AObj)) (k b v off : Nat) (xs : List AV) (w m e sz g) (cs : List AV) : stObj l k b v off xs (some (.cells w m e sz g cs)) = if w = v ∧ k ≤ b ∧ off + xs.length ≤ cs.length ∧ xs.all AV.flat = true then some ⟨setOrPush (some (.cells w (Nat.max m (boundL xs)) e sz g (splice off xs cs))) b l,k⟩ else none := rfl
@[go_sem] theorem store_mk (l : List (Option AObj)) (k b v off : Nat) (xs : List AV) : storeCells ⟨l,k⟩ b v off xs = stObj l k b v off xs ((l[b]?).join) := by
 unfold storeCells
 rw [heap_row]
 unfold objRow stObj
 cases (l[b]?).join with
 | none => rfl
 | some o =>
  cases o with
  | cells w m e sz g cs =>
   simp only
   by_cases hw : w = v
   ·subst hw;simp only [if_true,true_and];rfl
   ·simp only [hw,if_false,false_and]
  | _ => rfl
@[go_sem] theorem ansK_v (v : AV) (x : Value) (H : Heap) : AtO (ansK v) (.v x) H = (some (AV.v x) = some v) := rfl
def arIdx (n s : Nat) (x ix : AV) : Option AV :=
 match ix with
 | .v (.int _ i) =>
  match x with
  | .ptr b v k => if 0 ≤ i ∧ i < (n : Int) then some (.ptr b v (k + i.toNat * s)) else none
  | .ro y k => if 0 ≤ i ∧ i < (n : Int) then some (.ro y (k + i.toNat * s)) else none
  | _ => none
 | _ => none
theorem idx_ar {P : Program} {t n e s : Nat} (h : P.underlying t = some (.array n e)) (hs : sizeT P e = some s) (x ix : AV) : indexAddrA P t x ix = arIdx n s x ix := by
 unfold indexAddrA arIdx;rw [h]
 cases ix <;> try rfl
 rename_i v
 cases v <;> try rfl
 simp only [hs]
 cases x <;> rfl
@[go_sem] theorem arIdx_ptr (n s b v k : Nat) (q : IntKind) (i : Int) : arIdx n s (.ptr b v k) (.v (.int q i)) = if 0 ≤ i ∧ i < (n : Int) then some (.ptr b v (k + i.toNat * s)) else none := rfl
end Go.Ev
namespace Go.Ev
@[go_sem] theorem obeq_tf : ((some true : Option Bool) == some false) = false := rfl
@[go_sem] theorem obeq_ft : ((some false : Option Bool) == some true) = false := rfl
@[go_sem] theorem obeq_nf : ((none : Option Bool) == some false) = false := rfl
section
variable {C : Cfg} {me : FuncId} {rd : Option Nat}
def loadI (P : Program) (H : Heap) (t : TypeId) (p : AV) : Option AV :=
 match p with
 | .ptr b v k => if b < H.size then loadA P H t (.ptr b v k) else none
 | .ro z k => loadA P H t (.ro z k)
 | _ => none
def lenI (P : Program) (ts : List TypeId) (l : List AV) : Option AV :=
 match l with
 | .mp _ :: _ => none
 | l => lenA P { objs := [],lock := 0 } ts l
open Classical in
noncomputable def callI (C : Cfg) (me f : FuncId) (d : Option Tmp) (args : List AV) : Option AV :=
 if h : ∃ v,(∀ H,callA C (lim C) me f d args H = some (v,H)) ∧ ((standA C f args).isSome = true ∨ callKind C me f d args = 1) then some h.choose else none
noncomputable def callV (C : Cfg) (me : FuncId) (d : Option Tmp) (g : AV) (l : List AV) : Option AV :=
 match g with
 | .fn (.func f) x y => callI C me f d (x ++ l ++ y)
 | _ => none
def sliceI (P : Program) (t : TypeId) (v : AV) (l h m : Option AV) : Option AV :=
 match v with
 | .sl _ _ _ _ _ => none
 | v => sliceA P { objs := [],lock := 0 } t v l h m
def bareO (d : Option Tmp) (op : Op) : Oper := { dst := d,op := op,type := 0,pos := "",after := #[],guard := none }
noncomputable def opI (C : Cfg) (me : FuncId) (H : Heap) (d : Option Tmp) (op : Op) (a : AAct) : Option AV :=
 match op with
 | .load t x => (a.eval x).bind (loadI C.P H t)
 | .slice t x l h m => (a.eval x).bind fun v => (lookO a l).bind fun l => (lookO a h).bind fun h => (lookO a m).bind fun m => sliceI C.P t v l h m
 | .call c =>
  match c.callee with
  | .builtin .len => (evals a c.args.toList).bind (lenI C.P c.argTypes.toList)
  | .builtin .min => (evals a c.args.toList).bind (mmA false)
  | .value g => (evals a c.args.toList).bind fun l => (a.eval g).bind fun v => callV C me d v l
  | _ => none
 | op => if plainO (bareO d op) then (opA C (lim C) me (bareO d op) a H 0).map fun r => r.1.getD undefA else none
theorem callI_of {f : FuncId} {d : Option Tmp} {args : List AV} {v : AV} (h : ∀ H,callA C (lim C) me f d args H = some (v,H)) (hk : (standA C f args).isSome = true ∨ callKind C me f d args = 1) : callI C me f d args = some v := by
 unfold callI
 have hex : ∃ v,(∀ H,callA C (lim C) me f d args H = some (v,H)) ∧ ((standA C f args).isSome = true ∨ callKind C me f d args = 1) := ⟨v,h,hk⟩
 rw [dif_pos hex]
 have h1 := hex.choose_spec.1 { objs := [],lock := 0 }
 rw [h] at h1
 simp only [Option.some.injEq,Prod.mk.injEq] at h1
 rw [← h1.1]
theorem Ans.callI {f : FuncId} {args : List AV} {v : AV} (h : Ans C f args v) {d : Option Tmp} (hx : C.ext f = none) (hp : C.pure me f d = true) (hb : boundL args = 0) (hh : C.exh f = none := by rfl) : callI C me f d args = some v :=
 callI_of (fun H => h.call hx hp hb H hh) (Or.inr (by unfold callKind;rw [hp,hb];rfl))
theorem ext_call {f : FuncId} {g : List AV → Option AV} (hx : C.ext f = some g) {args : List AV} {v : AV} (h : g args = some v) {d : Option Tmp} (H : Heap) : callA C (lim C) me f d args H = some (v,H) := by
 unfold callA standA;rw [hx];simp only [h]
theorem ext_callI {f : FuncId} {g : List AV → Option AV} (hx : C.ext f = some g) {args : List AV} {v : AV} (h : g args = some v) {d : Option Tmp} : callI C me f d args = some v :=
 callI_of (fun H => ext_call hx h H) (Or.inl (by unfold standA;rw [hx];simp only [h];rfl))
noncomputable def idleA (C : Cfg) (me : FuncId) (arr : Array Oper) (H : Heap) : List Oper → AAct → Option AAct
 | [],a => some a
 | o :: r,a =>
  match wantedA arr a o with
  | some true => match opI C me H o.dst o.op a with | some v => idleA C me arr H r (a.put o.dst v) | none => none
  | some false => idleA C me arr H r (a.put o.dst undefA)
  | none => none
def Foot.calm (f : Foot) : Prop := f.writes = some [] ∧ f.fresh = [] ∧ f.grows = false
theorem footI_calm {b : Bool} {op : Op} {vis : Nat → Bool} {ft : Foot} (h : ft.calm) : (footI b op vis ft).calm := ⟨footI_same.2.1.trans h.1,footI_same.2.2.1.trans h.2.1,footI_same.2.2.2.2.1.trans h.2.2⟩
theorem clash_calm {x y : Foot} (hx : x.calm) (hy : y.calm) : clash x y = false := by
 obtain ⟨rx,wx,fx,px,gx⟩ := x
 obtain ⟨ry,wy,fy,py,gy⟩ := y
 obtain ⟨h1,h2,h3⟩ := hx
 obtain ⟨h4,h5,h6⟩ := hy
 simp only at h1 h2 h3 h4 h5 h6
 subst h1;subst h2;subst h3;subst h4;subst h5;subst h6
 unfold clash
 have e1 : ∀ z,meet (some []) z = false := fun _ => rfl
 have e2 : meet rx (some []) = false := by
  unfold meet;split <;> simp_all
 simp only [e1,e2,Bool.false_and,Bool.or_false]
theorem free_calm {feet : List Foot} {w : Nat} {me : Foot} (hf : ∀ f ∈ feet,f.calm) (hm : me.calm) : ∀ n,n ≤ feet.length → freeOf feet w me n = true
 | 0,_ => rfl
 | k + 1,hn => by
  unfold freeOf
  rw [free_calm hf hm k (by omega),Bool.and_true,Bool.or_eq_true]
  right
  cases h : feet[k]? with
  | none => exact absurd (List.getElem?_eq_none_iff.1 h) (by omega)
  | some f => simp only [clash_calm (hf f (List.mem_of_getElem? h)) hm,Bool.not_false]
def padded (H : Heap) (n : Nat) : Heap := { H with objs := H.objs ++ List.replicate n none }
theorem load_hidden {H : Heap} {n : Nat} {vis : Nat → Bool} {t : TypeId} {p v : AV} (h : loadI C.P H t p = some v) (hv : ∀ b,b ∈ objsOf p → b < H.size → vis b = true) : loadA C.P ((padded H n).hide vis) t p = some v := by
 unfold loadI at h
 split at h
 ·rename_i b w k
  split at h
  ·rename_i hb
   have hrow : ((padded H n).hide vis).row b w = H.row b w := by
    unfold Heap.row
    rw [hide_get]
    have hs : (padded H n).size = H.size + n := by simp [padded,Heap.size]
    rw [if_pos (by omega),if_pos (hv b (by simp [objsOf]) hb)]
    have : (padded H n).get b = H.get b := by
     unfold Heap.get padded
     simp only
     rw [List.getElem?_append_left hb]
    rw [this]
   simp only [loadA] at h ⊢
   rw [hrow];exact h
  ·cases h
 ·exact h
 ·cases h
theorem plain_slot {o : Oper} (hp : plainO o = true) (a : AAct) (H : Heap) (s s' : Nat) : opA C (lim C) me o a H s = opA C (lim C) me o a H s' := by
 unfold plainO at hp
 unfold opA
 cases ho : o.op <;> rw [ho] at hp <;> simp only [] at hp <;> first | (cases hp;done) | rfl
theorem opA_bare (o : Oper) (a : AAct) (H : Heap) (slot : Nat) : opA C (lim C) me o a H slot = opA C (lim C) me (bareO o.dst o.op) a H slot := rfl
theorem stepD_idle {arr : Array Oper} {ws : List Nat} {n i : Nat} {o : Oper} {a : AAct} {H : Heap} {v : AV} (hw : wantedA arr a o = some true) (h : opI C me H o.dst o.op a = some v) :
  ∃ ft : Foot,ft.calm ∧ stepD C (lim C) me arr ws H.size (H.size + n) i o a (padded H n) = some (ft,a.put o.dst v,padded H n) := by
 unfold stepD
 rw [hw]
 simp only
 by_cases hp : plainO o = true
 ·rw [if_pos hp]
  have hop : (opA C (lim C) me (bareO o.dst o.op) a H 0).map (fun r => r.1.getD undefA) = some v := by
   have hp' : plainO (bareO o.dst o.op) = true := hp
   unfold opI at h
   split at h
   ·rename_i t x hop;rw [show plainO o = plainO (bareO o.dst o.op) from rfl,hop] at hp;simp [plainO,bareO] at hp
   ·rename_i hop;rw [show plainO o = plainO (bareO o.dst o.op) from rfl,hop] at hp;simp [plainO,bareO] at hp
   ·rename_i c hop;rw [show plainO o = plainO (bareO o.dst o.op) from rfl,hop] at hp;simp [plainO,bareO] at hp
   ·rw [if_pos hp'] at h;exact h
  rw [Option.map_eq_some_iff] at hop
  obtain ⟨⟨r,H1⟩,h1,h2⟩ := hop
  have h3 := (plain_same (o := bareO o.dst o.op) hp h1).2
  have h4 := h3 (padded H n)
  rw [plain_slot (o := bareO o.dst o.op) hp _ _ _ (H.size + i)] at h4
  rw [opA_bare,h4]
  simp only at h2 ⊢
  exact ⟨noFoot,⟨rfl,rfl,rfl⟩,by rw [h2]⟩
 ·rw [if_neg hp]
  unfold opI at h
  split at h
  ·rename_i t x hop
   obtain ⟨p,hp1,hp2⟩ := Option.bind_eq_some_iff.1 h
   have hft : footA C me o a (H.size + i) = ⟨some (objsO a x),some [],[],false,false,0,false,noKept⟩ := by unfold footA;rw [hop]
   rw [hft]
   have hop' : ∀ H',opA C (lim C) me o a H' (H.size + i) = (loadA C.P H' t p).map fun v => (some v,H') := by
    intro H';unfold opA;rw [hop];simp only [hp1]
   have hl := load_hidden (C := C) (n := n) (vis := visB H.size (H.size + n) (ws.getD i 0) (H.size + i) ⟨some (objsO a x),some [],[],false,false,0,false,noKept⟩) hp2 (by
    intro b hb hlt
    unfold visB
    have : objsO a x = objsOf p := by unfold objsO;rw [hp1]
    rw [this]
    have h1 : Nat.blt b H.size = true := Nat.ble_eq_true_of_le hlt
    have h2 : (objsOf p).any (Nat.beq b) = true := List.any_eq_true.2 ⟨b,hb,by simp⟩
    simp only [h1,h2,Bool.true_or,Bool.and_true,Bool.or_true])
   rw [hop',hl]
   exact ⟨_,footI_calm ⟨rfl,rfl,rfl⟩,rfl⟩
  ·rename_i t x l0 h0 m0 hop
   obtain ⟨v0,h1,h⟩ := Option.bind_eq_some_iff.1 h
   obtain ⟨l1,h2,h⟩ := Option.bind_eq_some_iff.1 h
   obtain ⟨l2,h3,h⟩ := Option.bind_eq_some_iff.1 h
   obtain ⟨l3,h4,h⟩ := Option.bind_eq_some_iff.1 h
   have hft : footA C me o a (H.size + i) = ⟨some (objsO a x),some [],[],false,false,0,false,noKept⟩ := by unfold footA;rw [hop]
   rw [hft]
   have hsl : ∀ H',sliceA C.P H' t v0 l1 l2 l3 = some v := by
    intro H'
    unfold sliceI at h
    split at h
    ·cases h
    ·rename_i hne
     rw [← h]
     unfold sliceA
     split
     ·rfl
     ·split <;> first | rfl | exact absurd rfl (hne _ _ _ _ _)
   have hop' : ∀ H',opA C (lim C) me o a H' (H.size + i) = some (some v,H') := by
    intro H'
    unfold opA;rw [hop]
    show (match a.eval x,lookO a l0,lookO a h0,lookO a m0 with | some v,some l,some h,some m => (sliceA C.P H' t v l h m).map fun v => (some v,H') | _,_,_,_ => none) = _
    rw [h1,h2,h3,h4]
    simp only [hsl,Option.map_some]
   rw [hop']
   exact ⟨_,footI_calm ⟨rfl,rfl,rfl⟩,rfl⟩
  ·rename_i c hop
   split at h
   ·rename_i hcal
    obtain ⟨l,hl1,hl2⟩ := Option.bind_eq_some_iff.1 h
    have hft : ∃ rs,footA C me o a (H.size + i) = ⟨rs,some [],[],false,false,0,false,noKept⟩ := by unfold footA;rw [hop];simp only [hcal];exact ⟨_,rfl⟩
    obtain ⟨rs,hft⟩ := hft
    rw [hft]
    have hlen : ∀ H',lenA C.P H' c.argTypes.toList l = some v := by
     intro H'
     unfold lenI at hl2
     split at hl2
     ·cases hl2
     ·rename_i hne
      rw [← hl2]
      unfold lenA
      split
      ·split <;> try rfl
       rename_i b _;exact absurd rfl (hne b _)
      ·rfl
    have hop' : ∀ H',opA C (lim C) me o a H' (H.size + i) = some (some v,H') := by
     intro H';unfold opA;rw [hop];simp only [hcal,hl1,hlen,Option.map_some]
    rw [hop']
    exact ⟨_,footI_calm ⟨rfl,rfl,rfl⟩,rfl⟩
   ·rename_i hcal
    obtain ⟨l,hl1,hl2⟩ := Option.bind_eq_some_iff.1 h
    have hft : footA C me o a (H.size + i) = ⟨some [],some [],[],false,false,0,false,noKept⟩ := by unfold footA;rw [hop];simp only [hcal]
    rw [hft]
    have hop' : ∀ H',opA C (lim C) me o a H' (H.size + i) = some (some v,H') := by
     intro H';unfold opA;rw [hop];simp only [hcal,hl1]
     cases l with
     | nil => cases hl2
     | cons x r =>
      have hl2 : minmaxA false x r = some v := hl2
      simp only [hl2,Option.map_some]
    rw [hop']
    exact ⟨_,footI_calm ⟨rfl,rfl,rfl⟩,rfl⟩
   ·rename_i g hcal
    obtain ⟨l,hl1,hl2⟩ := Option.bind_eq_some_iff.1 h
    obtain ⟨gv,hg1,hg2⟩ := Option.bind_eq_some_iff.1 hl2
    unfold callV at hg2
    split at hg2
    ·rename_i f x y
     unfold callI at hg2
     split at hg2
     ·rename_i hex
      simp only [Option.some.injEq] at hg2
      obtain ⟨hc,hk⟩ := hex.choose_spec
      rw [hg2] at hc
      have hft : footA C me o a (H.size + i) = ⟨some [],some [],[],false,false,0,false,noKept⟩ := by
       unfold footA;rw [hop];simp only [hcal,hg1,hl1]
       rcases hk with hk | hk
       ·rw [if_pos hk]
       ·by_cases hx : (standA C f (x ++ l ++ y)).isSome = true
        ·rw [if_pos hx]
        ·rw [if_neg hx];simp only [hk]
      rw [hft]
      have hop' : ∀ H',opA C (lim C) me o a H' (H.size + i) = some (some v,H') := by
       intro H';unfold opA;rw [hop];simp only [hcal,hl1,hg1,hc,Option.map_some]
      rw [hop']
      exact ⟨_,footI_calm ⟨rfl,rfl,rfl⟩,rfl⟩
     ·cases hg2
    ·cases hg2
   ·cases h
  ·rename_i hop
   split at h
   ·rename_i hpl;exact absurd hpl hp
   ·cases h
theorem draw_idle {arr : Array Oper} {ws : List Nat} {n : Nat} {H : Heap} : ∀ {l : List Oper} {a a' : AAct} {i : Nat} {feet : List Foot},idleA C me arr H l a = some a' → (∀ f ∈ feet,f.calm) → feet.length = i →
  drawA C (lim C) me arr H.size (H.size + n) ws l i feet a (padded H n) = some (a',padded H n)
 | [],a,a',i,feet,h,_,_ => by simp only [idleA,Option.some.injEq] at h;subst h;rfl
 | o :: r,a,a',i,feet,h,hf,hi => by
  unfold idleA at h
  unfold drawA
  cases hw : wantedA arr a o with
  | none => rw [hw] at h;cases h
  | some w =>
   rw [hw] at h
   cases w
   ·simp only at h
    have : stepD C (lim C) me arr ws H.size (H.size + n) i o a (padded H n) = some (noFoot,a.put o.dst undefA,padded H n) := by unfold stepD;rw [hw]
    rw [this]
    simp only
    have hc : noFoot.calm := ⟨rfl,rfl,rfl⟩
    rw [free_calm hf hc i (by omega),if_pos rfl]
    exact draw_idle h (fun f hm => by
     rcases List.mem_append.1 hm with hm | hm
     ·exact hf f hm
     ·rw [List.mem_singleton.1 hm];exact hc) (by simp [hi])
   ·simp only at h
    cases ho : opI C me H o.dst o.op a with
    | none => rw [ho] at h;cases h
    | some v =>
     rw [ho] at h
     simp only at h
     obtain ⟨ft,hc,hst⟩ := stepD_idle (ws := ws) (n := n) (i := i) hw ho
     rw [hst]
     simp only
     rw [free_calm hf hc i (by omega),if_pos rfl]
     exact draw_idle h (fun f hm => by
      rcases List.mem_append.1 hm with hm | hm
      ·exact hf f hm
      ·rw [List.mem_singleton.1 hm];exact hc) (by simp [hi])
def WpI (C : Cfg) (me : FuncId) (arr : Array Oper) (ops : List Oper) (a : AAct) (H : Heap) (K : AAct → Prop) : Prop := bindO (idleA C me arr H ops a) K
@[congr] theorem WpI_congr {arr : Array Oper} {ops : List Oper} {a a' : AAct} {H H' : Heap} {K : AAct → Prop} (ha : a = a') (hH : H = H') : WpI C me arr ops a H K = WpI C me arr ops a' H' K := by rw [ha,hH]
def setI (C : Cfg) (me : FuncId) (K : Post) (H : Heap) : AAct → Prop := fun a => AtK K .normal ⟨a.size,keepT (C.keep me) a.tmps,a.marks⟩ H
def AtI (K : AAct → Prop) (a : AAct) : Prop := K a
@[go_sem ↓] theorem setI_at (K : Post) (H : Heap) (s : Nat) (l : List (Tmp × AV)) (m : List Nat) : AtI (setI C me K H) ⟨s,l,m⟩ = bindO (nf (keepT (C.keep me) l)) fun l' => AtK K .normal ⟨s,l',m⟩ H := rfl
def drawOk (ops : Array Oper) : Bool := apartM (waitsAll ops.toList) 0 [] (rowsM ops ops.toList) && waitsOk (waitsAll ops.toList) ops.toList.length
theorem wp_draw {id : Nat} {ops : Array Oper} {a : AAct} {H : Heap} {K : Post} (hok : drawOk ops = true) (h : WpI C me ops ops.toList a H (setI C me K H)) : Wp C me rd (.region id ops true) a H K := by
 unfold WpI at h
 rw [bindO_iff] at h
 obtain ⟨a',h1,h2⟩ := h
 have hd := draw_idle (ws := waitsAll ops.toList) (n := ops.toList.length) (i := 0) (feet := []) h1 (by simp) rfl
 have hreg : regionA C (lim C) me ops true a H = some (a',padded H ops.toList.length) := by
  unfold regionA
  unfold drawOk at hok
  simp only [if_true]
  rw [if_pos hok];exact hd
 unfold Wp
 simp only [codeA,hreg,Option.map_some,bindO_some]
 have hset : (settle C me H.size (a',padded H ops.toList.length)).2 = H := by
  unfold settle padded
  have h1 : (H.objs ++ List.replicate ops.toList.length none).drop H.size = List.replicate ops.toList.length none := by
   unfold Heap.size;simp
  have h2 : (H.objs ++ List.replicate ops.toList.length (none : Option AObj)).take H.size = H.objs := by
   unfold Heap.size;simp
  simp only [h1,h2]
  rw [if_pos]
  simp
 rw [hset]
 exact h2
def contI (C : Cfg) (me : FuncId) (arr : Array Oper) (r : List Oper) (d : Option Tmp) (a : AAct) (H : Heap) (K : AAct → Prop) : PostO := fun v _ => WpI C me arr r (a.put d v) H K
@[go_sem ↓] theorem contI_at (arr : Array Oper) (r : List Oper) (d : Tmp) (s : Nat) (l : List (Tmp × AV)) (m : List Nat) (H : Heap) (K : AAct → Prop) (v : AV) (H' : Heap) : AtO (contI C me arr r (some d) ⟨s,l,m⟩ H K) v H' = WpI C me arr r ⟨s,putT s d v l,m⟩ H K := by
 unfold AtO contI;simp only [AAct.put,putT];split <;> rfl
def WpJ (C : Cfg) (me : FuncId) (d : Option Tmp) (op : Op) (a : AAct) (H : Heap) (K : PostO) : Prop := bindO (opI C me H d op a) fun v => AtO K v H
@[go_sem ↓] theorem wpI_nil (arr : Array Oper) (a : AAct) (H : Heap) (K : AAct → Prop) : WpI C me arr [] a H K = AtI K a := rfl
theorem wpI_cons (arr : Array Oper) (o : Oper) (r : List Oper) (a : AAct) (H : Heap) (K : AAct → Prop) :
  WpI C me arr (o :: r) a H K = bindO (wantedA arr a o) fun w => iteB w (WpJ C me o.dst o.op a H (contI C me arr r o.dst a H K)) (WpI C me arr r (a.put o.dst undefA) H K) := by
 unfold WpI WpJ
 simp only [idleA]
 rcases wantedA arr a o with _ | w
 ·rfl
 ·cases w
  ·rfl
  ·simp only [bindO_some,iteB_true]
   rcases opI C me H o.dst o.op a with _ | v <;> rfl
@[go_sem ↓] theorem wpI_op (arr : Array Oper) (d : Option Tmp) (op : Op) (ty : TypeId) (p : String) (af : Array Edge) (r : List Oper) (a : AAct) (H : Heap) (K : AAct → Prop) :
  WpI C me arr (⟨d,op,ty,p,af,none⟩ :: r) a H K = WpJ C me d op a H (contI C me arr r d a H K) := by
 rw [wpI_cons];rfl
@[go_sem ↓] theorem wpI_guard (arr : Array Oper) (d : Tmp) (op : Op) (ty : TypeId) (p : String) (af : Array Edge) (j : Nat) (w : Bool) (r : List Oper) (s : Nat) (l : List (Tmp × AV)) (m : List Nat) (H : Heap) (K : AAct → Prop) :
  WpI C me arr (⟨some d,op,ty,p,af,some (j,w)⟩ :: r) ⟨s,l,m⟩ H K = bindO (yieldAt ((arr.toList[j]?).bind (·.dst)) ⟨s,l,m⟩) fun y => iteB (y == some w) (WpJ C me (some d) op ⟨s,l,m⟩ H (contI C me arr r (some d) ⟨s,l,m⟩ H K)) (WpI C me arr r ⟨s,putT s d undefA l,m⟩ H K) := by
 rw [wpI_cons]
 have e : (AAct.mk s l m).put (some d) undefA = ⟨s,putT s d undefA l,m⟩ := by simp only [AAct.put,putT];split <;> rfl
 rw [e]
 simp only [wantedA,yieldedA,yieldAt,Array.getElem?_toList]
 cases (arr[j]?).bind (·.dst) with
 | none => rfl
 | some d =>
  simp only
  rcases assoc d l with _ | v
  ·rfl
  ·rcases v with v | _ | l | _ | _ | _ | _ | _ | _ | _ | _ <;> try rfl
   ·cases v <;> rfl
   ·cases l <;> rfl
theorem wpJ_plain {d : Option Tmp} {op : Op} (hp : plainO (bareO d op) = true) (hl : ∀ t x,op ≠ .load t x) (hc : ∀ c,op ≠ .call c) (hsl : ∀ t x l h m,op ≠ .slice t x l h m) (a : AAct) (H : Heap) (arr : Array Oper) (r : List Oper) (d' : Option Tmp) (a' : AAct) (H2 : Heap) (K : AAct → Prop) :
  WpJ C me d op a H (contI C me arr r d' a' H2 K) = WpO C me d op a H 0 (contI C me arr r d' a' H2 K) := by
 have key : opI C me H d op a = (opA C (lim C) me (bareO d op) a H 0).map fun r => r.1.getD undefA := by
  unfold opI
  split
  ·rename_i t x;exact absurd rfl (hl t x)
  ·exact absurd rfl (hsl _ _ _ _ _)
  ·rename_i c;exact absurd rfl (hc c)
  ·rw [if_pos hp]
 unfold WpJ WpO
 rw [key]
 show bindO ((opA C (lim C) me (bareO d op) a H 0).map _) _ = bindO (opA C (lim C) me (bareO d op) a H 0) _
 rcases opA C (lim C) me (bareO d op) a H 0 with _ | x <;> rfl
section
variable (d : Option Tmp) (a : AAct) (H : Heap) (arr : Array Oper) (r : List Oper) (d' : Option Tmp) (a' : AAct) (H2 : Heap) (K : AAct → Prop)
@[go_sem ↓] theorem wpJ_move (x) : WpJ C me d (.move x) a H (contI C me arr r d' a' H2 K) = WpO C me d (.move x) a H 0 (contI C me arr r d' a' H2 K) := wpJ_plain rfl (by intro _ _ h;cases h) (by intro _ h;cases h) (by intro _ _ _ _ _ h;cases h) ..
@[go_sem ↓] theorem wpJ_assign (x) : WpJ C me d (.assign x) a H (contI C me arr r d' a' H2 K) = WpO C me d (.assign x) a H 0 (contI C me arr r d' a' H2 K) := wpJ_plain rfl (by intro _ _ h;cases h) (by intro _ h;cases h) (by intro _ _ _ _ _ h;cases h) ..
@[go_sem ↓] theorem wpJ_pick (x y z) : WpJ C me d (.pick x y z) a H (contI C me arr r d' a' H2 K) = WpO C me d (.pick x y z) a H 0 (contI C me arr r d' a' H2 K) := wpJ_plain rfl (by intro _ _ h;cases h) (by intro _ h;cases h) (by intro _ _ _ _ _ h;cases h) ..
@[go_sem ↓] theorem wpJ_bin (o t x y z) : WpJ C me d (.binOp o t x y z) a H (contI C me arr r d' a' H2 K) = WpO C me d (.binOp o t x y z) a H 0 (contI C me arr r d' a' H2 K) := wpJ_plain rfl (by intro _ _ h;cases h) (by intro _ h;cases h) (by intro _ _ _ _ _ h;cases h) ..
@[go_sem ↓] theorem wpJ_un (o t x) : WpJ C me d (.unOp o t x) a H (contI C me arr r d' a' H2 K) = WpO C me d (.unOp o t x) a H 0 (contI C me arr r d' a' H2 K) := wpJ_plain rfl (by intro _ _ h;cases h) (by intro _ h;cases h) (by intro _ _ _ _ _ h;cases h) ..
@[go_sem ↓] theorem wpJ_fieldAddr (t x i) : WpJ C me d (.fieldAddr t x i) a H (contI C me arr r d' a' H2 K) = WpO C me d (.fieldAddr t x i) a H 0 (contI C me arr r d' a' H2 K) := wpJ_plain rfl (by intro _ _ h;cases h) (by intro _ h;cases h) (by intro _ _ _ _ _ h;cases h) ..
@[go_sem ↓] theorem wpJ_indexAddr (t x i) : WpJ C me d (.indexAddr t x i) a H (contI C me arr r d' a' H2 K) = WpO C me d (.indexAddr t x i) a H 0 (contI C me arr r d' a' H2 K) := wpJ_plain rfl (by intro _ _ h;cases h) (by intro _ h;cases h) (by intro _ _ _ _ _ h;cases h) ..
@[go_sem ↓] theorem wpJ_load (K : PostO) (t x) : WpJ C me d (.load t x) a H K = bindO (a.eval x) fun p => bindO (loadI C.P H t p) fun v => AtO K v H := by
 unfold WpJ opI;simp only;cases a.eval x with
 | none => rfl
 | some p => rfl
@[go_sem ↓] theorem wpJ_slice (K : PostO) (t x l h m) : WpJ C me d (.slice t x l h m) a H K = bindO (a.eval x) fun v => bindO (lookO a l) fun l => bindO (lookO a h) fun h => bindO (lookO a m) fun m => bindO (sliceI C.P t v l h m) fun v => AtO K v H := by
 unfold WpJ opI;simp only
 cases a.eval x with
 | none => rfl
 | some v =>
  cases lookO a l with
  | none => rfl
  | some l =>
   cases lookO a h with
   | none => rfl
   | some h =>
    cases lookO a m with
    | none => rfl
    | some m => rfl
@[go_sem ↓] theorem wpJ_len (K : PostO) (args ts) : WpJ C me d (.call ⟨.builtin .len,args,ts⟩) a H K = bindO (evals a args.toList) fun l => bindO (lenI C.P ts.toList l) fun v => AtO K v H := by
 unfold WpJ opI;simp only;cases evals a args.toList with
 | none => rfl
 | some p => rfl
@[go_sem ↓] theorem wpJ_call (K : PostO) (g args ts) : WpJ C me d (.call ⟨.value g,args,ts⟩) a H K = bindO (evals a args.toList) fun l => bindO (a.eval g) fun v => bindO (callV C me d v l) fun v => AtO K v H := by
 unfold WpJ opI;simp only
 cases evals a args.toList with
 | none => rfl
 | some p =>
  simp only [Option.bind_some,bindO_some]
  cases a.eval g with
  | none => rfl
  | some v => rfl
end
@[go_sem] theorem callV_fn (d : Option Tmp) (f : FuncId) (x y l : List AV) : callV C me d (.fn (.func f) x y) l = callI C me f d (x ++ l ++ y) := rfl
@[go_sem] theorem loadI_ro (P : Program) (H : Heap) (t : TypeId) (z : AV) (k : Nat) : loadI P H t (.ro z k) = partOf P t z.cells k := rfl
@[go_sem] theorem loadI_ptr (P : Program) (H : Heap) (t : TypeId) (b v k : Nat) : loadI P H t (.ptr b v k) = if b < H.size then rowPart P t k (H.row b v) else none := rfl
@[go_sem] theorem lenI_v (P : Program) (ts : List TypeId) (x : Value) (r : List AV) : lenI P ts (.v x :: r) = lenA P { objs := [],lock := 0 } ts (.v x :: r) := rfl
theorem SlOf.slice {P : Program} {t et sz : Nat} (hu : P.underlying t = some (.slice et)) (hs : sizeT P et = some sz) {xs : List AV} {x : AV} (h : SlOf sz xs x) (j : Nat) (hj : j ≤ xs.length) : ∃ y,sliceI P t x none (some (.v (.int .i64 j))) none = some y ∧ SlOf sz (xs.take j) y := by
 rcases h with ⟨rfl,rfl⟩ | ⟨cap,rfl⟩
 ·have : j = 0 := by simpa using hj
  subst this
  refine ⟨.v (.slice none 0 0), ?_,Or.inl ⟨rfl,rfl⟩⟩
  unfold sliceI sliceA
  simp [hu,hs,boundA]
 ·refine ⟨.vs sz (xs.take j) (capOf none xs.length 0 cap), ?_,Or.inr ⟨_,rfl⟩⟩
  have h1 : (0 : Int) ≤ (j : Int) ∧ (j : Int) ≤ (xs.length : Int) := by omega
  unfold sliceI sliceA
  simp [hu,hs,boundA,h1]
theorem SlOf.lenI {sz : Nat} {xs : List AV} {x : AV} (h : SlOf sz xs x) (P : Program) (ts : List TypeId) (r : List AV) : lenI P ts (x :: r) = lenA P { objs := [],lock := 0 } ts (x :: r) := by
 rcases h with ⟨rfl,rfl⟩ | ⟨cap,rfl⟩ <;> rfl
end
end Go.Ev
namespace Go.Ev
open Go.Proofs
def impF : List Nat := [91,125,130,141,142,150,159,163,165,167,184]
def impC : List (Nat × Nat × Nat) := []
def altF : List Nat := [72]
def keepF : Nat → List Nat
 | 2 => []
 | 3 => [0,1,2,4,6,3,36,9,5,10,11,13,12,14,15,17,16,18,19,21,20,22,23,25,24,26,8]
 | 4 => [42,1,3,5,7,9,11,13,15,17,19,21,23,22,0]
 | 5 => [0,1,3,4,7,35,9,11,8,10,63,66,65,67,64,12,14,15,17,13,16,100,19,21,18,20,129,2,22,24,23,26,25,6]
 | 6 => [0,1,3,4,7,31,2,8,9,11,10,63,13,14,76,16,81,12,89,88,90,87,17,19,100,21,110,116,124,20,22,151,15,6]
 | 7 => [0,1,4,5,9,31,2,3,12,10,11,14,16,13,15,90,18,19,103,20,21,22,17,125,8]
 | 8 => [0,1,3,4,7,26,2,9,35,36,37,11,8,13,12,58,10,14,65,66,64,17,15,103,6]
 | 9 => [0,1,4,5,9,40,2,3,10,12,14,11,13,15,17,19,21,23,25,22,24,135,18,138,137,139,136,26,20,28,146,150,149,151,148,30,158,16,31,8]
 | 10 => [0,1,5,6,11,44,13,12,56,2,3,4,16,17,18,19,20,21,22,26,24,15,23,25,27,29,31,14,28,166,169,32,33,35,191,30,34,10]
 | 11 => [0,1,4,5,9,45,2,3,11,13,15,74,10,12,17,97,16,99,19,14,18,23,22,21,20,8]
 | 12 => [0,1,2,4,6,5,9,42,3,10,11,13,15,72,19,88,17,14,12,18,21,20,126,130,129,131,128,23,139,16,8]
 | 13 => [0,1,2,3,4,5,24,23,25,22,9,34,7,11,13,15,17,10,12,96,14,16,6]
 | 14 => [0,1,2,3,4,5,7,34,9,13,11,71,73,8,12,85,84,86,83,14,16,97,98,10,109,123,140,6]
 | 15 => [0,1,9,3,14,24,4,33,46,5,58,74,2]
 | 16 => [0,1,2]
 | 17 => [0,6,3,10,17,2]
 | 18 => [0,4,1,11,6,29,5,3,2]
 | 19 => [0,1,2,3,4,8,17,5,9,23,11,33,12,39,45,51,6,7]
 | 20 => [0,1,2,3,4,8,14,5,18,23,9,29,35,41,6,7]
 | 21 => [0,1,2,6,14,3,7,20,26,25,27,24,8,10,4,5]
 | 22 => [0,1,2,6,20,3,24,11,7,9,13,52,16,14,67,78,12,15,4,5]
 | 23 => [0,1,3,4,8,23,2,9,28,10,36,35,37,34,11,13,45,44,46,43,15,54,53,55,52,18,60,16,6,7]
 | 24 => [0,1,3,4,9,22,2,10,27,12,8,32,14,38,13,54,11,6,7]
 | 25 => [0,4,10,14,13,15,6,24,5,2,3]
 | 26 => [0,4,12,6,17,8,22,7,37,5,2,3]
 | 27 => [0,1,10,5,14,25,4]
 | 28 => [0,1,10,5,14,25,4]
 | 29 => [0,1,2,3,15,5,20,6,7,46,8,51,65,4]
 | 30 => [0,1,10,5,14,25,4]
 | 31 => [3,2,1,4,6,5,8,7,10,9,12,11,14,13,16,15,0]
 | 32 => [0,1,5,12,11,2,3,4,10]
 | 33 => [0,1,2,6]
 | 34 => [0]
 | 35 => [0,1,2,3,4,5,9,21,6,8,25,31,30,32,29,12,56,58,59,10,65,7]
 | 36 => [0]
 | 37 => [0,1,2,3,4,8,15,6,5,10,25,7]
 | 38 => [0,2]
 | 39 => [0,1,2,3,4,5,10,18,6,12,27,7,36,13,11,40,8,9]
 | 40 => [0,1,2,3,6,12,4,5]
 | 41 => [0,1,5,2]
 | 42 => [0,1,2,3,4]
 | 43 => [0,1,2,3,6,11,4,5]
 | 44 => [0,1,5,13,4,16,17,18,6,2,3]
 | 45 => [0,1,2,7,16,4,5,6,20,21,22,8,3,25,9]
 | 46 => [0,1,2,7,14,6,3,19,4,5]
 | 47 => [0,2,7,6,20,4,1,8,9,5]
 | 48 => [0,1,4,6,2]
 | 49 => [0,1,15,14,16,13,5,20,3,2]
 | 50 => [0,2,1,9,8,20,10,29,6,7,4,5]
 | 51 => [0,7,9,11,10,5,14,3,2]
 | 52 => [0,7,9,8,5,4,17,3,2]
 | 53 => [0,1,2,4,3]
 | 54 => [0,2,7,14,1,18,6,4,5]
 | 55 => [1,0,9,8,10,7,6,3,15,4]
 | 56 => [0,1,12,3,17,4,35,5,38,49,6,54,64,7,72,84,2]
 | 57 => [0,1,7,3,12,22,2]
 | 58 => [0,1,3,18,5,23,2,6,34,70,7,75,8,86,96,4]
 | 59 => [0,1,2,3,7,15,4,6,5]
 | 60 => [0,1,2,3,4,9,19,8,5,24,28,27,29,26,11,40,6,7]
 | 61 => [0,1,2,3,9,19,4]
 | 62 => [0,1,2,3,6,5,4]
 | 63 => [0,1,2,5,9,3,4]
 | 64 => [0,7,6,8,5,4,26,2]
 | 65 => [0,1,2,3,4,5,7,6]
 | 66 => [0,1,2,5,9,3,4]
 | 67 => [0,1,2,3,5,8,9,7,13,38,14,45,15,4,12,62,10,11,18,105,107,114,17,16,121,6]
 | 68 => [0,1,4,2]
 | 69 => [0,1,2,10,9,11,5,3,6,4]
 | 70 => [0,1,3,5,2,6,28,27,29,8,40,7,4]
 | 71 => [0,1,5,2]
 | 72 => [0,8,11,5,16,22,4,6,42,50,2,3]
 | 73 => [0,1,10,5,14,25,4]
 | 74 => [0,5,2]
 | 75 => [0,1,2,3,13,12,14,11,7,20,19,21,5,8,4]
 | 76 => [0,1,2,3,6,14,9,8,21,7,4,5]
 | 77 => [0,6,3,10,18,2]
 | 78 => [1,0,3,4]
 | 79 => [0,1,2,7,16,4,5,6,19,20,21,9,3,24,8]
 | 80 => [0,8,7,9,6,5,3,14,2]
 | 81 => [0,1,4]
 | 82 => [0,1,2,3,4]
 | 83 => [0,1,2]
 | 84 => [0,1,2]
 | 85 => [0,1,6,2,3]
 | 86 => [0,1,2]
 | 87 => [0,1,3,2,4]
 | 88 => [0,1,3,2,13,5,27,4]
 | 89 => [3,0,7,19,2]
 | 90 => [0,9,12,11,13,3,24,2]
 | 91 => [0,1,8,9,10,3,5,4,2]
 | 92 => [0,1,2,6]
 | 93 => [0,1,2,3,6,15,17,18,5,32,45,4]
 | 94 => [0,1,4,2,3,11,10,27,33,13,5,42,14,68,71,9,12,80,8]
 | 95 => [0,1,2,7,14,4,6,3,20,5]
 | 96 => [0,1,2,15,14,16,13,5,7,29,30,31,8,10,9,3,4]
 | 97 => [0,1,3,2,28,4,5]
 | 98 => [0,2]
 | 99 => [0,5,2,8,10,11,3,14]
 | 100 => [0,1,4,3,2,21,20,22,19,9,28,27,29,26,7,11,8,10,6]
 | 101 => [0,2,1,5,4]
 | 102 => [1,0,8,7,9,3,5,16,4]
 | 103 => [0,1,5,2]
 | 104 => [1,0,5,3,11,4]
 | 105 => [0,4,11,3,2]
 | 106 => [4,0,8,12,3,2]
 | 107 => [6,0,16,5,7,3,4,8,37,12,53,60,66,9,10,11,91,98,2]
 | 108 => [0,11,10,12,9,3,5,20,27,26,28,25,6,8,2]
 | 109 => [0,1,10,13,12,14,5,24,4]
 | 110 => [0,4,1,11,5,22,6,36,3,2]
 | 111 => [1,0,8,7,9,3,5,16,4]
 | 112 => [0,1,4]
 | 113 => [0,1,5,11,6,12,13,16,19,4]
 | 114 => [0,1,9,8,10,7,6,2,22,4]
 | 115 => [0,1,2,6]
 | 116 => [0,1,11,15,14,16,13,4,3,38,2]
 | 117 => [0,1,8,9,10,4,13,12,14,11,5,3,2,6,24]
 | 118 => [0,1,2]
 | 119 => [1,0,4]
 | 120 => [0,1,9,8,10,7,6,2,22,4]
 | 121 => [0,1,3,2,30,35,36,37,5,7,4]
 | 122 => [0,1,15,14,16,13,6,8,9,5,4]
 | 123 => [1,0,11,10,12,9,7,8,3,24,5,4]
 | 124 => [0,1,12,21,6,34,5,4]
 | 125 => [0,1,4]
 | 126 => [0,2,1,5,4]
 | 127 => [0,12,13,15,1,22,29,5,41,40,42,39,7,49,8,65,64,66,63,10,4]
 | 128 => [0,14,16,15,1,8,21,6,23,5,7,33,36,49,48,50,47,9,10,11,4]
 | 129 => [0,5,6,7,2]
 | 130 => [1,6,0,16,4]
 | 132 => [0,2]
 | 133 => [0,2]
 | 134 => [1,0,3,4]
 | 135 => [0,12,15,14,16,4,25,31,30,32,29,6,37,3,2]
 | 136 => [1,10,9,11,8,4,18,17,19,0,3,5,31]
 | 137 => [0,1,12,11,13,10,2,7,8,5,42,4]
 | 138 => [3,0,9,4,5,38,2]
 | 139 => [0,2]
 | 140 => [0]
 | 141 => [0,2,1,4]
 | 142 => [0,2,1,4]
 | 143 => [0,1,13,4]
 | 144 => [0,1,16,4]
 | 145 => [4,0,9,5,16,2,3]
 | 146 => [0,7,1,12,4]
 | 147 => [0,7,1,15,4]
 | 148 => [0,9,1,5,18,6,4]
 | 149 => [0,9,5,17,1,26,6,4]
 | 150 => [0,1,2,4,3,5,6]
 | 151 => [0]
 | 152 => [1,0,8,9,6,3,7,5,17,4]
 | 153 => [0,1,3,2,4]
 | 154 => [0,1,3,4,10,2,5]
 | 155 => [0,1,7,21]
 | 156 => [0,1,4,5]
 | 157 => [0,2]
 | 158 => [0,5,6,1,32,7,54,4]
 | 159 => [0,1,4]
 | 160 => [0,2,1,3]
 | 161 => [0,1,2,3,4]
 | 162 => [1,3,0,4]
 | 163 => [0,2,4]
 | 164 => [1,0,3,4]
 | 165 => [0,2,1,4]
 | 166 => [1,3,0,4]
 | 167 => [0,2,1,4]
 | 168 => [0,1,4]
 | 169 => [0,10,2,3]
 | 170 => [0,1,4]
 | 171 => [0,4,10,5,2,18,6,27,33,35,3,48]
 | 172 => [1,11,2,14,0,6,25,7,33,3,8,42]
 | 173 => [0,1,4]
 | 174 => [0,1,2,3,4]
 | 175 => [0,1,2,3,4]
 | 176 => [0,1,2,3,9,4]
 | 177 => [0,1,2]
 | 178 => [1,10,9,11,4,2,5,28,27,29,7,32,6,46,0,53]
 | 179 => [0,6,1,4]
 | 180 => [0,6,19]
 | 181 => [0,1,4]
 | 182 => [0,1,17,20,19,21,5,6,31,37,7,8,62,9,10,85,110,4]
 | 183 => [0,13,16,15,17,5,1,6,27,33,7,8,58,9,10,78,95,4]
 | 184 => [0,8,7,9,1,5,16,4]
 | 185 => [0,4,16,5,6,23,7,8,45,10,9,57,59,11,75,77,12,98,2,3]
 | 186 => [1,160,0,171,175,177,176,6,181,5,183,7,8,9,26,33,11,43,12,51,64,10,98,13,108,124,14,15,139,16,143,156,4]
 | 187 => [0,2]
 | 188 => [1,5,0,16,24,31,36,8,9,59,6,64,11,73,7,93,10,107,12,114,132,13,139,4]
 | 191 => [0,1,4]
 | 192 => [0,3,10,2]
 | 193 => [0,2]
 | 195 => [0,1,4]
 | 196 => [1,9,7,20,8,0,5,39,10,44,6,77,4]
 | 198 => [5,0,12,4,8,25,30,6,7,2,3]
 | 226 => []
 | _ => []
def pureF (h g : Nat) (d : Option Nat) : Bool := !(impF.contains g) && !(impC.contains (h,g,d.getD 100000))
structure Exts where
 x : FuncId → Option (List AV → Option AV)
def Exts.more (e : Exts) (f : FuncId) (g : List AV → Option AV) : Exts := { e with x := fun h => if Nat.beq h f then some g else e.x h }
noncomputable def Cx (e : Exts) : Cfg := { P := Tryz.prog,pure := pureF,alter := fun h _ => altF.contains h,keep := keepF,ext := e.x }
def Quiet (e : Exts) : Prop := ∀ f,f ≠ 31 → f ≠ 131 → f ≠ 127 → f ≠ 197 → f ≠ 107 → e.x f = none
@[go_sem] theorem Cx_P (e : Exts) : (Cx e).P = Tryz.prog := rfl
@[go_sem] theorem frz_none (e : Exts) (me : FuncId) (d : Option Tmp) : (Cx e).frz me d = false := rfl
theorem size_3 : sizeT Tryz.prog 3 = some 1 := by kernel_rfl
theorem size_4 : sizeT Tryz.prog 4 = some 1 := by kernel_rfl
theorem size_5 : sizeT Tryz.prog 5 = some 1 := by kernel_rfl
theorem size_9 : sizeT Tryz.prog 9 = some 1 := by kernel_rfl
theorem size_22 : sizeT Tryz.prog 22 = some 1 := by kernel_rfl
theorem size_24 : sizeT Tryz.prog 24 = some 1 := by kernel_rfl
theorem size_26 : sizeT Tryz.prog 26 = some 2 := by kernel_rfl
theorem size_28 : sizeT Tryz.prog 28 = some 3 := by kernel_rfl
theorem size_30 : sizeT Tryz.prog 30 = some 6 := by kernel_rfl
theorem size_41 : sizeT Tryz.prog 41 = some 1 := by kernel_rfl
theorem size_87 : sizeT Tryz.prog 87 = some 1 := by kernel_rfl
theorem size_110 : sizeT Tryz.prog 110 = some 1 := by kernel_rfl
theorem size_112 : sizeT Tryz.prog 112 = some 2 := by kernel_rfl
theorem size_121 : sizeT Tryz.prog 121 = some 4 := by kernel_rfl
theorem size_140 : sizeT Tryz.prog 140 = some 1 := by kernel_rfl
theorem size_184 : sizeT Tryz.prog 184 = some 3 := by kernel_rfl
theorem size_209 : sizeT Tryz.prog 209 = some 256 := by kernel_rfl
theorem size_215 : sizeT Tryz.prog 215 = some 1 := by kernel_rfl
theorem size_217 : sizeT Tryz.prog 217 = some 1 := by kernel_rfl
theorem size_218 : sizeT Tryz.prog 218 = some 4 := by kernel_rfl
@[go_sem] theorem zero_3 : zeroT Tryz.prog 3 = some (.v (.int .i64 0)) := by kernel_rfl
@[go_sem] theorem zero_4 : zeroT Tryz.prog 4 = some (.v (.bool false)) := by kernel_rfl
@[go_sem] theorem zero_9 : zeroT Tryz.prog 9 = some (.v (.string ⟨#[]⟩)) := by kernel_rfl
@[go_sem] theorem zero_28 : zeroT Tryz.prog 28 = some (.agg [.v (.int .i64 0),.v (.int .i64 0),.v (.int .i64 0)]) := by kernel_rfl
@[go_sem] theorem zero_30 : zeroT Tryz.prog 30 = some (.agg [.v (.int .i64 0),.v (.int .i64 0),.v (.int .i64 0),.v (.string ⟨#[]⟩),.v (.string ⟨#[]⟩),.v (.string ⟨#[]⟩)]) := by kernel_rfl
@[go_sem] theorem zero_87 : zeroT Tryz.prog 87 = some (.v (.slice none 0 0)) := by kernel_rfl
@[go_sem] theorem zero_112 : zeroT Tryz.prog 112 = some (.agg [.v (.int .i64 0),.v (.slice none 0 0)]) := by kernel_rfl
@[go_sem] theorem zero_121 : zeroT Tryz.prog 121 = some (.agg [.v (.int .i64 0),.v (.int .u8 0),.v (.slice none 0 0),.v (.slice none 0 0)]) := by kernel_rfl
@[go_sem] theorem zero_140 : zeroT Tryz.prog 140 = some (.agg [.v (.slice none 0 0)]) := by kernel_rfl
@[go_sem] theorem zero_184 : zeroT Tryz.prog 184 = some (.agg [.v (.int .i64 0),.v (.int .i64 0),.v (.int .i64 0)]) := by kernel_rfl
@[go_sem] theorem zero_217 : zeroT Tryz.prog 217 = some (.agg [.v .nilFunc]) := by kernel_rfl
@[go_sem] theorem zero_218 : zeroT Tryz.prog 218 = some (.agg [.v .nilFunc,.v .nilFunc,.v .nilFunc,.v .nilFunc]) := by kernel_rfl
@[go_sem] theorem keep_14 (e : Exts) : (Cx e).keep 14 = [0,1,2,3,4,5,7,34,9,13,11,71,73,8,12,85,84,86,83,14,16,97,98,10,109,123,140,6] := rfl
theorem fn_14 (e : Exts) : (Cx e).P.funcs[14]? = some Tryz.f14 := Tryz.func14
@[go_sem] theorem keep_15 (e : Exts) : (Cx e).keep 15 = [0,1,9,3,14,24,4,33,46,5,58,74,2] := rfl
theorem fn_15 (e : Exts) : (Cx e).P.funcs[15]? = some Tryz.f15 := Tryz.func15
theorem ext_15 {e : Exts} (he : Quiet e) : (Cx e).ext 15 = none := he _ (by decide) (by decide) (by decide) (by decide) (by decide)
theorem pure_15 (e : Exts) (h : FuncId) (d : Option Tmp) : (Cx e).pure h 15 d = true := by simp [Cx,pureF,impF,impC]
@[go_sem] theorem keep_16 (e : Exts) : (Cx e).keep 16 = [0,1,2] := rfl
theorem fn_16 (e : Exts) : (Cx e).P.funcs[16]? = some Tryz.f16 := Tryz.func16
theorem ext_16 {e : Exts} (he : Quiet e) : (Cx e).ext 16 = none := he _ (by decide) (by decide) (by decide) (by decide) (by decide)
theorem pure_16 (e : Exts) (h : FuncId) (d : Option Tmp) : (Cx e).pure h 16 d = true := by simp [Cx,pureF,impF,impC]
@[go_sem] theorem keep_19 (e : Exts) : (Cx e).keep 19 = [0,1,2,3,4,8,17,5,9,23,11,33,12,39,45,51,6,7] := rfl
@[go_sem] theorem alter_19 (e : Exts) (d : Option Tmp) : (Cx e).alter 19 d = false := rfl
theorem fn_19 (e : Exts) : (Cx e).P.funcs[19]? = some Tryz.f19 := Tryz.func19
theorem ext_19 {e : Exts} (he : Quiet e) : (Cx e).ext 19 = none := he _ (by decide) (by decide) (by decide) (by decide) (by decide)
theorem pure_19 (e : Exts) (h : FuncId) (d : Option Tmp) : (Cx e).pure h 19 d = true := by simp [Cx,pureF,impF,impC]
@[go_sem] theorem keep_21 (e : Exts) : (Cx e).keep 21 = [0,1,2,6,14,3,7,20,26,25,27,24,8,10,4,5] := rfl
@[go_sem] theorem alter_21 (e : Exts) (d : Option Tmp) : (Cx e).alter 21 d = false := rfl
theorem fn_21 (e : Exts) : (Cx e).P.funcs[21]? = some Tryz.f21 := Tryz.func21
theorem ext_21 {e : Exts} (he : Quiet e) : (Cx e).ext 21 = none := he _ (by decide) (by decide) (by decide) (by decide) (by decide)
theorem pure_21 (e : Exts) (h : FuncId) (d : Option Tmp) : (Cx e).pure h 21 d = true := by simp [Cx,pureF,impF,impC]
@[go_sem] theorem keep_37 (e : Exts) : (Cx e).keep 37 = [0,1,2,3,4,8,15,6,5,10,25,7] := rfl
theorem fn_37 (e : Exts) : (Cx e).P.funcs[37]? = some Tryz.f37 := Tryz.func37
theorem ext_37 {e : Exts} (he : Quiet e) : (Cx e).ext 37 = none := he _ (by decide) (by decide) (by decide) (by decide) (by decide)
theorem pure_37 (e : Exts) (h : FuncId) (d : Option Tmp) : (Cx e).pure h 37 d = true := by simp [Cx,pureF,impF,impC]
@[go_sem] theorem keep_41 (e : Exts) : (Cx e).keep 41 = [0,1,5,2] := rfl
theorem fn_41 (e : Exts) : (Cx e).P.funcs[41]? = some Tryz.f41 := Tryz.func41
theorem ext_41 {e : Exts} (he : Quiet e) : (Cx e).ext 41 = none := he _ (by decide) (by decide) (by decide) (by decide) (by decide)
theorem pure_41 (e : Exts) (h : FuncId) (d : Option Tmp) : (Cx e).pure h 41 d = true := by simp [Cx,pureF,impF,impC]
@[go_sem] theorem keep_42 (e : Exts) : (Cx e).keep 42 = [0,1,2,3,4] := rfl
theorem fn_42 (e : Exts) : (Cx e).P.funcs[42]? = some Tryz.f42 := Tryz.func42
theorem ext_42 {e : Exts} (he : Quiet e) : (Cx e).ext 42 = none := he _ (by decide) (by decide) (by decide) (by decide) (by decide)
theorem pure_42 (e : Exts) (h : FuncId) (d : Option Tmp) : (Cx e).pure h 42 d = true := by simp [Cx,pureF,impF,impC]
@[go_sem] theorem keep_46 (e : Exts) : (Cx e).keep 46 = [0,1,2,7,14,6,3,19,4,5] := rfl
theorem fn_46 (e : Exts) : (Cx e).P.funcs[46]? = some Tryz.f46 := Tryz.func46
theorem ext_46 {e : Exts} (he : Quiet e) : (Cx e).ext 46 = none := he _ (by decide) (by decide) (by decide) (by decide) (by decide)
theorem pure_46 (e : Exts) (h : FuncId) (d : Option Tmp) : (Cx e).pure h 46 d = true := by simp [Cx,pureF,impF,impC]
@[go_sem] theorem keep_48 (e : Exts) : (Cx e).keep 48 = [0,1,4,6,2] := rfl
theorem fn_48 (e : Exts) : (Cx e).P.funcs[48]? = some Tryz.f48 := Tryz.func48
theorem ext_48 {e : Exts} (he : Quiet e) : (Cx e).ext 48 = none := he _ (by decide) (by decide) (by decide) (by decide) (by decide)
theorem pure_48 (e : Exts) (h : FuncId) (d : Option Tmp) : (Cx e).pure h 48 d = true := by simp [Cx,pureF,impF,impC]
@[go_sem] theorem keep_56 (e : Exts) : (Cx e).keep 56 = [0,1,12,3,17,4,35,5,38,49,6,54,64,7,72,84,2] := rfl
theorem fn_56 (e : Exts) : (Cx e).P.funcs[56]? = some Tryz.f56 := Tryz.func56
theorem ext_56 {e : Exts} (he : Quiet e) : (Cx e).ext 56 = none := he _ (by decide) (by decide) (by decide) (by decide) (by decide)
theorem pure_56 (e : Exts) (h : FuncId) (d : Option Tmp) : (Cx e).pure h 56 d = true := by simp [Cx,pureF,impF,impC]
@[go_sem] theorem keep_62 (e : Exts) : (Cx e).keep 62 = [0,1,2,3,6,5,4] := rfl
theorem fn_62 (e : Exts) : (Cx e).P.funcs[62]? = some Tryz.f62 := Tryz.func62
theorem ext_62 {e : Exts} (he : Quiet e) : (Cx e).ext 62 = none := he _ (by decide) (by decide) (by decide) (by decide) (by decide)
theorem pure_62 (e : Exts) (h : FuncId) (d : Option Tmp) : (Cx e).pure h 62 d = true := by simp [Cx,pureF,impF,impC]
@[go_sem] theorem keep_63 (e : Exts) : (Cx e).keep 63 = [0,1,2,5,9,3,4] := rfl
theorem fn_63 (e : Exts) : (Cx e).P.funcs[63]? = some Tryz.f63 := Tryz.func63
theorem ext_63 {e : Exts} (he : Quiet e) : (Cx e).ext 63 = none := he _ (by decide) (by decide) (by decide) (by decide) (by decide)
theorem pure_63 (e : Exts) (h : FuncId) (d : Option Tmp) : (Cx e).pure h 63 d = true := by simp [Cx,pureF,impF,impC]
@[go_sem] theorem keep_64 (e : Exts) : (Cx e).keep 64 = [0,7,6,8,5,4,26,2] := rfl
theorem fn_64 (e : Exts) : (Cx e).P.funcs[64]? = some Tryz.f64 := Tryz.func64
theorem ext_64 {e : Exts} (he : Quiet e) : (Cx e).ext 64 = none := he _ (by decide) (by decide) (by decide) (by decide) (by decide)
theorem pure_64 (e : Exts) (h : FuncId) (d : Option Tmp) : (Cx e).pure h 64 d = true := by simp [Cx,pureF,impF,impC]
@[go_sem] theorem keep_65 (e : Exts) : (Cx e).keep 65 = [0,1,2,3,4,5,7,6] := rfl
theorem fn_65 (e : Exts) : (Cx e).P.funcs[65]? = some Tryz.f65 := Tryz.func65
theorem ext_65 {e : Exts} (he : Quiet e) : (Cx e).ext 65 = none := he _ (by decide) (by decide) (by decide) (by decide) (by decide)
theorem pure_65 (e : Exts) (h : FuncId) (d : Option Tmp) : (Cx e).pure h 65 d = true := by simp [Cx,pureF,impF,impC]
@[go_sem] theorem keep_68 (e : Exts) : (Cx e).keep 68 = [0,1,4,2] := rfl
theorem fn_68 (e : Exts) : (Cx e).P.funcs[68]? = some Tryz.f68 := Tryz.func68
theorem ext_68 {e : Exts} (he : Quiet e) : (Cx e).ext 68 = none := he _ (by decide) (by decide) (by decide) (by decide) (by decide)
theorem pure_68 (e : Exts) (h : FuncId) (d : Option Tmp) : (Cx e).pure h 68 d = true := by simp [Cx,pureF,impF,impC]
@[go_sem] theorem keep_69 (e : Exts) : (Cx e).keep 69 = [0,1,2,10,9,11,5,3,6,4] := rfl
@[go_sem] theorem alter_69 (e : Exts) (d : Option Tmp) : (Cx e).alter 69 d = false := rfl
theorem fn_69 (e : Exts) : (Cx e).P.funcs[69]? = some Tryz.f69 := Tryz.func69
theorem ext_69 {e : Exts} (he : Quiet e) : (Cx e).ext 69 = none := he _ (by decide) (by decide) (by decide) (by decide) (by decide)
theorem pure_69 (e : Exts) (h : FuncId) (d : Option Tmp) : (Cx e).pure h 69 d = true := by simp [Cx,pureF,impF,impC]
@[go_sem] theorem keep_70 (e : Exts) : (Cx e).keep 70 = [0,1,3,5,2,6,28,27,29,8,40,7,4] := rfl
@[go_sem] theorem alter_70 (e : Exts) (d : Option Tmp) : (Cx e).alter 70 d = false := rfl
theorem fn_70 (e : Exts) : (Cx e).P.funcs[70]? = some Tryz.f70 := Tryz.func70
theorem ext_70 {e : Exts} (he : Quiet e) : (Cx e).ext 70 = none := he _ (by decide) (by decide) (by decide) (by decide) (by decide)
theorem pure_70 (e : Exts) (h : FuncId) (d : Option Tmp) : (Cx e).pure h 70 d = true := by simp [Cx,pureF,impF,impC]
@[go_sem] theorem keep_72 (e : Exts) : (Cx e).keep 72 = [0,8,11,5,16,22,4,6,42,50,2,3] := rfl
@[go_sem] theorem alter_72 (e : Exts) (d : Option Tmp) : (Cx e).alter 72 d = true := rfl
theorem fn_72 (e : Exts) : (Cx e).P.funcs[72]? = some Tryz.f72 := Tryz.func72
theorem ext_72 {e : Exts} (he : Quiet e) : (Cx e).ext 72 = none := he _ (by decide) (by decide) (by decide) (by decide) (by decide)
theorem pure_72 (e : Exts) (h : FuncId) (d : Option Tmp) : (Cx e).pure h 72 d = true := by simp [Cx,pureF,impF,impC]
@[go_sem] theorem keep_83 (e : Exts) : (Cx e).keep 83 = [0,1,2] := rfl
@[go_sem] theorem alter_83 (e : Exts) (d : Option Tmp) : (Cx e).alter 83 d = false := rfl
theorem fn_83 (e : Exts) : (Cx e).P.funcs[83]? = some Tryz.f83 := Tryz.func83
theorem ext_83 {e : Exts} (he : Quiet e) : (Cx e).ext 83 = none := he _ (by decide) (by decide) (by decide) (by decide) (by decide)
theorem pure_83 (e : Exts) (h : FuncId) (d : Option Tmp) : (Cx e).pure h 83 d = true := by simp [Cx,pureF,impF,impC]
@[go_sem] theorem keep_84 (e : Exts) : (Cx e).keep 84 = [0,1,2] := rfl
theorem fn_84 (e : Exts) : (Cx e).P.funcs[84]? = some Tryz.f84 := Tryz.func84
theorem ext_84 {e : Exts} (he : Quiet e) : (Cx e).ext 84 = none := he _ (by decide) (by decide) (by decide) (by decide) (by decide)
theorem pure_84 (e : Exts) (h : FuncId) (d : Option Tmp) : (Cx e).pure h 84 d = true := by simp [Cx,pureF,impF,impC]
@[go_sem] theorem keep_85 (e : Exts) : (Cx e).keep 85 = [0,1,6,2,3] := rfl
theorem fn_85 (e : Exts) : (Cx e).P.funcs[85]? = some Tryz.f85 := Tryz.func85
theorem ext_85 {e : Exts} (he : Quiet e) : (Cx e).ext 85 = none := he _ (by decide) (by decide) (by decide) (by decide) (by decide)
theorem pure_85 (e : Exts) (h : FuncId) (d : Option Tmp) : (Cx e).pure h 85 d = true := by simp [Cx,pureF,impF,impC]
@[go_sem] theorem keep_87 (e : Exts) : (Cx e).keep 87 = [0,1,3,2,4] := rfl
theorem fn_87 (e : Exts) : (Cx e).P.funcs[87]? = some Tryz.f87 := Tryz.func87
theorem ext_87 {e : Exts} (he : Quiet e) : (Cx e).ext 87 = none := he _ (by decide) (by decide) (by decide) (by decide) (by decide)
theorem pure_87 (e : Exts) (h : FuncId) (d : Option Tmp) : (Cx e).pure h 87 d = true := by simp [Cx,pureF,impF,impC]
@[go_sem] theorem keep_88 (e : Exts) : (Cx e).keep 88 = [0,1,3,2,13,5,27,4] := rfl
theorem fn_88 (e : Exts) : (Cx e).P.funcs[88]? = some Tryz.f88 := Tryz.func88
theorem ext_88 {e : Exts} (he : Quiet e) : (Cx e).ext 88 = none := he _ (by decide) (by decide) (by decide) (by decide) (by decide)
theorem pure_88 (e : Exts) (h : FuncId) (d : Option Tmp) : (Cx e).pure h 88 d = true := by simp [Cx,pureF,impF,impC]
@[go_sem] theorem keep_89 (e : Exts) : (Cx e).keep 89 = [3,0,7,19,2] := rfl
theorem fn_89 (e : Exts) : (Cx e).P.funcs[89]? = some Tryz.f89 := Tryz.func89
theorem ext_89 {e : Exts} (he : Quiet e) : (Cx e).ext 89 = none := he _ (by decide) (by decide) (by decide) (by decide) (by decide)
theorem pure_89 (e : Exts) (h : FuncId) (d : Option Tmp) : (Cx e).pure h 89 d = true := by simp [Cx,pureF,impF,impC]
@[go_sem] theorem keep_90 (e : Exts) : (Cx e).keep 90 = [0,9,12,11,13,3,24,2] := rfl
@[go_sem] theorem alter_90 (e : Exts) (d : Option Tmp) : (Cx e).alter 90 d = false := rfl
theorem fn_90 (e : Exts) : (Cx e).P.funcs[90]? = some Tryz.f90 := Tryz.func90
theorem ext_90 {e : Exts} (he : Quiet e) : (Cx e).ext 90 = none := he _ (by decide) (by decide) (by decide) (by decide) (by decide)
theorem pure_90 (e : Exts) (h : FuncId) (d : Option Tmp) : (Cx e).pure h 90 d = true := by simp [Cx,pureF,impF,impC]
@[go_sem] theorem keep_92 (e : Exts) : (Cx e).keep 92 = [0,1,2,6] := rfl
theorem fn_92 (e : Exts) : (Cx e).P.funcs[92]? = some Tryz.f92 := Tryz.func92
theorem ext_92 {e : Exts} (he : Quiet e) : (Cx e).ext 92 = none := he _ (by decide) (by decide) (by decide) (by decide) (by decide)
theorem pure_92 (e : Exts) (h : FuncId) (d : Option Tmp) : (Cx e).pure h 92 d = true := by simp [Cx,pureF,impF,impC]
@[go_sem] theorem keep_97 (e : Exts) : (Cx e).keep 97 = [0,1,3,2,28,4,5] := rfl
theorem fn_97 (e : Exts) : (Cx e).P.funcs[97]? = some Tryz.f97 := Tryz.func97
theorem ext_97 {e : Exts} (he : Quiet e) : (Cx e).ext 97 = none := he _ (by decide) (by decide) (by decide) (by decide) (by decide)
theorem pure_97 (e : Exts) (h : FuncId) (d : Option Tmp) : (Cx e).pure h 97 d = true := by simp [Cx,pureF,impF,impC]
@[go_sem] theorem keep_98 (e : Exts) : (Cx e).keep 98 = [0,2] := rfl
@[go_sem] theorem alter_98 (e : Exts) (d : Option Tmp) : (Cx e).alter 98 d = false := rfl
theorem fn_98 (e : Exts) : (Cx e).P.funcs[98]? = some Tryz.f98 := Tryz.func98
theorem ext_98 {e : Exts} (he : Quiet e) : (Cx e).ext 98 = none := he _ (by decide) (by decide) (by decide) (by decide) (by decide)
theorem pure_98 (e : Exts) (h : FuncId) (d : Option Tmp) : (Cx e).pure h 98 d = true := by simp [Cx,pureF,impF,impC]
@[go_sem] theorem keep_99 (e : Exts) : (Cx e).keep 99 = [0,5,2,8,10,11,3,14] := rfl
theorem fn_99 (e : Exts) : (Cx e).P.funcs[99]? = some Tryz.f99 := Tryz.func99
theorem ext_99 {e : Exts} (he : Quiet e) : (Cx e).ext 99 = none := he _ (by decide) (by decide) (by decide) (by decide) (by decide)
theorem pure_99 (e : Exts) (h : FuncId) (d : Option Tmp) : (Cx e).pure h 99 d = true := by simp [Cx,pureF,impF,impC]
@[go_sem] theorem keep_100 (e : Exts) : (Cx e).keep 100 = [0,1,4,3,2,21,20,22,19,9,28,27,29,26,7,11,8,10,6] := rfl
@[go_sem] theorem alter_100 (e : Exts) (d : Option Tmp) : (Cx e).alter 100 d = false := rfl
theorem fn_100 (e : Exts) : (Cx e).P.funcs[100]? = some Tryz.f100 := Tryz.func100
theorem ext_100 {e : Exts} (he : Quiet e) : (Cx e).ext 100 = none := he _ (by decide) (by decide) (by decide) (by decide) (by decide)
theorem pure_100 (e : Exts) (h : FuncId) (d : Option Tmp) : (Cx e).pure h 100 d = true := by simp [Cx,pureF,impF,impC]
@[go_sem] theorem keep_101 (e : Exts) : (Cx e).keep 101 = [0,2,1,5,4] := rfl
theorem fn_101 (e : Exts) : (Cx e).P.funcs[101]? = some Tryz.f101 := Tryz.func101
theorem ext_101 {e : Exts} (he : Quiet e) : (Cx e).ext 101 = none := he _ (by decide) (by decide) (by decide) (by decide) (by decide)
theorem pure_101 (e : Exts) (h : FuncId) (d : Option Tmp) : (Cx e).pure h 101 d = true := by simp [Cx,pureF,impF,impC]
@[go_sem] theorem keep_102 (e : Exts) : (Cx e).keep 102 = [1,0,8,7,9,3,5,16,4] := rfl
theorem fn_102 (e : Exts) : (Cx e).P.funcs[102]? = some Tryz.f102 := Tryz.func102
theorem ext_102 {e : Exts} (he : Quiet e) : (Cx e).ext 102 = none := he _ (by decide) (by decide) (by decide) (by decide) (by decide)
theorem pure_102 (e : Exts) (h : FuncId) (d : Option Tmp) : (Cx e).pure h 102 d = true := by simp [Cx,pureF,impF,impC]
@[go_sem] theorem keep_108 (e : Exts) : (Cx e).keep 108 = [0,11,10,12,9,3,5,20,27,26,28,25,6,8,2] := rfl
theorem fn_108 (e : Exts) : (Cx e).P.funcs[108]? = some Tryz.f108 := Tryz.func108
theorem ext_108 {e : Exts} (he : Quiet e) : (Cx e).ext 108 = none := he _ (by decide) (by decide) (by decide) (by decide) (by decide)
theorem pure_108 (e : Exts) (h : FuncId) (d : Option Tmp) : (Cx e).pure h 108 d = true := by simp [Cx,pureF,impF,impC]
@[go_sem] theorem keep_109 (e : Exts) : (Cx e).keep 109 = [0,1,10,13,12,14,5,24,4] := rfl
theorem fn_109 (e : Exts) : (Cx e).P.funcs[109]? = some Tryz.f109 := Tryz.func109
theorem ext_109 {e : Exts} (he : Quiet e) : (Cx e).ext 109 = none := he _ (by decide) (by decide) (by decide) (by decide) (by decide)
theorem pure_109 (e : Exts) (h : FuncId) (d : Option Tmp) : (Cx e).pure h 109 d = true := by simp [Cx,pureF,impF,impC]
@[go_sem] theorem keep_114 (e : Exts) : (Cx e).keep 114 = [0,1,9,8,10,7,6,2,22,4] := rfl
theorem fn_114 (e : Exts) : (Cx e).P.funcs[114]? = some Tryz.f114 := Tryz.func114
theorem ext_114 {e : Exts} (he : Quiet e) : (Cx e).ext 114 = none := he _ (by decide) (by decide) (by decide) (by decide) (by decide)
theorem pure_114 (e : Exts) (h : FuncId) (d : Option Tmp) : (Cx e).pure h 114 d = true := by simp [Cx,pureF,impF,impC]
@[go_sem] theorem keep_115 (e : Exts) : (Cx e).keep 115 = [0,1,2,6] := rfl
theorem fn_115 (e : Exts) : (Cx e).P.funcs[115]? = some Tryz.f115 := Tryz.func115
theorem ext_115 {e : Exts} (he : Quiet e) : (Cx e).ext 115 = none := he _ (by decide) (by decide) (by decide) (by decide) (by decide)
theorem pure_115 (e : Exts) (h : FuncId) (d : Option Tmp) : (Cx e).pure h 115 d = true := by simp [Cx,pureF,impF,impC]
@[go_sem] theorem keep_116 (e : Exts) : (Cx e).keep 116 = [0,1,11,15,14,16,13,4,3,38,2] := rfl
@[go_sem] theorem alter_116 (e : Exts) (d : Option Tmp) : (Cx e).alter 116 d = false := rfl
theorem fn_116 (e : Exts) : (Cx e).P.funcs[116]? = some Tryz.f116 := Tryz.func116
theorem ext_116 {e : Exts} (he : Quiet e) : (Cx e).ext 116 = none := he _ (by decide) (by decide) (by decide) (by decide) (by decide)
theorem pure_116 (e : Exts) (h : FuncId) (d : Option Tmp) : (Cx e).pure h 116 d = true := by simp [Cx,pureF,impF,impC]
@[go_sem] theorem keep_119 (e : Exts) : (Cx e).keep 119 = [1,0,4] := rfl
@[go_sem] theorem alter_119 (e : Exts) (d : Option Tmp) : (Cx e).alter 119 d = false := rfl
theorem fn_119 (e : Exts) : (Cx e).P.funcs[119]? = some Tryz.f119 := Tryz.func119
theorem ext_119 {e : Exts} (he : Quiet e) : (Cx e).ext 119 = none := he _ (by decide) (by decide) (by decide) (by decide) (by decide)
theorem pure_119 (e : Exts) (h : FuncId) (d : Option Tmp) : (Cx e).pure h 119 d = true := by simp [Cx,pureF,impF,impC]
@[go_sem] theorem keep_120 (e : Exts) : (Cx e).keep 120 = [0,1,9,8,10,7,6,2,22,4] := rfl
theorem fn_120 (e : Exts) : (Cx e).P.funcs[120]? = some Tryz.f120 := Tryz.func120
theorem ext_120 {e : Exts} (he : Quiet e) : (Cx e).ext 120 = none := he _ (by decide) (by decide) (by decide) (by decide) (by decide)
theorem pure_120 (e : Exts) (h : FuncId) (d : Option Tmp) : (Cx e).pure h 120 d = true := by simp [Cx,pureF,impF,impC]
@[go_sem] theorem keep_124 (e : Exts) : (Cx e).keep 124 = [0,1,12,21,6,34,5,4] := rfl
theorem fn_124 (e : Exts) : (Cx e).P.funcs[124]? = some Tryz.f124 := Tryz.func124
theorem ext_124 {e : Exts} (he : Quiet e) : (Cx e).ext 124 = none := he _ (by decide) (by decide) (by decide) (by decide) (by decide)
theorem pure_124 (e : Exts) (h : FuncId) (d : Option Tmp) : (Cx e).pure h 124 d = true := by simp [Cx,pureF,impF,impC]
@[go_sem] theorem keep_125 (e : Exts) : (Cx e).keep 125 = [0,1,4] := rfl
theorem fn_125 (e : Exts) : (Cx e).P.funcs[125]? = some Tryz.f125 := Tryz.func125
theorem ext_125 {e : Exts} (he : Quiet e) : (Cx e).ext 125 = none := he _ (by decide) (by decide) (by decide) (by decide) (by decide)
@[go_sem] theorem keep_126 (e : Exts) : (Cx e).keep 126 = [0,2,1,5,4] := rfl
theorem fn_126 (e : Exts) : (Cx e).P.funcs[126]? = some Tryz.f126 := Tryz.func126
theorem ext_126 {e : Exts} (he : Quiet e) : (Cx e).ext 126 = none := he _ (by decide) (by decide) (by decide) (by decide) (by decide)
theorem pure_126 (e : Exts) (h : FuncId) (d : Option Tmp) : (Cx e).pure h 126 d = true := by simp [Cx,pureF,impF,impC]
@[go_sem] theorem keep_130 (e : Exts) : (Cx e).keep 130 = [1,6,0,16,4] := rfl
theorem fn_130 (e : Exts) : (Cx e).P.funcs[130]? = some Tryz.f130 := Tryz.func130
theorem ext_130 {e : Exts} (he : Quiet e) : (Cx e).ext 130 = none := he _ (by decide) (by decide) (by decide) (by decide) (by decide)
@[go_sem] theorem keep_133 (e : Exts) : (Cx e).keep 133 = [0,2] := rfl
@[go_sem] theorem alter_133 (e : Exts) (d : Option Tmp) : (Cx e).alter 133 d = false := rfl
theorem fn_133 (e : Exts) : (Cx e).P.funcs[133]? = some Tryz.f133 := Tryz.func133
theorem ext_133 {e : Exts} (he : Quiet e) : (Cx e).ext 133 = none := he _ (by decide) (by decide) (by decide) (by decide) (by decide)
theorem pure_133 (e : Exts) (h : FuncId) (d : Option Tmp) : (Cx e).pure h 133 d = true := by simp [Cx,pureF,impF,impC]
@[go_sem] theorem keep_134 (e : Exts) : (Cx e).keep 134 = [1,0,3,4] := rfl
theorem fn_134 (e : Exts) : (Cx e).P.funcs[134]? = some Tryz.f134 := Tryz.func134
theorem ext_134 {e : Exts} (he : Quiet e) : (Cx e).ext 134 = none := he _ (by decide) (by decide) (by decide) (by decide) (by decide)
theorem pure_134 (e : Exts) (h : FuncId) (d : Option Tmp) : (Cx e).pure h 134 d = true := by simp [Cx,pureF,impF,impC]
@[go_sem] theorem keep_135 (e : Exts) : (Cx e).keep 135 = [0,12,15,14,16,4,25,31,30,32,29,6,37,3,2] := rfl
@[go_sem] theorem alter_135 (e : Exts) (d : Option Tmp) : (Cx e).alter 135 d = false := rfl
theorem fn_135 (e : Exts) : (Cx e).P.funcs[135]? = some Tryz.f135 := Tryz.func135
theorem ext_135 {e : Exts} (he : Quiet e) : (Cx e).ext 135 = none := he _ (by decide) (by decide) (by decide) (by decide) (by decide)
theorem pure_135 (e : Exts) (h : FuncId) (d : Option Tmp) : (Cx e).pure h 135 d = true := by simp [Cx,pureF,impF,impC]
@[go_sem] theorem keep_139 (e : Exts) : (Cx e).keep 139 = [0,2] := rfl
theorem fn_139 (e : Exts) : (Cx e).P.funcs[139]? = some Tryz.f139 := Tryz.func139
theorem ext_139 {e : Exts} (he : Quiet e) : (Cx e).ext 139 = none := he _ (by decide) (by decide) (by decide) (by decide) (by decide)
theorem pure_139 (e : Exts) (h : FuncId) (d : Option Tmp) : (Cx e).pure h 139 d = true := by simp [Cx,pureF,impF,impC]
@[go_sem] theorem keep_145 (e : Exts) : (Cx e).keep 145 = [4,0,9,5,16,2,3] := rfl
theorem fn_145 (e : Exts) : (Cx e).P.funcs[145]? = some Tryz.f145 := Tryz.func145
theorem ext_145 {e : Exts} (he : Quiet e) : (Cx e).ext 145 = none := he _ (by decide) (by decide) (by decide) (by decide) (by decide)
theorem pure_145 (e : Exts) (h : FuncId) (d : Option Tmp) : (Cx e).pure h 145 d = true := by simp [Cx,pureF,impF,impC]
@[go_sem] theorem keep_146 (e : Exts) : (Cx e).keep 146 = [0,7,1,12,4] := rfl
theorem fn_146 (e : Exts) : (Cx e).P.funcs[146]? = some Tryz.f146 := Tryz.func146
theorem ext_146 {e : Exts} (he : Quiet e) : (Cx e).ext 146 = none := he _ (by decide) (by decide) (by decide) (by decide) (by decide)
theorem pure_146 (e : Exts) (h : FuncId) (d : Option Tmp) : (Cx e).pure h 146 d = true := by simp [Cx,pureF,impF,impC]
@[go_sem] theorem keep_147 (e : Exts) : (Cx e).keep 147 = [0,7,1,15,4] := rfl
theorem fn_147 (e : Exts) : (Cx e).P.funcs[147]? = some Tryz.f147 := Tryz.func147
theorem ext_147 {e : Exts} (he : Quiet e) : (Cx e).ext 147 = none := he _ (by decide) (by decide) (by decide) (by decide) (by decide)
theorem pure_147 (e : Exts) (h : FuncId) (d : Option Tmp) : (Cx e).pure h 147 d = true := by simp [Cx,pureF,impF,impC]
@[go_sem] theorem keep_150 (e : Exts) : (Cx e).keep 150 = [0,1,2,4,3,5,6] := rfl
theorem fn_150 (e : Exts) : (Cx e).P.funcs[150]? = some Tryz.f150 := Tryz.func150
theorem ext_150 {e : Exts} (he : Quiet e) : (Cx e).ext 150 = none := he _ (by decide) (by decide) (by decide) (by decide) (by decide)
@[go_sem] theorem keep_151 (e : Exts) : (Cx e).keep 151 = [0] := rfl
theorem fn_151 (e : Exts) : (Cx e).P.funcs[151]? = some Tryz.f151 := Tryz.func151
theorem ext_151 {e : Exts} (he : Quiet e) : (Cx e).ext 151 = none := he _ (by decide) (by decide) (by decide) (by decide) (by decide)
theorem pure_151 (e : Exts) (h : FuncId) (d : Option Tmp) : (Cx e).pure h 151 d = true := by simp [Cx,pureF,impF,impC]
@[go_sem] theorem keep_152 (e : Exts) : (Cx e).keep 152 = [1,0,8,9,6,3,7,5,17,4] := rfl
theorem fn_152 (e : Exts) : (Cx e).P.funcs[152]? = some Tryz.f152 := Tryz.func152
theorem ext_152 {e : Exts} (he : Quiet e) : (Cx e).ext 152 = none := he _ (by decide) (by decide) (by decide) (by decide) (by decide)
theorem pure_152 (e : Exts) (h : FuncId) (d : Option Tmp) : (Cx e).pure h 152 d = true := by simp [Cx,pureF,impF,impC]
@[go_sem] theorem keep_153 (e : Exts) : (Cx e).keep 153 = [0,1,3,2,4] := rfl
theorem fn_153 (e : Exts) : (Cx e).P.funcs[153]? = some Tryz.f153 := Tryz.func153
theorem ext_153 {e : Exts} (he : Quiet e) : (Cx e).ext 153 = none := he _ (by decide) (by decide) (by decide) (by decide) (by decide)
theorem pure_153 (e : Exts) (h : FuncId) (d : Option Tmp) : (Cx e).pure h 153 d = true := by simp [Cx,pureF,impF,impC]
@[go_sem] theorem keep_154 (e : Exts) : (Cx e).keep 154 = [0,1,3,4,10,2,5] := rfl
theorem fn_154 (e : Exts) : (Cx e).P.funcs[154]? = some Tryz.f154 := Tryz.func154
theorem ext_154 {e : Exts} (he : Quiet e) : (Cx e).ext 154 = none := he _ (by decide) (by decide) (by decide) (by decide) (by decide)
theorem pure_154 (e : Exts) (h : FuncId) (d : Option Tmp) : (Cx e).pure h 154 d = true := by simp [Cx,pureF,impF,impC]
@[go_sem] theorem keep_159 (e : Exts) : (Cx e).keep 159 = [0,1,4] := rfl
theorem fn_159 (e : Exts) : (Cx e).P.funcs[159]? = some Tryz.f159 := Tryz.func159
theorem ext_159 {e : Exts} (he : Quiet e) : (Cx e).ext 159 = none := he _ (by decide) (by decide) (by decide) (by decide) (by decide)
@[go_sem] theorem keep_160 (e : Exts) : (Cx e).keep 160 = [0,2,1,3] := rfl
theorem fn_160 (e : Exts) : (Cx e).P.funcs[160]? = some Tryz.f160 := Tryz.func160
theorem ext_160 {e : Exts} (he : Quiet e) : (Cx e).ext 160 = none := he _ (by decide) (by decide) (by decide) (by decide) (by decide)
theorem pure_160 (e : Exts) (h : FuncId) (d : Option Tmp) : (Cx e).pure h 160 d = true := by simp [Cx,pureF,impF,impC]
@[go_sem] theorem keep_168 (e : Exts) : (Cx e).keep 168 = [0,1,4] := rfl
theorem fn_168 (e : Exts) : (Cx e).P.funcs[168]? = some Tryz.f168 := Tryz.func168
theorem ext_168 {e : Exts} (he : Quiet e) : (Cx e).ext 168 = none := he _ (by decide) (by decide) (by decide) (by decide) (by decide)
theorem pure_168 (e : Exts) (h : FuncId) (d : Option Tmp) : (Cx e).pure h 168 d = true := by simp [Cx,pureF,impF,impC]
@[go_sem] theorem keep_172 (e : Exts) : (Cx e).keep 172 = [1,11,2,14,0,6,25,7,33,3,8,42] := rfl
theorem fn_172 (e : Exts) : (Cx e).P.funcs[172]? = some Tryz.f172 := Tryz.func172
@[go_sem] theorem keep_173 (e : Exts) : (Cx e).keep 173 = [0,1,4] := rfl
theorem fn_173 (e : Exts) : (Cx e).P.funcs[173]? = some Tryz.f173 := Tryz.func173
theorem ext_173 {e : Exts} (he : Quiet e) : (Cx e).ext 173 = none := he _ (by decide) (by decide) (by decide) (by decide) (by decide)
theorem pure_173 (e : Exts) (h : FuncId) (d : Option Tmp) : (Cx e).pure h 173 d = true := by simp [Cx,pureF,impF,impC]
@[go_sem] theorem keep_174 (e : Exts) : (Cx e).keep 174 = [0,1,2,3,4] := rfl
theorem fn_174 (e : Exts) : (Cx e).P.funcs[174]? = some Tryz.f174 := Tryz.func174
theorem ext_174 {e : Exts} (he : Quiet e) : (Cx e).ext 174 = none := he _ (by decide) (by decide) (by decide) (by decide) (by decide)
theorem pure_174 (e : Exts) (h : FuncId) (d : Option Tmp) : (Cx e).pure h 174 d = true := by simp [Cx,pureF,impF,impC]
@[go_sem] theorem keep_175 (e : Exts) : (Cx e).keep 175 = [0,1,2,3,4] := rfl
theorem fn_175 (e : Exts) : (Cx e).P.funcs[175]? = some Tryz.f175 := Tryz.func175
theorem ext_175 {e : Exts} (he : Quiet e) : (Cx e).ext 175 = none := he _ (by decide) (by decide) (by decide) (by decide) (by decide)
theorem pure_175 (e : Exts) (h : FuncId) (d : Option Tmp) : (Cx e).pure h 175 d = true := by simp [Cx,pureF,impF,impC]
@[go_sem] theorem keep_176 (e : Exts) : (Cx e).keep 176 = [0,1,2,3,9,4] := rfl
theorem fn_176 (e : Exts) : (Cx e).P.funcs[176]? = some Tryz.f176 := Tryz.func176
theorem ext_176 {e : Exts} (he : Quiet e) : (Cx e).ext 176 = none := he _ (by decide) (by decide) (by decide) (by decide) (by decide)
theorem pure_176 (e : Exts) (h : FuncId) (d : Option Tmp) : (Cx e).pure h 176 d = true := by simp [Cx,pureF,impF,impC]
@[go_sem] theorem keep_177 (e : Exts) : (Cx e).keep 177 = [0,1,2] := rfl
theorem fn_177 (e : Exts) : (Cx e).P.funcs[177]? = some Tryz.f177 := Tryz.func177
theorem ext_177 {e : Exts} (he : Quiet e) : (Cx e).ext 177 = none := he _ (by decide) (by decide) (by decide) (by decide) (by decide)
theorem pure_177 (e : Exts) (h : FuncId) (d : Option Tmp) : (Cx e).pure h 177 d = true := by simp [Cx,pureF,impF,impC]
@[go_sem] theorem keep_178 (e : Exts) : (Cx e).keep 178 = [1,10,9,11,4,2,5,28,27,29,7,32,6,46,0,53] := rfl
theorem fn_178 (e : Exts) : (Cx e).P.funcs[178]? = some Tryz.f178 := Tryz.func178
@[go_sem] theorem keep_179 (e : Exts) : (Cx e).keep 179 = [0,6,1,4] := rfl
theorem fn_179 (e : Exts) : (Cx e).P.funcs[179]? = some Tryz.f179 := Tryz.func179
theorem ext_179 {e : Exts} (he : Quiet e) : (Cx e).ext 179 = none := he _ (by decide) (by decide) (by decide) (by decide) (by decide)
theorem pure_179 (e : Exts) (h : FuncId) (d : Option Tmp) : (Cx e).pure h 179 d = true := by simp [Cx,pureF,impF,impC]
@[go_sem] theorem keep_184 (e : Exts) : (Cx e).keep 184 = [0,8,7,9,1,5,16,4] := rfl
theorem fn_184 (e : Exts) : (Cx e).P.funcs[184]? = some Tryz.f184 := Tryz.func184
theorem ext_184 {e : Exts} (he : Quiet e) : (Cx e).ext 184 = none := he _ (by decide) (by decide) (by decide) (by decide) (by decide)
@[go_sem] theorem keep_188 (e : Exts) : (Cx e).keep 188 = [1,5,0,16,24,31,36,8,9,59,6,64,11,73,7,93,10,107,12,114,132,13,139,4] := rfl
theorem fn_188 (e : Exts) : (Cx e).P.funcs[188]? = some Tryz.f188 := Tryz.func188
theorem ext_188 {e : Exts} (he : Quiet e) : (Cx e).ext 188 = none := he _ (by decide) (by decide) (by decide) (by decide) (by decide)
theorem pure_188 (e : Exts) (h : FuncId) (d : Option Tmp) : (Cx e).pure h 188 d = true := by simp [Cx,pureF,impF,impC]
@[go_sem] theorem keep_195 (e : Exts) : (Cx e).keep 195 = [0,1,4] := rfl
theorem fn_195 (e : Exts) : (Cx e).P.funcs[195]? = some Tryz.f195 := Tryz.func195
theorem ext_195 {e : Exts} (he : Quiet e) : (Cx e).ext 195 = none := he _ (by decide) (by decide) (by decide) (by decide) (by decide)
theorem pure_195 (e : Exts) (h : FuncId) (d : Option Tmp) : (Cx e).pure h 195 d = true := by simp [Cx,pureF,impF,impC]
theorem isagg_3 : isAggT Tryz.prog 3 = some false := by kernel_rfl
@[go_sem] theorem part_3 (cs : List AV) (k : Nat) : partOf Tryz.prog 3 cs k = cs[k]? := partOf_one cs k isagg_3 size_3
theorem isagg_4 : isAggT Tryz.prog 4 = some false := by kernel_rfl
@[go_sem] theorem part_4 (cs : List AV) (k : Nat) : partOf Tryz.prog 4 cs k = cs[k]? := partOf_one cs k isagg_4 size_4
@[go_sem] theorem store_4 (H : Heap) (b v k : Nat) (x : AV) : storeA Tryz.prog H 4 (.ptr b v k) x = if x.cells.length = 1 then storeCells H b v k x.cells else none := by unfold storeA;rw [size_4]
theorem isagg_5 : isAggT Tryz.prog 5 = some false := by kernel_rfl
@[go_sem] theorem part_5 (cs : List AV) (k : Nat) : partOf Tryz.prog 5 cs k = cs[k]? := partOf_one cs k isagg_5 size_5
theorem isagg_9 : isAggT Tryz.prog 9 = some false := by kernel_rfl
@[go_sem] theorem part_9 (cs : List AV) (k : Nat) : partOf Tryz.prog 9 cs k = cs[k]? := partOf_one cs k isagg_9 size_9
@[go_sem] theorem store_9 (H : Heap) (b v k : Nat) (x : AV) : storeA Tryz.prog H 9 (.ptr b v k) x = if x.cells.length = 1 then storeCells H b v k x.cells else none := by unfold storeA;rw [size_9]
theorem und_9 : Tryz.prog.underlying 9 = some .string := by kernel_rfl
@[go_sem] theorem len_9 (H : Heap) (s : ByteArray) : lenA Tryz.prog H [9] [.v (.string s)] = some (.v (.int .i64 s.size)) := len_str und_9 H s []
@[go_sem] theorem idx_9 (s : ByteArray) (k : IntKind) (n : Int) : indexA Tryz.prog 9 (.v (.string s)) (.v (.int k n)) = if 0 ≤ n then (strAt s n.toNat).map fun b => .v (.int .u8 b.toNat) else none := index_str und_9 s k n
theorem isagg_22 : isAggT Tryz.prog 22 = some false := by kernel_rfl
@[go_sem] theorem part_22 (cs : List AV) (k : Nat) : partOf Tryz.prog 22 cs k = cs[k]? := partOf_one cs k isagg_22 size_22
theorem und_22 : Tryz.prog.underlying 22 = some (.slice 112) := by kernel_rfl
@[go_sem] theorem len_22 (H : Heap) (x : AV) : lenA Tryz.prog H [22] [x] = slLen x := len_sl und_22 H x
@[go_sem] theorem idx_22 (x y : AV) : indexAddrA Tryz.prog 22 x y = slIdx 2 x y := idx_sl und_22 size_112 x y
theorem isagg_24 : isAggT Tryz.prog 24 = some true := by kernel_rfl
@[go_sem] theorem part_24 (cs : List AV) (k : Nat) : partOf Tryz.prog 24 cs k = if k + 1 ≤ cs.length then some (.agg ((cs.drop k).take 1)) else none := partOf_agg cs k isagg_24 size_24
theorem foff_24_0 : fieldOff Tryz.prog 24 0 = some (0,1) := by kernel_rfl
@[go_sem] theorem fptr_24_0 (b v k : Nat) : fieldAddrA Tryz.prog 24 (.ptr b v k) 0 = some (.ptr b v (k + 0)) := fieldAddr_ptr foff_24_0 b v k
theorem isagg_26 : isAggT Tryz.prog 26 = some true := by kernel_rfl
@[go_sem] theorem part_26 (cs : List AV) (k : Nat) : partOf Tryz.prog 26 cs k = if k + 2 ≤ cs.length then some (.agg ((cs.drop k).take 2)) else none := partOf_agg cs k isagg_26 size_26
theorem foff_26_0 : fieldOff Tryz.prog 26 0 = some (0,1) := by kernel_rfl
@[go_sem] theorem fptr_26_0 (b v k : Nat) : fieldAddrA Tryz.prog 26 (.ptr b v k) 0 = some (.ptr b v (k + 0)) := fieldAddr_ptr foff_26_0 b v k
@[go_sem] theorem fro_26_0 (z : AV) (k : Nat) : fieldAddrA Tryz.prog 26 (.ro z k) 0 = some (.ro z (k + 0)) := fieldAddr_ro foff_26_0 z k
theorem foff_26_1 : fieldOff Tryz.prog 26 1 = some (1,1) := by kernel_rfl
@[go_sem] theorem fptr_26_1 (b v k : Nat) : fieldAddrA Tryz.prog 26 (.ptr b v k) 1 = some (.ptr b v (k + 1)) := fieldAddr_ptr foff_26_1 b v k
@[go_sem] theorem build_26 (ps : List (Nat × AV)) : buildA Tryz.prog 26 ps = (fillA (fun i => ([(0,1),(1,1)] : List (Nat × Nat))[i]?) [.v (.int .i64 0),.v (.int .u8 0)] ps).map .agg := by kernel_rfl
theorem isagg_28 : isAggT Tryz.prog 28 = some true := by kernel_rfl
@[go_sem] theorem part_28 (cs : List AV) (k : Nat) : partOf Tryz.prog 28 cs k = if k + 3 ≤ cs.length then some (.agg ((cs.drop k).take 3)) else none := partOf_agg cs k isagg_28 size_28
@[go_sem] theorem store_28 (H : Heap) (b v k : Nat) (x : AV) : storeA Tryz.prog H 28 (.ptr b v k) x = if x.cells.length = 3 then storeCells H b v k x.cells else none := by unfold storeA;rw [size_28]
theorem foff_28_0 : fieldOff Tryz.prog 28 0 = some (0,1) := by kernel_rfl
@[go_sem] theorem fptr_28_0 (b v k : Nat) : fieldAddrA Tryz.prog 28 (.ptr b v k) 0 = some (.ptr b v (k + 0)) := fieldAddr_ptr foff_28_0 b v k
theorem foff_28_1 : fieldOff Tryz.prog 28 1 = some (1,1) := by kernel_rfl
@[go_sem] theorem fptr_28_1 (b v k : Nat) : fieldAddrA Tryz.prog 28 (.ptr b v k) 1 = some (.ptr b v (k + 1)) := fieldAddr_ptr foff_28_1 b v k
theorem foff_28_2 : fieldOff Tryz.prog 28 2 = some (2,1) := by kernel_rfl
@[go_sem] theorem fptr_28_2 (b v k : Nat) : fieldAddrA Tryz.prog 28 (.ptr b v k) 2 = some (.ptr b v (k + 2)) := fieldAddr_ptr foff_28_2 b v k
@[go_sem] theorem build_28 (ps : List (Nat × AV)) : buildA Tryz.prog 28 ps = (fillA (fun i => ([(0,1),(1,1),(2,1)] : List (Nat × Nat))[i]?) [.v (.int .i64 0),.v (.int .i64 0),.v (.int .i64 0)] ps).map .agg := by kernel_rfl
theorem isagg_30 : isAggT Tryz.prog 30 = some true := by kernel_rfl
@[go_sem] theorem part_30 (cs : List AV) (k : Nat) : partOf Tryz.prog 30 cs k = if k + 6 ≤ cs.length then some (.agg ((cs.drop k).take 6)) else none := partOf_agg cs k isagg_30 size_30
@[go_sem] theorem store_30 (H : Heap) (b v k : Nat) (x : AV) : storeA Tryz.prog H 30 (.ptr b v k) x = if x.cells.length = 6 then storeCells H b v k x.cells else none := by unfold storeA;rw [size_30]
theorem foff_30_0 : fieldOff Tryz.prog 30 0 = some (0,3) := by kernel_rfl
@[go_sem] theorem fptr_30_0 (b v k : Nat) : fieldAddrA Tryz.prog 30 (.ptr b v k) 0 = some (.ptr b v (k + 0)) := fieldAddr_ptr foff_30_0 b v k
theorem foff_30_1 : fieldOff Tryz.prog 30 1 = some (3,1) := by kernel_rfl
@[go_sem] theorem fptr_30_1 (b v k : Nat) : fieldAddrA Tryz.prog 30 (.ptr b v k) 1 = some (.ptr b v (k + 3)) := fieldAddr_ptr foff_30_1 b v k
theorem foff_30_2 : fieldOff Tryz.prog 30 2 = some (4,1) := by kernel_rfl
@[go_sem] theorem fptr_30_2 (b v k : Nat) : fieldAddrA Tryz.prog 30 (.ptr b v k) 2 = some (.ptr b v (k + 4)) := fieldAddr_ptr foff_30_2 b v k
theorem foff_30_3 : fieldOff Tryz.prog 30 3 = some (5,1) := by kernel_rfl
@[go_sem] theorem fptr_30_3 (b v k : Nat) : fieldAddrA Tryz.prog 30 (.ptr b v k) 3 = some (.ptr b v (k + 5)) := fieldAddr_ptr foff_30_3 b v k
@[go_sem] theorem build_30 (ps : List (Nat × AV)) : buildA Tryz.prog 30 ps = (fillA (fun i => ([(0,3),(3,1),(4,1),(5,1)] : List (Nat × Nat))[i]?) [.v (.int .i64 0),.v (.int .i64 0),.v (.int .i64 0),.v (.string ⟨#[]⟩),.v (.string ⟨#[]⟩),.v (.string ⟨#[]⟩)] ps).map .agg := by kernel_rfl
theorem und_31 : Tryz.prog.underlying 31 = some (.slice 30) := by kernel_rfl
@[go_sem] theorem len_31 (H : Heap) (x : AV) : lenA Tryz.prog H [31] [x] = slLen x := len_sl und_31 H x
@[go_sem] theorem idx_31 (x y : AV) : indexAddrA Tryz.prog 31 x y = slIdx 6 x y := idx_sl und_31 size_30 x y
@[go_sem] theorem bsl_31 (mt : Bool) (H : Heap) (slot len : Nat) (parts : List (Nat × AV)) : buildSliceA Tryz.prog mt H slot 31 len parts = if len * 6 ≤ 65536 then (fillA (fun i => some (i * 6,6)) (repeatCells [.v (.int .i64 0),.v (.int .i64 0),.v (.int .i64 0),.v (.string ⟨#[]⟩),.v (.string ⟨#[]⟩),.v (.string ⟨#[]⟩)] len) parts).bind (bsFin mt 30 6 H slot len) else none := buildSl_eq und_31 size_30 zero_30 (by decide) rfl mt H slot len parts
theorem isagg_41 : isAggT Tryz.prog 41 = some false := by kernel_rfl
@[go_sem] theorem part_41 (cs : List AV) (k : Nat) : partOf Tryz.prog 41 cs k = cs[k]? := partOf_one cs k isagg_41 size_41
@[go_sem] theorem store_41 (H : Heap) (b v k : Nat) (x : AV) : storeA Tryz.prog H 41 (.ptr b v k) x = if x.cells.length = 1 then storeCells H b v k x.cells else none := by unfold storeA;rw [size_41]
theorem und_41 : Tryz.prog.underlying 41 = some (.slice 28) := by kernel_rfl
@[go_sem] theorem len_41 (H : Heap) (x : AV) : lenA Tryz.prog H [41] [x] = slLen x := len_sl und_41 H x
@[go_sem] theorem idx_41 (x y : AV) : indexAddrA Tryz.prog 41 x y = slIdx 3 x y := idx_sl und_41 size_28 x y
@[go_sem] theorem bsl_41 (mt : Bool) (H : Heap) (slot len : Nat) (parts : List (Nat × AV)) : buildSliceA Tryz.prog mt H slot 41 len parts = if len * 3 ≤ 65536 then (fillA (fun i => some (i * 3,3)) (repeatCells [.v (.int .i64 0),.v (.int .i64 0),.v (.int .i64 0)] len) parts).bind (bsFin mt 28 3 H slot len) else none := buildSl_eq und_41 size_28 zero_28 (by decide) rfl mt H slot len parts
theorem und_48 : Tryz.prog.underlying 48 = some (.slice 3) := by kernel_rfl
@[go_sem] theorem len_48 (H : Heap) (x : AV) : lenA Tryz.prog H [48] [x] = slLen x := len_sl und_48 H x
@[go_sem] theorem idx_48 (x y : AV) : indexAddrA Tryz.prog 48 x y = slIdx 1 x y := idx_sl und_48 size_3 x y
@[go_sem] theorem bsl_48 (mt : Bool) (H : Heap) (slot len : Nat) (parts : List (Nat × AV)) : buildSliceA Tryz.prog mt H slot 48 len parts = if len * 1 ≤ 65536 then (fillA (fun i => some (i * 1,1)) (repeatCells [.v (.int .i64 0)] len) parts).bind (bsFin mt 3 1 H slot len) else none := buildSl_eq und_48 size_3 zero_3 (by decide) rfl mt H slot len parts
theorem isagg_87 : isAggT Tryz.prog 87 = some false := by kernel_rfl
@[go_sem] theorem part_87 (cs : List AV) (k : Nat) : partOf Tryz.prog 87 cs k = cs[k]? := partOf_one cs k isagg_87 size_87
@[go_sem] theorem store_87 (H : Heap) (b v k : Nat) (x : AV) : storeA Tryz.prog H 87 (.ptr b v k) x = if x.cells.length = 1 then storeCells H b v k x.cells else none := by unfold storeA;rw [size_87]
theorem und_87 : Tryz.prog.underlying 87 = some (.slice 9) := by kernel_rfl
@[go_sem] theorem len_87 (H : Heap) (x : AV) : lenA Tryz.prog H [87] [x] = slLen x := len_sl und_87 H x
@[go_sem] theorem idx_87 (x y : AV) : indexAddrA Tryz.prog 87 x y = slIdx 1 x y := idx_sl und_87 size_9 x y
@[go_sem] theorem bsl_87 (mt : Bool) (H : Heap) (slot len : Nat) (parts : List (Nat × AV)) : buildSliceA Tryz.prog mt H slot 87 len parts = if len * 1 ≤ 65536 then (fillA (fun i => some (i * 1,1)) (repeatCells [.v (.string ⟨#[]⟩)] len) parts).bind (bsFin mt 9 1 H slot len) else none := buildSl_eq und_87 size_9 zero_9 (by decide) rfl mt H slot len parts
theorem isagg_110 : isAggT Tryz.prog 110 = some false := by kernel_rfl
@[go_sem] theorem part_110 (cs : List AV) (k : Nat) : partOf Tryz.prog 110 cs k = cs[k]? := partOf_one cs k isagg_110 size_110
theorem und_110 : Tryz.prog.underlying 110 = some (.slice 87) := by kernel_rfl
@[go_sem] theorem len_110 (H : Heap) (x : AV) : lenA Tryz.prog H [110] [x] = slLen x := len_sl und_110 H x
@[go_sem] theorem idx_110 (x y : AV) : indexAddrA Tryz.prog 110 x y = slIdx 1 x y := idx_sl und_110 size_87 x y
@[go_sem] theorem bsl_110 (mt : Bool) (H : Heap) (slot len : Nat) (parts : List (Nat × AV)) : buildSliceA Tryz.prog mt H slot 110 len parts = if len * 1 ≤ 65536 then (fillA (fun i => some (i * 1,1)) (repeatCells [.v (.slice none 0 0)] len) parts).bind (bsFin mt 87 1 H slot len) else none := buildSl_eq und_110 size_87 zero_87 (by decide) rfl mt H slot len parts
theorem isagg_112 : isAggT Tryz.prog 112 = some true := by kernel_rfl
@[go_sem] theorem part_112 (cs : List AV) (k : Nat) : partOf Tryz.prog 112 cs k = if k + 2 ≤ cs.length then some (.agg ((cs.drop k).take 2)) else none := partOf_agg cs k isagg_112 size_112
@[go_sem] theorem store_112 (H : Heap) (b v k : Nat) (x : AV) : storeA Tryz.prog H 112 (.ptr b v k) x = if x.cells.length = 2 then storeCells H b v k x.cells else none := by unfold storeA;rw [size_112]
theorem foff_112_0 : fieldOff Tryz.prog 112 0 = some (0,1) := by kernel_rfl
@[go_sem] theorem fptr_112_0 (b v k : Nat) : fieldAddrA Tryz.prog 112 (.ptr b v k) 0 = some (.ptr b v (k + 0)) := fieldAddr_ptr foff_112_0 b v k
@[go_sem] theorem fro_112_0 (z : AV) (k : Nat) : fieldAddrA Tryz.prog 112 (.ro z k) 0 = some (.ro z (k + 0)) := fieldAddr_ro foff_112_0 z k
theorem foff_112_1 : fieldOff Tryz.prog 112 1 = some (1,1) := by kernel_rfl
@[go_sem] theorem fptr_112_1 (b v k : Nat) : fieldAddrA Tryz.prog 112 (.ptr b v k) 1 = some (.ptr b v (k + 1)) := fieldAddr_ptr foff_112_1 b v k
@[go_sem] theorem fro_112_1 (z : AV) (k : Nat) : fieldAddrA Tryz.prog 112 (.ro z k) 1 = some (.ro z (k + 1)) := fieldAddr_ro foff_112_1 z k
theorem und_118 : Tryz.prog.underlying 118 = some (.slice 121) := by kernel_rfl
@[go_sem] theorem len_118 (H : Heap) (x : AV) : lenA Tryz.prog H [118] [x] = slLen x := len_sl und_118 H x
@[go_sem] theorem idx_118 (x y : AV) : indexAddrA Tryz.prog 118 x y = slIdx 4 x y := idx_sl und_118 size_121 x y
@[go_sem] theorem bsl_118 (mt : Bool) (H : Heap) (slot len : Nat) (parts : List (Nat × AV)) : buildSliceA Tryz.prog mt H slot 118 len parts = if len * 4 ≤ 65536 then (fillA (fun i => some (i * 4,4)) (repeatCells [.v (.int .i64 0),.v (.int .u8 0),.v (.slice none 0 0),.v (.slice none 0 0)] len) parts).bind (bsFin mt 121 4 H slot len) else none := buildSl_eq und_118 size_121 zero_121 (by decide) rfl mt H slot len parts
theorem isagg_121 : isAggT Tryz.prog 121 = some true := by kernel_rfl
@[go_sem] theorem part_121 (cs : List AV) (k : Nat) : partOf Tryz.prog 121 cs k = if k + 4 ≤ cs.length then some (.agg ((cs.drop k).take 4)) else none := partOf_agg cs k isagg_121 size_121
@[go_sem] theorem store_121 (H : Heap) (b v k : Nat) (x : AV) : storeA Tryz.prog H 121 (.ptr b v k) x = if x.cells.length = 4 then storeCells H b v k x.cells else none := by unfold storeA;rw [size_121]
theorem foff_121_0 : fieldOff Tryz.prog 121 0 = some (0,2) := by kernel_rfl
@[go_sem] theorem fptr_121_0 (b v k : Nat) : fieldAddrA Tryz.prog 121 (.ptr b v k) 0 = some (.ptr b v (k + 0)) := fieldAddr_ptr foff_121_0 b v k
@[go_sem] theorem fro_121_0 (z : AV) (k : Nat) : fieldAddrA Tryz.prog 121 (.ro z k) 0 = some (.ro z (k + 0)) := fieldAddr_ro foff_121_0 z k
theorem foff_121_1 : fieldOff Tryz.prog 121 1 = some (2,1) := by kernel_rfl
@[go_sem] theorem fptr_121_1 (b v k : Nat) : fieldAddrA Tryz.prog 121 (.ptr b v k) 1 = some (.ptr b v (k + 2)) := fieldAddr_ptr foff_121_1 b v k
@[go_sem] theorem fro_121_1 (z : AV) (k : Nat) : fieldAddrA Tryz.prog 121 (.ro z k) 1 = some (.ro z (k + 2)) := fieldAddr_ro foff_121_1 z k
theorem foff_121_2 : fieldOff Tryz.prog 121 2 = some (3,1) := by kernel_rfl
@[go_sem] theorem fptr_121_2 (b v k : Nat) : fieldAddrA Tryz.prog 121 (.ptr b v k) 2 = some (.ptr b v (k + 3)) := fieldAddr_ptr foff_121_2 b v k
@[go_sem] theorem build_121 (ps : List (Nat × AV)) : buildA Tryz.prog 121 ps = (fillA (fun i => ([(0,2),(2,1),(3,1)] : List (Nat × Nat))[i]?) [.v (.int .i64 0),.v (.int .u8 0),.v (.slice none 0 0),.v (.slice none 0 0)] ps).map .agg := by kernel_rfl
theorem isagg_140 : isAggT Tryz.prog 140 = some true := by kernel_rfl
@[go_sem] theorem part_140 (cs : List AV) (k : Nat) : partOf Tryz.prog 140 cs k = if k + 1 ≤ cs.length then some (.agg ((cs.drop k).take 1)) else none := partOf_agg cs k isagg_140 size_140
@[go_sem] theorem store_140 (H : Heap) (b v k : Nat) (x : AV) : storeA Tryz.prog H 140 (.ptr b v k) x = if x.cells.length = 1 then storeCells H b v k x.cells else none := by unfold storeA;rw [size_140]
theorem foff_140_0 : fieldOff Tryz.prog 140 0 = some (0,1) := by kernel_rfl
@[go_sem] theorem fptr_140_0 (b v k : Nat) : fieldAddrA Tryz.prog 140 (.ptr b v k) 0 = some (.ptr b v (k + 0)) := fieldAddr_ptr foff_140_0 b v k
@[go_sem] theorem build_140 (ps : List (Nat × AV)) : buildA Tryz.prog 140 ps = (fillA (fun i => ([(0,1)] : List (Nat × Nat))[i]?) [.v (.slice none 0 0)] ps).map .agg := by kernel_rfl
theorem foff_170_0 : fieldOff Tryz.prog 170 0 = some (0,1) := by kernel_rfl
@[go_sem] theorem fptr_170_0 (b v k : Nat) : fieldAddrA Tryz.prog 170 (.ptr b v k) 0 = some (.ptr b v (k + 0)) := fieldAddr_ptr foff_170_0 b v k
theorem foff_170_1 : fieldOff Tryz.prog 170 1 = some (1,1) := by kernel_rfl
@[go_sem] theorem fptr_170_1 (b v k : Nat) : fieldAddrA Tryz.prog 170 (.ptr b v k) 1 = some (.ptr b v (k + 1)) := fieldAddr_ptr foff_170_1 b v k
@[go_sem] theorem build_170 (ps : List (Nat × AV)) : buildA Tryz.prog 170 ps = (fillA (fun i => ([(0,1),(1,1)] : List (Nat × Nat))[i]?) [.v (.int .i64 0),.v (.int .i64 0)] ps).map .agg := by kernel_rfl
theorem isagg_184 : isAggT Tryz.prog 184 = some true := by kernel_rfl
@[go_sem] theorem part_184 (cs : List AV) (k : Nat) : partOf Tryz.prog 184 cs k = if k + 3 ≤ cs.length then some (.agg ((cs.drop k).take 3)) else none := partOf_agg cs k isagg_184 size_184
@[go_sem] theorem store_184 (H : Heap) (b v k : Nat) (x : AV) : storeA Tryz.prog H 184 (.ptr b v k) x = if x.cells.length = 3 then storeCells H b v k x.cells else none := by unfold storeA;rw [size_184]
theorem foff_184_0 : fieldOff Tryz.prog 184 0 = some (0,1) := by kernel_rfl
@[go_sem] theorem fptr_184_0 (b v k : Nat) : fieldAddrA Tryz.prog 184 (.ptr b v k) 0 = some (.ptr b v (k + 0)) := fieldAddr_ptr foff_184_0 b v k
theorem foff_184_1 : fieldOff Tryz.prog 184 1 = some (1,1) := by kernel_rfl
@[go_sem] theorem fptr_184_1 (b v k : Nat) : fieldAddrA Tryz.prog 184 (.ptr b v k) 1 = some (.ptr b v (k + 1)) := fieldAddr_ptr foff_184_1 b v k
theorem foff_184_2 : fieldOff Tryz.prog 184 2 = some (2,1) := by kernel_rfl
@[go_sem] theorem fptr_184_2 (b v k : Nat) : fieldAddrA Tryz.prog 184 (.ptr b v k) 2 = some (.ptr b v (k + 2)) := fieldAddr_ptr foff_184_2 b v k
@[go_sem] theorem build_184 (ps : List (Nat × AV)) : buildA Tryz.prog 184 ps = (fillA (fun i => ([(0,1),(1,1),(2,1)] : List (Nat × Nat))[i]?) [.v (.int .i64 0),.v (.int .i64 0),.v (.int .i64 0)] ps).map .agg := by kernel_rfl
theorem isagg_209 : isAggT Tryz.prog 209 = some true := by kernel_rfl
@[go_sem] theorem part_209 (cs : List AV) (k : Nat) : partOf Tryz.prog 209 cs k = if k + 256 ≤ cs.length then some (.agg ((cs.drop k).take 256)) else none := partOf_agg cs k isagg_209 size_209
@[go_sem] theorem store_209 (H : Heap) (b v k : Nat) (x : AV) : storeA Tryz.prog H 209 (.ptr b v k) x = if x.cells.length = 256 then storeCells H b v k x.cells else none := by unfold storeA;rw [size_209]
theorem und_209 : Tryz.prog.underlying 209 = some (.array 256 4) := by kernel_rfl
@[go_sem] theorem idx_209 (x y : AV) : indexAddrA Tryz.prog 209 x y = arIdx 256 1 x y := idx_ar und_209 size_4 x y
theorem isagg_215 : isAggT Tryz.prog 215 = some false := by kernel_rfl
@[go_sem] theorem part_215 (cs : List AV) (k : Nat) : partOf Tryz.prog 215 cs k = cs[k]? := partOf_one cs k isagg_215 size_215
@[go_sem] theorem store_217 (H : Heap) (b v k : Nat) (x : AV) : storeA Tryz.prog H 217 (.ptr b v k) x = if x.cells.length = 1 then storeCells H b v k x.cells else none := by unfold storeA;rw [size_217]
theorem foff_217_0 : fieldOff Tryz.prog 217 0 = some (0,1) := by kernel_rfl
@[go_sem] theorem fptr_217_0 (b v k : Nat) : fieldAddrA Tryz.prog 217 (.ptr b v k) 0 = some (.ptr b v (k + 0)) := fieldAddr_ptr foff_217_0 b v k
@[go_sem] theorem build_217 (ps : List (Nat × AV)) : buildA Tryz.prog 217 ps = (fillA (fun i => ([(0,1)] : List (Nat × Nat))[i]?) [.v .nilFunc] ps).map .agg := by kernel_rfl
theorem isagg_218 : isAggT Tryz.prog 218 = some true := by kernel_rfl
@[go_sem] theorem part_218 (cs : List AV) (k : Nat) : partOf Tryz.prog 218 cs k = if k + 4 ≤ cs.length then some (.agg ((cs.drop k).take 4)) else none := partOf_agg cs k isagg_218 size_218
@[go_sem] theorem store_218 (H : Heap) (b v k : Nat) (x : AV) : storeA Tryz.prog H 218 (.ptr b v k) x = if x.cells.length = 4 then storeCells H b v k x.cells else none := by unfold storeA;rw [size_218]
@[go_sem] theorem build_218 (ps : List (Nat × AV)) : buildA Tryz.prog 218 ps = (fillA (fun i => some (i * 1,1)) [.v .nilFunc,.v .nilFunc,.v .nilFunc,.v .nilFunc] ps).map .agg := by kernel_rfl
attribute [go_sem] repeatCells splice chunk bsFin ne_eq not_true_eq_false not_false_eq_true List.headD_cons Bool.false_eq_true Nat.le_refl Nat.zero_mul Nat.one_mul Nat.mul_one assoc_setI decide_true decide_false Bool.not_true Bool.not_false List.mem_cons List.not_mem_nil true_or or_true false_or or_false and_true true_and and_self List.getElem?_cons_succ List.getElem?_cons_zero Option.bind_some Option.map_some Option.map_none List.map_cons List.map_nil List.length_cons List.length_nil List.filterMap_cons List.filterMap_nil List.cons_append List.nil_append List.append_nil Nat.zero_add Nat.add_zero List.take_succ_cons List.take_zero List.take_nil List.drop_succ_cons List.drop_zero List.drop_nil List.all_cons List.all_nil Bool.and_true Bool.true_and Bool.false_and Bool.and_false beq_iff_eq beq_self_eq_true
attribute [go_sem_proc] Nat.reduceEqDiff Nat.reduceLT Nat.reduceLeDiff Nat.reduceAdd Nat.reduceSub Nat.reduceMul reduceCtorEq
theorem callA_none {C : Cfg} {rec : Task → Option Out} {me f : FuncId} {d : Option Tmp} {args : List AV} {H : Heap} (hx : C.ext f = none) (hh : C.exh f = none) : callA C rec me f d args H = callB C rec me f d args H := by unfold callA standA standH;rw [hx];simp only;rw [hh]
end Go.Ev
namespace Go.Ev
open Go.Proofs
def firstLoop : Code → Option Code
 | .loop b => some b
 | .seq a b => (firstLoop a).orElse fun _ => firstLoop b
 | .block _ a => firstLoop a
 | .scope a => firstLoop a
 | .cond _ a b => (firstLoop a).orElse fun _ => firstLoop b
 | _ => none
def withinB (lo hi : Int) (ns : List Int) : Bool := ns.all fun n => decide (lo ≤ n) && decide (n ≤ hi)
def intA (n : Int) : AV := .v (.int .i64 n)
noncomputable def body69 : Code := ((Tryz.f120.body.bind firstLoop).getD .skip)
theorem loop69 {e : Exts} (lo hi : Int) (ns : List Int) (x : AV) (hx : SlOf 1 (ns.map intA) x) (hn : ns.length < 2 ^ 63) (H : Heap) (hH : H = ⟨[some (AObj.cells 0 0 170 1 false [intA lo,intA hi])],0⟩) (K : Post) :
  ∀ m j : Nat,j + m = ns.length → (withinB lo hi (ns.drop j) = true → ∀ l,AtK K (.exit 0) ⟨24,l,[]⟩ H) → (withinB lo hi (ns.drop j) = false → ∀ l,assoc 4 l = some (.v (.bool false)) → AtK K .ret ⟨24,l,[]⟩ H) →
  Lp (Cx e) 120 none [0,1,2,4,7,8,9] body69 ⟨24,[(0,.agg [intA lo,intA hi]),(1,x),(2,.ptr 0 0 0),(4,.v (.bool false)),(7,x),(8,intA ns.length),(9,intA j)],[]⟩ H K := by
 intro m
 induction m with
 | zero =>
  intro j hj h1 h2
  rw [Lp_step]
  generalize hK : loopK (Cx e) 120 none [0,1,2,4,7,8,9] body69 H.size K = KK
  unfold body69
  simp -implicitDefEqProofs only [Tryz.f120,firstLoop,Option.orElse_some,Option.orElse_none,Option.getD_some,intA,go_sem,↓reduceIte]
  obtain rfl : j = ns.length := by omega
  simp -implicitDefEqProofs only [go_sem,↓reduceIte,Int.lt_irrefl]
  subst hK
  simp -implicitDefEqProofs only [go_sem,↓reduceIte]
  exact h1 (by simp [withinB]) _
 | succ m ih =>
  intro j hj h1 h2
  rw [Lp_step]
  generalize hK : loopK (Cx e) 120 none [0,1,2,4,7,8,9] body69 H.size K = KK
  unfold body69
  have hlt : (j : Int) < (ns.length : Int) := by omega
  have hy : (ns.map intA)[j]? = some (intA ns[j]) := by rw [List.getElem?_map,List.getElem?_eq_getElem (by omega)];rfl
  have hw := wrap_succ j (by omega)
  have hd : withinB lo hi (ns.drop j) = ((decide (lo ≤ ns[j]) && decide (ns[j] ≤ hi)) && withinB lo hi (ns.drop (j + 1))) := by
   rw [List.drop_eq_getElem_cons (by omega : j < ns.length)];rfl
  simp only [Tryz.f120,firstLoop,Option.orElse_some,Option.orElse_none,Option.getD_some,Option.bind_some]
  by_cases c1 : ns[j] < lo
  ·simp -implicitDefEqProofs only [go_sem,↓reduceIte,hH,intA,hlt,hw,hx.idx hy,c1]
   subst hK
   simp -implicitDefEqProofs only [go_sem,↓reduceIte]
   rw [← intA,← intA,← hH]
   exact h2 (by rw [hd];simp;omega) _ rfl
  ·by_cases c2 : hi < ns[j]
   ·simp -implicitDefEqProofs only [go_sem,↓reduceIte,hH,intA,hlt,hw,hx.idx hy,c1,c2]
    subst hK
    simp -implicitDefEqProofs only [go_sem,↓reduceIte]
    rw [← intA,← intA,← hH]
    exact h2 (by rw [hd];simp;omega) _ rfl
   ·simp -implicitDefEqProofs only [go_sem,↓reduceIte,hH,intA,hlt,hw,hx.idx hy,c1,c2]
    subst hK
    simp -implicitDefEqProofs only [go_sem,↓reduceIte,hH]
    have hd' : withinB lo hi (ns.drop j) = withinB lo hi (ns.drop (j + 1)) := by rw [hd];simp;omega
    rw [hd'] at h1 h2
    have := ih (j + 1) (by omega) h1 h2
    rw [hH] at this
    exact this
theorem ans69 {e : Exts} (lo hi : Int) (ns : List Int) (hn : ns.length < 2 ^ 63) (x : AV) (hx : SlOf 1 (ns.map intA) x) : Ans (Cx e) 120 [.agg [intA lo,intA hi],x] (.v (.bool (withinB lo hi ns))) := by
 unfold Ans
 rw [fn_step (fn_120 e) (show Tryz.f120.body = some _ from rfl)]
 simp -implicitDefEqProofs only [Tryz.f120,intA,go_sem,↓reduceIte,hx.len,List.length_map]
 refine loop69 lo hi ns x hx hn _ rfl _ ns.length 0 (by omega) ?_ ?_
 ·intro h l
  simp -implicitDefEqProofs only [go_sem,↓reduceIte]
  rw [List.drop_zero] at h
  rw [h]
 ·intro h l hl
  rw [List.drop_zero] at h
  simp -implicitDefEqProofs only [go_sem,↓reduceIte,hl]
  rw [h]
def letter (c : UInt8) : Bool := decide (97 ≤ (c.toNat : Int)) && decide ((c.toNat : Int) ≤ 122)
def lettersB (s : ByteArray) (j : Nat) : Bool := (s.data.toList.drop j).all letter
def wordB (s : ByteArray) : Bool := withinB 1 12 [(s.size : Int)] && lettersB s 0
noncomputable def body49 : Code := ((Tryz.f90.body.bind firstLoop).getD .skip)
theorem strAt_lt (s : ByteArray) (j : Nat) (h : j < s.size) : strAt s j = some (s.data.toList[j]'(by simpa using h)) := by
 unfold strAt;exact List.getElem?_eq_getElem _
theorem loop49 {e : Exts} (s : ByteArray) (hn : s.size < 2 ^ 63) (H : Heap) (K : Post) :
  ∀ m j : Nat,j + m = s.size → (lettersB s j = true → ∀ l,AtK K (.exit 0) ⟨26,l,[]⟩ H) → (lettersB s j = false → ∀ l,assoc 2 l = some (.v (.bool false)) → AtK K .ret ⟨26,l,[]⟩ H) →
  Lp (Cx e) 90 none [0,2,9,11,12] body49 ⟨26,[(0,.v (.string s)),(2,.v (.bool false)),(9,.v (.bool false)),(11,intA s.size),(12,intA j)],[]⟩ H K := by
 intro m
 induction m with
 | zero =>
  intro j hj h1 h2
  rw [Lp_step]
  generalize hK : loopK (Cx e) 90 none [0,2,9,11,12] body49 H.size K = KK
  unfold body49
  obtain rfl : j = s.size := by omega
  simp -implicitDefEqProofs only [Tryz.f90,firstLoop,Option.orElse_some,Option.orElse_none,Option.getD_some,intA,go_sem,↓reduceIte,Int.lt_irrefl]
  subst hK
  simp -implicitDefEqProofs only [go_sem,↓reduceIte]
  exact h1 (by unfold lettersB;rw [List.drop_of_length_le (by simp)];rfl) _
 | succ m ih =>
  intro j hj h1 h2
  rw [Lp_step]
  generalize hK : loopK (Cx e) 90 none [0,2,9,11,12] body49 H.size K = KK
  unfold body49
  have hlt : (j : Int) < (s.size : Int) := by omega
  have hy := strAt_lt s j (by omega)
  have hjl : j < s.data.toList.length := by simp;omega
  have hw := wrap_succ j (by omega)
  have hj0 : (0 : Int) ≤ (j : Int) := by omega
  generalize hc : s.data.toList[j] = c at hy
  have hd : lettersB s j = (letter c && lettersB s (j + 1)) := by
   unfold lettersB
   rw [List.drop_eq_getElem_cons (by simp;omega),← hc];rfl
  simp only [Tryz.f90,firstLoop,Option.orElse_some,Option.orElse_none,Option.getD_some,Option.bind_some]
  by_cases c1 : (c.toNat : Int) < 97
  ·simp -implicitDefEqProofs only [go_sem,↓reduceIte,intA,hlt,hw,hy,c1,hj0,Int.toNat_natCast]
   subst hK
   simp -implicitDefEqProofs only [go_sem,↓reduceIte]
   exact h2 (by rw [hd];simp [letter];omega) _ rfl
  ·by_cases c2 : 122 < (c.toNat : Int)
   ·simp -implicitDefEqProofs only [go_sem,↓reduceIte,intA,hlt,hw,hy,c1,c2,hj0,Int.toNat_natCast]
    subst hK
    simp -implicitDefEqProofs only [go_sem,↓reduceIte]
    exact h2 (by rw [hd];simp [letter];omega) _ rfl
   ·simp -implicitDefEqProofs only [go_sem,↓reduceIte,intA,hlt,hw,hy,c1,c2,hj0,Int.toNat_natCast]
    subst hK
    simp -implicitDefEqProofs only [go_sem,↓reduceIte]
    have hd' : lettersB s j = lettersB s (j + 1) := by rw [hd];simp [letter];omega
    rw [hd'] at h1 h2
    exact ih (j + 1) (by omega) h1 h2
theorem call69 {e : Exts} (he : Quiet e) (lo hi : Int) (ns : List Int) (hn : ns.length < 2 ^ 63) (x : AV) (hx : SlOf 1 (ns.map intA) x) (me : FuncId) (d : Option Tmp) (H : Heap) : callA (Cx e) (lim (Cx e)) me 120 d [.agg [intA lo,intA hi],x] H = some (.v (.bool (withinB lo hi ns)),H) :=
 (ans69 lo hi ns hn x hx).call (ext_120 he) (pure_120 _ _ _) (by simp only [boundL_cons,bound_agg,intA,bound_v,boundL_nil,hx.bound];rfl) H
theorem ans49 {e : Exts} (he : Quiet e) (s : ByteArray) (hn : s.size < 2 ^ 63) : Ans (Cx e) 90 [.v (.string s)] (.v (.bool (wordB s))) := by
 unfold Ans
 rw [fn_step (fn_90 e) (show Tryz.f90.body = some _ from rfl)]
 have hc : callA (Cx e) (lim (Cx e)) 90 120 (some 8) [.agg [.v (.int .i64 1),.v (.int .i64 12)],.vs 1 [.v (.int .i64 s.size)] (some 1)] { objs := [],lock := 0 } = some (.v (.bool (withinB 1 12 [(s.size : Int)])),{ objs := [],lock := 0 }) :=
  call69 he 1 12 [(s.size : Int)] (by simp) _ (Or.inr ⟨_,rfl⟩) _ _ _
 by_cases hw : withinB 1 12 [(s.size : Int)] = true
 ·rw [hw] at hc
  simp -implicitDefEqProofs only [Tryz.f90,go_sem,↓reduceIte,hc]
  refine loop49 s hn _ _ s.size 0 (by omega) ?_ ?_
  ·intro h l
   simp -implicitDefEqProofs only [go_sem,↓reduceIte]
   unfold wordB;rw [hw,h];rfl
  ·intro h l hl
   simp -implicitDefEqProofs only [go_sem,↓reduceIte,hl]
   unfold wordB;rw [hw,h];rfl
 ·simp only [Bool.not_eq_true] at hw
  rw [hw] at hc
  simp -implicitDefEqProofs only [Tryz.f90,go_sem,↓reduceIte,hc]
  unfold wordB;rw [hw];rfl
theorem call49 {e : Exts} (he : Quiet e) (s : ByteArray) (hn : s.size < 2 ^ 63) (me : FuncId) (d : Option Tmp) (H : Heap) : callA (Cx e) (lim (Cx e)) me 90 d [.v (.string s)] H = some (.v (.bool (wordB s)),H) :=
 (ans49 he s hn).call (ext_90 he) (pure_90 _ _ _) rfl H
end Go.Ev
namespace Go.Ev
open Go.Proofs
def loops : Code → List Code
 | .loop b => b :: loops b
 | .seq a b => loops a ++ loops b
 | .block _ a => loops a
 | .scope a => loops a
 | .cond _ a b => loops a ++ loops b
 | .rangeFunc _ _ _ b => loops b
 | _ => []
theorem range1 (lo hi n : Int) : withinB lo hi [n] = (decide (lo ≤ n) && decide (n ≤ hi)) := by simp [withinB]
theorem ans43 {e : Exts} (n lo hi : Int) : Ans (Cx e) 92 [intA n,intA lo,intA hi] (.v (.bool (withinB lo hi [n]))) := by
 unfold Ans
 rw [fn_step (fn_92 e) (show Tryz.f92.body = some _ from rfl),range1]
 by_cases h1 : lo ≤ n
 ·simp -implicitDefEqProofs only [Tryz.f92,intA,go_sem,↓reduceIte,h1]
 ·simp -implicitDefEqProofs only [Tryz.f92,intA,go_sem,↓reduceIte,h1,Bool.false_and]
theorem call43 {e : Exts} (he : Quiet e) (n lo hi : Int) (me : FuncId) (d : Option Tmp) (H : Heap) : callA (Cx e) (lim (Cx e)) me 92 d [.v (.int .i64 n),.v (.int .i64 lo),.v (.int .i64 hi)] H = some (.v (.bool (withinB lo hi [n])),H) :=
 (ans43 n lo hi).call (ext_92 he) (pure_92 _ _ _) rfl H
theorem callI43 {e : Exts} (he : Quiet e) (n lo hi : Int) (me : FuncId) (d : Option Tmp) : callI (Cx e) me 92 d [.v (.int .i64 n),.v (.int .i64 lo),.v (.int .i64 hi)] = some (.v (.bool (withinB lo hi [n]))) :=
 (ans43 n lo hi).callI (ext_92 he) (pure_92 _ _ _) rfl
noncomputable def body61 : Code := ((Tryz.f89.body.map loops).getD [])[0]?.getD .skip
theorem loop61 {e : Exts} (s : ByteArray) (hn : s.size < 2 ^ 63) (H : Heap) (K : Post) :
  ∀ m j : Nat,j + m = s.size → (lettersB s j = true → AtK K (.exit 0) ⟨23,[(0,.v (.string s)),(2,.v (.bool false)),(3,intA s.size)],[]⟩ H) → (lettersB s j = false → ∀ l,assoc 2 l = some (.v (.bool false)) → AtK K .ret ⟨23,l,[]⟩ H) →
  Lp (Cx e) 89 none [0,2,3] body61 ⟨23,[(0,.v (.string s)),(2,.v (.bool false)),(3,intA j)],[]⟩ H K := by
 intro m
 induction m with
 | zero =>
  intro j hj h1 h2
  rw [Lp_step]
  generalize hK : loopK (Cx e) 89 none [0,2,3] body61 H.size K = KK
  unfold body61
  obtain rfl : j = s.size := by omega
  simp -implicitDefEqProofs only [Tryz.f89,loops,Option.map_some,Option.getD_some,intA,go_sem,↓reduceIte,Int.lt_irrefl]
  subst hK
  simp -implicitDefEqProofs only [go_sem,↓reduceIte]
  exact h1 (by unfold lettersB;rw [List.drop_of_length_le (by simp)];rfl)
 | succ m ih =>
  intro j hj h1 h2
  rw [Lp_step]
  generalize hK : loopK (Cx e) 89 none [0,2,3] body61 H.size K = KK
  unfold body61
  have hlt : (j : Int) < (s.size : Int) := by omega
  have hy := strAt_lt s j (by omega)
  have hjl : j < s.data.toList.length := by simp;omega
  have hw := wrap_succ j (by omega)
  have hj0 : (0 : Int) ≤ (j : Int) := by omega
  generalize hc : s.data.toList[j] = c at hy
  have hd : lettersB s j = (letter c && lettersB s (j + 1)) := by
   unfold lettersB
   rw [List.drop_eq_getElem_cons (by simp;omega),← hc];rfl
  simp only [Tryz.f89,loops,Option.map_some,Option.getD_some,List.nil_append,List.append_nil,List.cons_append,List.getElem?_cons_zero]
  by_cases c1 : (c.toNat : Int) < 97
  ·simp -implicitDefEqProofs only [go_sem,↓reduceIte,intA,hlt,hw,hy,c1,hj0,Int.toNat_natCast]
   subst hK
   simp -implicitDefEqProofs only [go_sem,↓reduceIte]
   exact h2 (by rw [hd];simp [letter];omega) _ rfl
  ·by_cases c2 : 122 < (c.toNat : Int)
   ·simp -implicitDefEqProofs only [go_sem,↓reduceIte,intA,hlt,hw,hy,c1,c2,hj0,Int.toNat_natCast]
    subst hK
    simp -implicitDefEqProofs only [go_sem,↓reduceIte]
    exact h2 (by rw [hd];simp [letter];omega) _ rfl
   ·simp -implicitDefEqProofs only [go_sem,↓reduceIte,intA,hlt,hw,hy,c1,c2,hj0,Int.toNat_natCast]
    subst hK
    simp -implicitDefEqProofs only [go_sem,↓reduceIte]
    have hd' : lettersB s j = lettersB s (j + 1) := by rw [hd];simp [letter];omega
    rw [hd'] at h1 h2
    exact ih (j + 1) (by omega) h1 h2
theorem ans61 {e : Exts} (he : Quiet e) (s : ByteArray) (hn : s.size < 2 ^ 63) : Ans (Cx e) 89 [.v (.string s)] (.v (.bool (wordB s))) := by
 unfold Ans
 rw [fn_step (fn_89 e) (show Tryz.f89.body = some _ from rfl)]
 simp -implicitDefEqProofs only [Tryz.f89,intA,go_sem,↓reduceIte]
 refine loop61 s hn _ _ s.size 0 (by omega) ?_ ?_
 ·intro h
  simp -implicitDefEqProofs only [intA,go_sem,↓reduceIte,call43 he]
  unfold wordB;rw [h,Bool.and_true]
 ·intro h l hl
  simp -implicitDefEqProofs only [go_sem,↓reduceIte,hl]
  unfold wordB;rw [h,Bool.and_false]
theorem call61 {e : Exts} (he : Quiet e) (s : ByteArray) (hn : s.size < 2 ^ 63) (me : FuncId) (d : Option Tmp) (H : Heap) : callA (Cx e) (lim (Cx e)) me 89 d [.v (.string s)] H = some (.v (.bool (wordB s)),H) :=
 (ans61 he s hn).call (ext_89 he) (pure_89 _ _ _) rfl H
end Go.Ev
namespace Go.Ev
open Go.Proofs
def All2 {α β : Type} (R : α → β → Prop) (l : List α) (m : List β) : Prop := l.length = m.length ∧ ∀ (i : Nat) a b,l[i]? = some a → m[i]? = some b → R a b
theorem All2.get {α β : Type} {R : α → β → Prop} {l : List α} {m : List β} (h : All2 R l m) {i : Nat} {a : α} (ha : l[i]? = some a) : ∃ b,m[i]? = some b ∧ R a b := by
 have hi := (List.getElem?_eq_some_iff.1 ha).1
 exact ⟨m[i]'(h.1 ▸ hi),List.getElem?_eq_getElem _,h.2 i a _ ha (List.getElem?_eq_getElem _)⟩
def strs (ws : List ByteArray) : List AV := ws.map fun s => .v (.string s)
abbrev Line := List ByteArray
abbrev Chap := Int × List Line
abbrev Txt := List Chap
def LineA (ws : Line) (x : AV) : Prop := SlOf 1 (strs ws) x
def LinesA (ls : List Line) (x : AV) : Prop := ∃ xs,SlOf 1 xs x ∧ All2 LineA ls xs
def ChapA (c : Chap) (y : AV) : Prop := ∃ l,y = .agg [intA c.1,l] ∧ LinesA c.2 l
def ChsA (t : Txt) (x : AV) : Prop := ∃ xs,SlOf 2 xs x ∧ All2 ChapA t xs
def TextA (t : Txt) (x : AV) : Prop := ∃ ch,x = .agg [ch] ∧ ChsA t ch
structure Fits (t : Txt) : Prop where
 chs : t.length < 2 ^ 63
 lines : ∀ c ∈ t,c.2.length < 2 ^ 63
 words : ∀ c ∈ t,∀ l ∈ c.2,l.length < 2 ^ 63
 size : ∀ c ∈ t,∀ l ∈ c.2,∀ s ∈ l,s.size < 2 ^ 63
theorem strs_get {ws : Line} {i : Nat} {s : ByteArray} (h : ws[i]? = some s) : (strs ws)[i]? = some (.v (.string s)) := by
 unfold strs;rw [List.getElem?_map,h];rfl
theorem strs_len (ws : Line) : (strs ws).length = ws.length := by simp [strs]
def greatL (l : Line) : Bool := decide (l.length > 15) || l.any fun s => decide (s.size > 40)
def greatC (c : Chap) : Bool := decide (c.2.length > 15) || c.2.any greatL
def greatT (t : Txt) : Bool := decide (t.length > 10) || t.any greatC
noncomputable def body38 (n : Nat) : Code := ((Tryz.f15.body.map loops).getD [])[n]?.getD .skip
end Go.Ev
namespace Go.Ev
open Go.Proofs
def wsG (ws : Line) (j : Nat) : Bool := (ws.drop j).any fun s => decide (s.size > 40)
theorem drop_any {α : Type} (p : α → Bool) (l : List α) (j : Nat) (x : α) (h : l[j]? = some x) : (l.drop j).any p = (p x || (l.drop (j + 1)).any p) := by
 obtain ⟨hj,rfl⟩ := List.getElem?_eq_some_iff.1 h
 rw [List.drop_eq_getElem_cons hj,List.any_cons]
theorem drop_all {α : Type} (p : α → Bool) (l : List α) (j : Nat) (x : α) (h : l[j]? = some x) : (l.drop j).all p = (p x && (l.drop (j + 1)).all p) := by
 obtain ⟨hj,rfl⟩ := List.getElem?_eq_some_iff.1 h
 rw [List.drop_eq_getElem_cons hj,List.all_cons]
theorem at_lt {α : Type} (l : List α) (j : Nat) (h : j < l.length) : ∃ x,l[j]? = some x := ⟨l[j],List.getElem?_eq_getElem h⟩
theorem loop38c {e : Exts} (xs lxs : List AV) (ch : AV) (hch : SlOf 2 xs ch) (i k : Nat) (id : Int) (l lx : AV) (hy : xs[i]? = some (.agg [intA id,l])) (hl : SlOf 1 lxs l) (hk : lxs[k]? = some lx) (ws : Line) (hlx : SlOf 1 (strs ws) lx) (hn : ws.length < 2 ^ 63) (K : Post) :
  ∀ m j : Nat,j + m = ws.length → (wsG ws j = false → AtK K (.exit 4) ⟨75,[(0,.agg [ch]),(1,.ptr 0 0 0),(2,.v (.bool false)),(9,.v (.bool false)),(3,intA i),(14,.v (.bool true)),(24,.v (.bool false)),(4,intA k),(33,.v (.bool true)),(46,.v (.bool false)),(5,intA (ws.length : Nat))],[]⟩ ⟨[some (.cells 0 0 24 1 false [ch])],0⟩) → (wsG ws j = true → ∀ tl HH,assoc 2 tl = some (.v (.bool true)) → AtK K .ret ⟨75,tl,[]⟩ HH) →
  Lp (Cx e) 15 none [0,1,2,9,3,14,24,4,33,46,5] (body38 2) ⟨75,[(0,.agg [ch]),(1,.ptr 0 0 0),(2,.v (.bool false)),(9,.v (.bool false)),(3,intA i),(14,.v (.bool true)),(24,.v (.bool false)),(4,intA k),(33,.v (.bool true)),(46,.v (.bool false)),(5,intA j)],[]⟩ ⟨[some (.cells 0 0 24 1 false [ch])],0⟩ K := by
 intro m
 induction m with
 | zero =>
  intro j hj h1 h2
  rw [Lp_step]
  generalize hK : loopK (Cx e) 15 none [0,1,2,9,3,14,24,4,33,46,5] (body38 2) _ K = KK
  unfold body38
  obtain rfl : j = ws.length := by omega
  simp only [Tryz.f15,loops,Option.map_some,Option.getD_some,List.nil_append,List.append_nil,List.cons_append,List.getElem?_cons_zero,List.getElem?_cons_succ]
  simp -implicitDefEqProofs only [go_sem,↓reduceIte,intA,Int.lt_irrefl,hch.len,hch.idx hy,hl.len,hl.idx hk,hlx.len,hlx.cells,strs_len]
  subst hK
  simp -implicitDefEqProofs only [go_sem,↓reduceIte]
  exact h1 (by simp [wsG])
 | succ m ih =>
  intro j hj h1 h2
  rw [Lp_step]
  generalize hK : loopK (Cx e) 15 none [0,1,2,9,3,14,24,4,33,46,5] (body38 2) _ K = KK
  unfold body38
  have hlt : (j : Int) < ((ws.length : Nat) : Int) := by omega
  have hw := wrap_succ j (by omega)
  have hj0 : (0 : Int) ≤ (j : Int) := by omega
  simp only [Tryz.f15,loops,Option.map_some,Option.getD_some,List.nil_append,List.append_nil,List.cons_append,List.getElem?_cons_zero,List.getElem?_cons_succ]
  obtain ⟨s,hs⟩ := at_lt ws j (by omega)
  have hd : wsG ws j = (decide (s.size > 40) || wsG ws (j + 1)) := drop_any _ ws j s hs
  by_cases c1 : 40 < (s.size : Int)
  ·simp -implicitDefEqProofs only [go_sem,↓reduceIte,intA,hlt,hw,hch.len,hch.idx hy,hl.len,hl.idx hk,hlx.len,hlx.cells,strs_len,hlx.idx (strs_get hs),c1]
   subst hK
   simp -implicitDefEqProofs only [go_sem,↓reduceIte]
   exact h2 (by rw [hd];simp;left;omega) _ _ rfl
  ·simp -implicitDefEqProofs only [go_sem,↓reduceIte,intA,hlt,hw,hch.len,hch.idx hy,hl.len,hl.idx hk,hlx.len,hlx.cells,strs_len,hlx.idx (strs_get hs),c1]
   subst hK
   simp -implicitDefEqProofs only [go_sem,↓reduceIte]
   have hd' : wsG ws j = wsG ws (j + 1) := by rw [hd];simp;omega
   rw [hd'] at h1 h2
   exact ih (j + 1) (by omega) h1 h2
def lnG (ls : List Line) (j : Nat) : Bool := (ls.drop j).any greatL
def chG (t : Txt) (j : Nat) : Bool := (t.drop j).any greatC
theorem greatL_eq (ws : Line) : greatL ws = (decide (ws.length > 15) || wsG ws 0) := rfl
theorem loop38b {e : Exts} (xs lxs : List AV) (ch : AV) (hch : SlOf 2 xs ch) (i : Nat) (id : Int) (l : AV) (hy : xs[i]? = some (.agg [intA id,l])) (hl : SlOf 1 lxs l) (ls : List Line) (hls : All2 LineA ls lxs) (hn : ls.length < 2 ^ 63) (hz : ∀ s ∈ ls,s.length < 2 ^ 63) (K : Post) :
  ∀ m j : Nat,j + m = ls.length → (lnG ls j = false → AtK K (.exit 2) ⟨75,[(0,.agg [ch]),(1,.ptr 0 0 0),(2,.v (.bool false)),(9,.v (.bool false)),(3,intA i),(14,.v (.bool true)),(24,.v (.bool false)),(4,intA (ls.length : Nat))],[]⟩ ⟨[some (.cells 0 0 24 1 false [ch])],0⟩) → (lnG ls j = true → ∀ tl HH,assoc 2 tl = some (.v (.bool true)) → AtK K .ret ⟨75,tl,[]⟩ HH) →
  Lp (Cx e) 15 none [0,1,2,9,3,14,24,4] (body38 1) ⟨75,[(0,.agg [ch]),(1,.ptr 0 0 0),(2,.v (.bool false)),(9,.v (.bool false)),(3,intA i),(14,.v (.bool true)),(24,.v (.bool false)),(4,intA j)],[]⟩ ⟨[some (.cells 0 0 24 1 false [ch])],0⟩ K := by
 intro m
 induction m with
 | zero =>
  intro j hj h1 h2
  rw [Lp_step]
  generalize hK : loopK (Cx e) 15 none [0,1,2,9,3,14,24,4] (body38 1) _ K = KK
  unfold body38
  obtain rfl : j = ls.length := by omega
  simp only [Tryz.f15,loops,Option.map_some,Option.getD_some,List.nil_append,List.append_nil,List.cons_append,List.getElem?_cons_zero,List.getElem?_cons_succ]
  simp -implicitDefEqProofs only [go_sem,↓reduceIte,intA,Int.lt_irrefl,hch.len,hch.idx hy,hl.len,← hls.1]
  subst hK
  simp -implicitDefEqProofs only [go_sem,↓reduceIte]
  exact h1 (by simp [lnG])
 | succ m ih =>
  intro j hj h1 h2
  rw [Lp_step]
  generalize hK : loopK (Cx e) 15 none [0,1,2,9,3,14,24,4] (body38 1) _ K = KK
  unfold body38
  have hlt : (j : Int) < ((ls.length : Nat) : Int) := by omega
  have hw := wrap_succ j (by omega)
  have hj0 : (0 : Int) ≤ (j : Int) := by omega
  simp only [Tryz.f15,loops,Option.map_some,Option.getD_some,List.nil_append,List.append_nil,List.cons_append,List.getElem?_cons_zero,List.getElem?_cons_succ]
  obtain ⟨ws,hs⟩ := at_lt ls j (by omega)
  obtain ⟨lx,hk,hlx⟩ := hls.get hs
  have hlx : SlOf 1 (strs ws) lx := hlx
  have hd : lnG ls j = (greatL ws || lnG ls (j + 1)) := drop_any _ ls j ws hs
  by_cases c1 : 15 < (ws.length : Int)
  ·simp -implicitDefEqProofs only [go_sem,↓reduceIte,intA,hlt,hw,hch.len,hch.idx hy,hl.len,hl.idx hk,hlx.len,hlx.cells,strs_len,← hls.1,c1]
   subst hK
   simp -implicitDefEqProofs only [go_sem,↓reduceIte]
   exact h2 (by rw [hd,greatL_eq];simp;left;left;omega) _ _ rfl
  ·simp -implicitDefEqProofs only [go_sem,↓reduceIte,intA,hlt,hw,hch.len,hch.idx hy,hl.len,hl.idx hk,hlx.len,hlx.cells,strs_len,← hls.1,c1]
   refine loop38c xs lxs ch hch i j id l lx hy hl hk ws hlx (hz ws (List.mem_of_getElem? hs)) _ ws.length 0 (by omega) ?_ ?_
   ·intro hf
    simp -implicitDefEqProofs only [go_sem,↓reduceIte,intA,hw]
    subst hK
    simp -implicitDefEqProofs only [go_sem,↓reduceIte]
    have hd' : lnG ls j = lnG ls (j + 1) := by rw [hd,greatL_eq,hf];simp;omega
    rw [hd'] at h1 h2
    exact ih (j + 1) (by omega) h1 h2
   ·intro hf l HH hl
    subst hK
    simp -implicitDefEqProofs only [go_sem,↓reduceIte]
    exact h2 (by rw [hd,greatL_eq,hf];simp) l HH hl
theorem loop38a {e : Exts} (xs : List AV) (ch : AV) (hch : SlOf 2 xs ch) (t : Txt) (ht : Fits t) (hn : t.length < 2 ^ 63) (hall : All2 ChapA t xs) (K : Post) :
  ∀ m j : Nat,j + m = t.length → (chG t j = false → AtK K (.exit 0) ⟨75,[(0,.agg [ch]),(1,.ptr 0 0 0),(2,.v (.bool false)),(9,.v (.bool false)),(3,intA (t.length : Nat))],[]⟩ ⟨[some (.cells 0 0 24 1 false [ch])],0⟩) → (chG t j = true → ∀ tl HH,assoc 2 tl = some (.v (.bool true)) → AtK K .ret ⟨75,tl,[]⟩ HH) →
  Lp (Cx e) 15 none [0,1,2,9,3] (body38 0) ⟨75,[(0,.agg [ch]),(1,.ptr 0 0 0),(2,.v (.bool false)),(9,.v (.bool false)),(3,intA j)],[]⟩ ⟨[some (.cells 0 0 24 1 false [ch])],0⟩ K := by
 intro m
 induction m with
 | zero =>
  intro j hj h1 h2
  rw [Lp_step]
  generalize hK : loopK (Cx e) 15 none [0,1,2,9,3] (body38 0) _ K = KK
  unfold body38
  obtain rfl : j = t.length := by omega
  simp only [Tryz.f15,loops,Option.map_some,Option.getD_some,List.nil_append,List.append_nil,List.cons_append,List.getElem?_cons_zero,List.getElem?_cons_succ]
  simp -implicitDefEqProofs only [go_sem,↓reduceIte,intA,Int.lt_irrefl,hch.len,← hall.1]
  subst hK
  simp -implicitDefEqProofs only [go_sem,↓reduceIte]
  exact h1 (by simp [chG])
 | succ m ih =>
  intro j hj h1 h2
  rw [Lp_step]
  generalize hK : loopK (Cx e) 15 none [0,1,2,9,3] (body38 0) _ K = KK
  unfold body38
  have hlt : (j : Int) < ((t.length : Nat) : Int) := by omega
  have hw := wrap_succ j (by omega)
  have hj0 : (0 : Int) ≤ (j : Int) := by omega
  simp only [Tryz.f15,loops,Option.map_some,Option.getD_some,List.nil_append,List.append_nil,List.cons_append,List.getElem?_cons_zero,List.getElem?_cons_succ]
  have hfit := ht.chs
  have hw := wrap_succ j (by omega)
  obtain ⟨c,hs⟩ := at_lt t j (by omega)
  obtain ⟨y,hy,l,rfl,lxs,hl,hls⟩ := hall.get hs
  have hd : chG t j = (greatC c || chG t (j + 1)) := drop_any _ t j c hs
  have hm := List.mem_of_getElem? hs
  by_cases c1 : 15 < (c.2.length : Int)
  ·simp -implicitDefEqProofs only [go_sem,↓reduceIte,intA,hlt,hw,hch.len,hch.idx hy,hl.len,hl.cells,← hls.1,← hall.1,c1]
   subst hK
   simp -implicitDefEqProofs only [go_sem,↓reduceIte]
   exact h2 (by rw [hd];unfold greatC;simp;left;left;omega) _ _ rfl
  ·simp -implicitDefEqProofs only [go_sem,↓reduceIte,intA,hlt,hw,hch.len,hch.idx hy,hl.len,hl.cells,← hls.1,← hall.1,c1]
   refine loop38b xs lxs ch hch j c.1 l hy hl c.2 hls (ht.lines c hm) (ht.words c hm) _ c.2.length 0 (by omega) ?_ ?_
   ·intro hf
    simp -implicitDefEqProofs only [go_sem,↓reduceIte,intA,hw]
    subst hK
    simp -implicitDefEqProofs only [go_sem,↓reduceIte]
    have hd' : chG t j = chG t (j + 1) := by
     rw [hd];unfold greatC;rw [show c.2.any greatL = lnG c.2 0 from rfl,hf];simp;omega
    rw [hd'] at h1 h2
    exact ih (j + 1) (by omega) h1 h2
   ·intro hf l HH hl
    subst hK
    simp -implicitDefEqProofs only [go_sem,↓reduceIte]
    exact h2 (by rw [hd];unfold greatC;rw [show c.2.any greatL = lnG c.2 0 from rfl,hf];simp) l HH hl
theorem ans38 {e : Exts} (t : Txt) (ht : Fits t) (x : AV) (hx : TextA t x) : Ans (Cx e) 15 [x] (.v (.bool (greatT t))) := by
 obtain ⟨ch,rfl,xs,hch,hall⟩ := hx
 unfold Ans
 rw [fn_step (fn_15 e) (show Tryz.f15.body = some _ from rfl)]
 by_cases h1 : 10 < (t.length : Int)
 ·simp -implicitDefEqProofs only [Tryz.f15,intA,go_sem,↓reduceIte,hch.len,hch.cells,hch.flat,hch.bound,← hall.1,h1]
  have : greatT t = true := by unfold greatT;simp;left;omega
  rw [this]
 ·simp -implicitDefEqProofs only [Tryz.f15,intA,go_sem,↓reduceIte,hch.len,hch.cells,hch.flat,hch.bound,← hall.1,h1]
  refine loop38a xs ch hch t ht ht.chs hall _ t.length 0 (by omega) ?_ ?_
  ·intro hf
   simp -implicitDefEqProofs only [go_sem,↓reduceIte]
   have : greatT t = false := by unfold greatT;rw [show t.any greatC = chG t 0 from rfl,hf];simp;omega
   rw [this]
  ·intro hf l HH hl
   simp -implicitDefEqProofs only [go_sem,↓reduceIte,hl]
   have : greatT t = true := by unfold greatT;rw [show t.any greatC = chG t 0 from rfl,hf];simp
   rw [this]
end Go.Ev
namespace Go.Ev
open Go.Proofs
def wsB (ws : Line) (j : Nat) : Bool := !(ws.drop j).all wordB
def lineB (l : Line) : Bool := withinB 1 10 [(l.length : Int)] && l.all wordB
def lnB (ls : List Line) (j : Nat) : Bool := !(ls.drop j).all lineB
def idB (t : Txt) (id : Int) (j n : Nat) : Bool := ((t.take n).drop j).any fun c => decide (c.1 = id)
def condC (t : Txt) (i : Nat) (c : Chap) : Bool := withinB 0 9999 [c.1] && withinB 1 10 [(c.2.length : Int)] && !idB t c.1 0 i && c.2.all lineB
def okFrom (t : Txt) : Nat → Txt → Bool
 | _,[] => true
 | j,c :: r => condC t j c && okFrom t (j + 1) r
def textB (t : Txt) : Bool := withinB 1 6 [(t.length : Int)] && okFrom t 0 t
noncomputable def body39 (n : Nat) : Code := ((Tryz.f56.body.map loops).getD [])[n]?.getD .skip
theorem idB_step (t : Txt) (id : Int) (n j : Nat) (c : Chap) (_hn : n ≤ t.length) (hj : j < n) (h : t[j]? = some c) : idB t id j n = (decide (c.1 = id) || idB t id (j + 1) n) := by
 unfold idB
 exact drop_any _ _ j c (by rw [List.getElem?_take,if_pos hj];exact h)
theorem loop39i {e : Exts} (t : Txt) (xs : List AV) (ch : AV) (hch : SlOf 2 xs ch) (hall : All2 ChapA t xs) (i : Nat) (hi : i ≤ t.length) (hn : i < 2 ^ 63) (id : Int) (l : AV) (K : Post) :
  ∀ m j : Nat,j + m = i → (idB t id j i = false → AtK K (.exit 2) ⟨85,[(0,.agg [ch]),(1,.ptr 0 0 0),(2,.v (.bool false)),(12,.v (.bool false)),(3,intA i),(17,.v (.bool true)),(4,.ptr 1 0 0),(35,.v (.bool false)),(5,intA (i : Nat))],[]⟩ ⟨[some (.cells 0 0 24 1 false [ch]),some (.cells 0 0 112 1 false [intA id,l])],0⟩) → (idB t id j i = true → ∀ tl HH,assoc 2 tl = some (.v (.bool false)) → AtK K .ret ⟨85,tl,[]⟩ HH) →
  Lp (Cx e) 56 none [0,1,2,12,3,17,4,35,5] (body39 1) ⟨85,[(0,.agg [ch]),(1,.ptr 0 0 0),(2,.v (.bool false)),(12,.v (.bool false)),(3,intA i),(17,.v (.bool true)),(4,.ptr 1 0 0),(35,.v (.bool false)),(5,intA j)],[]⟩ ⟨[some (.cells 0 0 24 1 false [ch]),some (.cells 0 0 112 1 false [intA id,l])],0⟩ K := by
 intro m
 induction m with
 | zero =>
  intro j hj h1 h2
  rw [Lp_step]
  generalize hK : loopK (Cx e) 56 none [0,1,2,12,3,17,4,35,5] (body39 1) _ K = KK
  unfold body39
  obtain rfl : j = i := by omega
  simp only [Tryz.f56,loops,Option.map_some,Option.getD_some,List.nil_append,List.append_nil,List.cons_append,List.getElem?_cons_zero,List.getElem?_cons_succ]
  simp -implicitDefEqProofs only [go_sem,↓reduceIte,intA,Int.lt_irrefl,hch.len]
  subst hK
  simp -implicitDefEqProofs only [go_sem,↓reduceIte]
  exact h1 (by unfold idB;rw [List.drop_of_length_le (by simp;omega)];rfl)
 | succ m ih =>
  intro j hj h1 h2
  rw [Lp_step]
  generalize hK : loopK (Cx e) 56 none [0,1,2,12,3,17,4,35,5] (body39 1) _ K = KK
  unfold body39
  have hlt : (j : Int) < ((i : Nat) : Int) := by omega
  have hw := wrap_succ j (by omega)
  have hj0 : (0 : Int) ≤ (j : Int) := by omega
  simp only [Tryz.f56,loops,Option.map_some,Option.getD_some,List.nil_append,List.append_nil,List.cons_append,List.getElem?_cons_zero,List.getElem?_cons_succ]
  obtain ⟨c,hs⟩ := at_lt t j (by omega)
  obtain ⟨y,hy,lj,rfl, -⟩ := hall.get hs
  have hd := idB_step t id i j c hi (by omega) hs
  simp -implicitDefEqProofs only [go_sem,↓reduceIte,intA,hlt,hw]
  refine wp_draw (by kernel_rfl) ?_
  by_cases c1 : c.1 = id
  ·simp -implicitDefEqProofs only [go_sem,↓reduceIte,intA,hlt,hw,hch.idx hy,c1]
   subst hK
   simp -implicitDefEqProofs only [go_sem,↓reduceIte]
   exact h2 (by rw [hd];simp [c1]) _ _ rfl
  ·simp -implicitDefEqProofs only [go_sem,↓reduceIte,intA,hlt,hw,hch.idx hy,c1]
   subst hK
   simp -implicitDefEqProofs only [go_sem,↓reduceIte]
   have hd' : idB t id j i = idB t id (j + 1) i := by rw [hd];simp [c1]
   rw [hd'] at h1 h2
   exact ih (j + 1) (by omega) h1 h2
theorem loop39w {e : Exts} (he : Quiet e) (ch : AV) (i k : Nat) (id : Int) (lxs : List AV) (l lx : AV) (hl : SlOf 1 lxs l) (hk : lxs[k]? = some lx) (ws : Line) (hlx : SlOf 1 (strs ws) lx) (hn : ws.length < 2 ^ 63) (hz : ∀ s ∈ ws,s.size < 2 ^ 63) (K : Post) :
  ∀ m j : Nat,j + m = ws.length → (wsB ws j = false → AtK K (.exit 6) ⟨85,[(0,.agg [ch]),(1,.ptr 0 0 0),(2,.v (.bool false)),(12,.v (.bool false)),(3,intA i),(17,.v (.bool true)),(4,.ptr 1 0 0),(35,.v (.bool false)),(5,intA i),(6,intA k),(54,.v (.bool true)),(64,.v (.bool false)),(7,intA (ws.length : Nat))],[]⟩ ⟨[some (.cells 0 0 24 1 false [ch]),some (.cells 0 0 112 1 false [intA id,l])],0⟩) → (wsB ws j = true → ∀ tl HH,assoc 2 tl = some (.v (.bool false)) → AtK K .ret ⟨85,tl,[]⟩ HH) →
  Lp (Cx e) 56 none [0,1,2,12,3,17,4,35,5,6,54,64,7] (body39 3) ⟨85,[(0,.agg [ch]),(1,.ptr 0 0 0),(2,.v (.bool false)),(12,.v (.bool false)),(3,intA i),(17,.v (.bool true)),(4,.ptr 1 0 0),(35,.v (.bool false)),(5,intA i),(6,intA k),(54,.v (.bool true)),(64,.v (.bool false)),(7,intA j)],[]⟩ ⟨[some (.cells 0 0 24 1 false [ch]),some (.cells 0 0 112 1 false [intA id,l])],0⟩ K := by
 intro m
 induction m with
 | zero =>
  intro j hj h1 h2
  rw [Lp_step]
  generalize hK : loopK (Cx e) 56 none [0,1,2,12,3,17,4,35,5,6,54,64,7] (body39 3) _ K = KK
  unfold body39
  obtain rfl : j = ws.length := by omega
  simp only [Tryz.f56,loops,Option.map_some,Option.getD_some,List.nil_append,List.append_nil,List.cons_append,List.getElem?_cons_zero,List.getElem?_cons_succ]
  simp -implicitDefEqProofs only [go_sem,↓reduceIte,intA,Int.lt_irrefl,hl.len,hl.cells,hl.idx hk,hlx.len,hlx.cells,strs_len]
  subst hK
  simp -implicitDefEqProofs only [go_sem,↓reduceIte]
  exact h1 (by unfold wsB;rw [List.drop_of_length_le (by simp)];rfl)
 | succ m ih =>
  intro j hj h1 h2
  rw [Lp_step]
  generalize hK : loopK (Cx e) 56 none [0,1,2,12,3,17,4,35,5,6,54,64,7] (body39 3) _ K = KK
  unfold body39
  have hlt : (j : Int) < ((ws.length : Nat) : Int) := by omega
  have hw := wrap_succ j (by omega)
  have hj0 : (0 : Int) ≤ (j : Int) := by omega
  simp only [Tryz.f56,loops,Option.map_some,Option.getD_some,List.nil_append,List.append_nil,List.cons_append,List.getElem?_cons_zero,List.getElem?_cons_succ]
  obtain ⟨s,hs⟩ := at_lt ws j (by omega)
  have hd : wsB ws j = (!wordB s || wsB ws (j + 1)) := by unfold wsB;rw [drop_all _ ws j s hs,Bool.not_and]
  have hc := call61 he s (hz s (List.mem_of_getElem? hs))
  cases c1 : wordB s
  ·rw [c1] at hc
   simp -implicitDefEqProofs only [go_sem,↓reduceIte,intA,hlt,hw,hl.len,hl.cells,hl.idx hk,hlx.len,hlx.cells,strs_len,hlx.idx (strs_get hs),hc]
   subst hK
   simp -implicitDefEqProofs only [go_sem,↓reduceIte]
   exact h2 (by rw [hd,c1];rfl) _ _ rfl
  ·rw [c1] at hc
   simp -implicitDefEqProofs only [go_sem,↓reduceIte,intA,hlt,hw,hl.len,hl.cells,hl.idx hk,hlx.len,hlx.cells,strs_len,hlx.idx (strs_get hs),hc]
   subst hK
   simp -implicitDefEqProofs only [go_sem,↓reduceIte]
   have hd' : wsB ws j = wsB ws (j + 1) := by rw [hd,c1];rfl
   rw [hd'] at h1 h2
   exact ih (j + 1) (by omega) h1 h2
theorem loop39l {e : Exts} (he : Quiet e) (ch : AV) (i : Nat) (id : Int) (lxs : List AV) (l : AV) (hl : SlOf 1 lxs l) (ls : List Line) (hls : All2 LineA ls lxs) (hn : ls.length < 2 ^ 63) (hz : ∀ s ∈ ls,s.length < 2 ^ 63) (hzz : ∀ l ∈ ls,∀ s ∈ l,s.size < 2 ^ 63) (K : Post) :
  ∀ m j : Nat,j + m = ls.length → (lnB ls j = false → AtK K (.exit 4) ⟨85,[(0,.agg [ch]),(1,.ptr 0 0 0),(2,.v (.bool false)),(12,.v (.bool false)),(3,intA i),(17,.v (.bool true)),(4,.ptr 1 0 0),(35,.v (.bool false)),(5,intA i),(6,intA (ls.length : Nat))],[]⟩ ⟨[some (.cells 0 0 24 1 false [ch]),some (.cells 0 0 112 1 false [intA id,l])],0⟩) → (lnB ls j = true → ∀ tl HH,assoc 2 tl = some (.v (.bool false)) → AtK K .ret ⟨85,tl,[]⟩ HH) →
  Lp (Cx e) 56 none [0,1,2,12,3,17,4,35,5,6] (body39 2) ⟨85,[(0,.agg [ch]),(1,.ptr 0 0 0),(2,.v (.bool false)),(12,.v (.bool false)),(3,intA i),(17,.v (.bool true)),(4,.ptr 1 0 0),(35,.v (.bool false)),(5,intA i),(6,intA j)],[]⟩ ⟨[some (.cells 0 0 24 1 false [ch]),some (.cells 0 0 112 1 false [intA id,l])],0⟩ K := by
 intro m
 induction m with
 | zero =>
  intro j hj h1 h2
  rw [Lp_step]
  generalize hK : loopK (Cx e) 56 none [0,1,2,12,3,17,4,35,5,6] (body39 2) _ K = KK
  unfold body39
  obtain rfl : j = ls.length := by omega
  simp only [Tryz.f56,loops,Option.map_some,Option.getD_some,List.nil_append,List.append_nil,List.cons_append,List.getElem?_cons_zero,List.getElem?_cons_succ]
  simp -implicitDefEqProofs only [go_sem,↓reduceIte,intA,Int.lt_irrefl,hl.len,hl.cells,← hls.1]
  subst hK
  simp -implicitDefEqProofs only [go_sem,↓reduceIte]
  exact h1 (by unfold lnB;rw [List.drop_of_length_le (by simp)];rfl)
 | succ m ih =>
  intro j hj h1 h2
  rw [Lp_step]
  generalize hK : loopK (Cx e) 56 none [0,1,2,12,3,17,4,35,5,6] (body39 2) _ K = KK
  unfold body39
  have hlt : (j : Int) < ((ls.length : Nat) : Int) := by omega
  have hw := wrap_succ j (by omega)
  have hj0 : (0 : Int) ≤ (j : Int) := by omega
  simp only [Tryz.f56,loops,Option.map_some,Option.getD_some,List.nil_append,List.append_nil,List.cons_append,List.getElem?_cons_zero,List.getElem?_cons_succ]
  obtain ⟨ws,hs⟩ := at_lt ls j (by omega)
  obtain ⟨lx,hk,hlx⟩ := hls.get hs
  have hlx : SlOf 1 (strs ws) lx := hlx
  have hd : lnB ls j = (!lineB ws || lnB ls (j + 1)) := by unfold lnB;rw [drop_all _ ls j ws hs,Bool.not_and]
  have hm := List.mem_of_getElem? hs
  have hc := call43 he (ws.length : Int) 1 10
  cases c1 : withinB 1 10 [(ws.length : Int)]
  ·rw [c1] at hc
   simp -implicitDefEqProofs only [go_sem,↓reduceIte,intA,hlt,hw,hl.len,hl.cells,hl.idx hk,hlx.len,hlx.cells,strs_len,← hls.1,hc]
   subst hK
   simp -implicitDefEqProofs only [go_sem,↓reduceIte]
   exact h2 (by rw [hd];unfold lineB;rw [c1];rfl) _ _ rfl
  ·rw [c1] at hc
   simp -implicitDefEqProofs only [go_sem,↓reduceIte,intA,hlt,hw,hl.len,hl.cells,hl.idx hk,hlx.len,hlx.cells,strs_len,← hls.1,hc]
   refine loop39w he ch i j id lxs l lx hl hk ws hlx (hz ws hm) (hzz ws hm) _ ws.length 0 (by omega) ?_ ?_
   ·intro hf
    simp -implicitDefEqProofs only [go_sem,↓reduceIte,intA,hw]
    subst hK
    simp -implicitDefEqProofs only [go_sem,↓reduceIte]
    have hf' : ws.all wordB = true := by unfold wsB at hf;simpa using hf
    have hd' : lnB ls j = lnB ls (j + 1) := by rw [hd];unfold lineB;rw [c1,hf'];rfl
    rw [hd'] at h1 h2
    exact ih (j + 1) (by omega) h1 h2
   ·intro hf l HH hl
    subst hK
    simp -implicitDefEqProofs only [go_sem,↓reduceIte]
    have hf' : ws.all wordB = false := by unfold wsB at hf;simpa using hf
    exact h2 (by rw [hd];unfold lineB;rw [hf',Bool.and_false];rfl) l HH hl
def chB (t : Txt) (j : Nat) : Bool := !okFrom t j (t.drop j)
theorem chB_step (t : Txt) (j : Nat) (c : Chap) (h : t[j]? = some c) : chB t j = (!condC t j c || chB t (j + 1)) := by
 obtain ⟨hj,rfl⟩ := List.getElem?_eq_some_iff.1 h
 unfold chB
 rw [List.drop_eq_getElem_cons hj]
 simp only [okFrom,Bool.not_and]
theorem loop39c {e : Exts} (he : Quiet e) (t : Txt) (ht : Fits t) (xs : List AV) (ch : AV) (hch : SlOf 2 xs ch) (hn : t.length < 2 ^ 63) (hall : All2 ChapA t xs) (K : Post) :
  ∀ m j : Nat,j + m = t.length → (chB t j = false → AtK K (.exit 0) ⟨85,[(0,.agg [ch]),(1,.ptr 0 0 0),(2,.v (.bool false)),(12,.v (.bool false)),(3,intA (t.length : Nat))],[]⟩ ⟨[some (.cells 0 0 24 1 false [ch])],0⟩) → (chB t j = true → ∀ tl HH,assoc 2 tl = some (.v (.bool false)) → AtK K .ret ⟨85,tl,[]⟩ HH) →
  Lp (Cx e) 56 none [0,1,2,12,3] (body39 0) ⟨85,[(0,.agg [ch]),(1,.ptr 0 0 0),(2,.v (.bool false)),(12,.v (.bool false)),(3,intA j)],[]⟩ ⟨[some (.cells 0 0 24 1 false [ch])],0⟩ K := by
 intro m
 induction m with
 | zero =>
  intro j hj h1 h2
  rw [Lp_step]
  generalize hK : loopK (Cx e) 56 none [0,1,2,12,3] (body39 0) _ K = KK
  unfold body39
  obtain rfl : j = t.length := by omega
  simp only [Tryz.f56,loops,Option.map_some,Option.getD_some,List.nil_append,List.append_nil,List.cons_append,List.getElem?_cons_zero,List.getElem?_cons_succ]
  simp -implicitDefEqProofs only [go_sem,↓reduceIte,intA,Int.lt_irrefl,hch.len,← hall.1]
  subst hK
  simp -implicitDefEqProofs only [go_sem,↓reduceIte]
  exact h1 (by unfold chB;rw [List.drop_of_length_le (by simp)];rfl)
 | succ m ih =>
  intro j hj h1 h2
  rw [Lp_step]
  generalize hK : loopK (Cx e) 56 none [0,1,2,12,3] (body39 0) _ K = KK
  unfold body39
  have hlt : (j : Int) < ((t.length : Nat) : Int) := by omega
  have hw := wrap_succ j (by omega)
  have hj0 : (0 : Int) ≤ (j : Int) := by omega
  simp only [Tryz.f56,loops,Option.map_some,Option.getD_some,List.nil_append,List.append_nil,List.cons_append,List.getElem?_cons_zero,List.getElem?_cons_succ]
  obtain ⟨c,hs⟩ := at_lt t j (by omega)
  obtain ⟨y,hy,l,rfl,lxs,hl,hls⟩ := hall.get hs
  have hd := chB_step t j c hs
  have hm := List.mem_of_getElem? hs
  have hca := call43 he c.1 0 9999
  have hcb := call43 he (c.2.length : Int) 1 10
  cases c1 : withinB 0 9999 [c.1]
  ·rw [c1] at hca
   simp -implicitDefEqProofs only [go_sem,↓reduceIte,intA,hlt,hw,hch.len,hch.idx hy,hl.len,hl.cells,hl.flat,hl.bound,← hls.1,← hall.1,hca]
   subst hK
   simp -implicitDefEqProofs only [go_sem,↓reduceIte]
   exact h2 (by rw [hd];unfold condC;rw [c1];rfl) _ _ rfl
  ·rw [c1] at hca
   cases c2 : withinB 1 10 [(c.2.length : Int)]
   ·rw [c2] at hcb
    simp -implicitDefEqProofs only [go_sem,↓reduceIte,intA,hlt,hw,hch.len,hch.idx hy,hl.len,hl.cells,hl.flat,hl.bound,← hls.1,← hall.1,hca,hcb]
    subst hK
    simp -implicitDefEqProofs only [go_sem,↓reduceIte]
    exact h2 (by rw [hd];unfold condC;rw [c1,c2];rfl) _ _ rfl
   ·rw [c2] at hcb
    simp -implicitDefEqProofs only [go_sem,↓reduceIte,intA,hlt,hw,hch.len,hch.idx hy,hl.len,hl.cells,hl.flat,hl.bound,← hls.1,← hall.1,hca,hcb]
    refine loop39i t xs ch hch hall j (by omega) (by omega) c.1 l _ j 0 (by omega) ?_ ?_
    ·intro hf
     simp -implicitDefEqProofs only [go_sem,↓reduceIte,intA]
     refine loop39l he ch j c.1 lxs l hl c.2 hls (ht.lines c hm) (ht.words c hm) (ht.size c hm) _ c.2.length 0 (by omega) ?_ ?_
     ·intro hg
      have hg' : c.2.all lineB = true := by unfold lnB at hg;simpa using hg
      simp -implicitDefEqProofs only [go_sem,↓reduceIte,intA,hw]
      subst hK
      simp -implicitDefEqProofs only [go_sem,↓reduceIte,trim_at,hch.flat,hch.bound,hch.cells]
      have hd' : chB t j = chB t (j + 1) := by rw [hd];unfold condC;rw [c1,c2,hf,hg'];rfl
      rw [hd'] at h1 h2
      exact ih (j + 1) (by omega) h1 h2
     ·intro hg tl HH htl
      have hg' : c.2.all lineB = false := by unfold lnB at hg;simpa using hg
      subst hK
      simp -implicitDefEqProofs only [go_sem,↓reduceIte]
      exact h2 (by rw [hd];unfold condC;rw [hg',Bool.and_false];rfl) tl HH htl
    ·intro hf tl HH htl
     subst hK
     simp -implicitDefEqProofs only [go_sem,↓reduceIte]
     exact h2 (by rw [hd];unfold condC;rw [c1,c2,hf];rfl) tl HH htl
theorem ans39 {e : Exts} (he : Quiet e) (t : Txt) (ht : Fits t) (x : AV) (hx : TextA t x) : Ans (Cx e) 56 [x] (.v (.bool (textB t))) := by
 obtain ⟨ch,rfl,xs,hch,hall⟩ := hx
 unfold Ans
 rw [fn_step (fn_56 e) (show Tryz.f56.body = some _ from rfl)]
 have hc := call43 he (t.length : Int) 1 6
 cases h1 : withinB 1 6 [(t.length : Int)]
 ·rw [h1] at hc
  simp -implicitDefEqProofs only [Tryz.f56,intA,go_sem,↓reduceIte,hch.len,hch.cells,hch.flat,hch.bound,← hall.1,hc]
  unfold textB;rw [h1];rfl
 ·rw [h1] at hc
  simp -implicitDefEqProofs only [Tryz.f56,intA,go_sem,↓reduceIte,hch.len,hch.cells,hch.flat,hch.bound,← hall.1,hc]
  refine loop39c he t ht xs ch hch ht.chs hall _ t.length 0 (by omega) ?_ ?_
  ·intro hf
   have hf' : okFrom t 0 t = true := by unfold chB at hf;simpa using hf
   simp -implicitDefEqProofs only [go_sem,↓reduceIte]
   unfold textB;rw [h1,hf'];rfl
  ·intro hf tl HH htl
   have hf' : okFrom t 0 t = false := by unfold chB at hf;simpa using hf
   simp -implicitDefEqProofs only [go_sem,↓reduceIte,htl]
   unfold textB;rw [h1,hf'];rfl
end Go.Ev
namespace Go.Ev
def Heap.plus (H : Heap) (E : List (Option AObj)) : Heap := { H with objs := H.objs ++ E }
theorem plus_size (H : Heap) (E : List (Option AObj)) : (H.plus E).size = H.size + E.length := by simp [Heap.plus,Heap.size]
theorem plus_lock (H : Heap) (E : List (Option AObj)) : (H.plus E).lock = H.lock := rfl
theorem plus_nil (H : Heap) : H.plus [] = H := by simp [Heap.plus]
theorem plus_plus (H : Heap) (E F : List (Option AObj)) : (H.plus E).plus F = H.plus (E ++ F) := by simp [Heap.plus]
theorem plus_get {H : Heap} {b : Nat} (E : List (Option AObj)) (h : b < H.size) : (H.plus E).get b = H.get b := by
 unfold Heap.get Heap.plus;simp only;rw [List.getElem?_append_left h]
theorem plus_get_hi {H : Heap} {b : Nat} (E : List (Option AObj)) (h : H.size ≤ b) : (H.plus E).get b = (E[b - H.size]?).join := by
 unfold Heap.get Heap.plus;simp only;rw [List.getElem?_append_right h];rfl
theorem plus_row {H : Heap} {b v : Nat} (E : List (Option AObj)) (h : b < H.size) : (H.plus E).row b v = H.row b v := by
 unfold Heap.row;rw [plus_get E h]
theorem sop_left {α : Type} (x : α) : ∀ (b : Nat) (l E : List α),b < l.length → setOrPush x b (l ++ E) = setOrPush x b l ++ E
 | _,[],_,h => by simp at h
 | 0,y :: r,E,_ => rfl
 | n + 1,y :: r,E,h => by simp only [List.cons_append,setOrPush];rw [sop_left x n r E (by simpa using h)]
theorem sop_right {α : Type} (x : α) : ∀ (b : Nat) (l E : List α),l.length ≤ b → setOrPush x b (l ++ E) = l ++ setOrPush x (b - l.length) E
 | b,[],E,_ => rfl
 | 0,y :: r,E,h => by simp at h
 | n + 1,y :: r,E,h => by
  simp only [List.cons_append,setOrPush];rw [sop_right x n r E (by simpa using h)];simp
theorem plus_put {H : Heap} {b : Nat} (E : List (Option AObj)) (o : AObj) (h : b < H.size) : (H.plus E).put b o = (H.put b o).plus E := by
 unfold Heap.put Heap.plus;simp only;rw [sop_left _ _ _ _ h]
theorem plus_put_hi {H : Heap} {b : Nat} (E : List (Option AObj)) (o : AObj) (h : H.size ≤ b) : (H.plus E).put b o = H.plus (setOrPush (some o) (b - H.size) E) := by
 unfold Heap.put Heap.plus;simp only;rw [sop_right _ _ _ _ h];rfl
theorem put_push {H : Heap} (o : AObj) : H.put H.size o = H.plus [some o] := by
 have h := plus_put_hi (H := H) (b := H.size) [] o (Nat.le_refl _)
 rw [plus_nil] at h
 rw [h,Nat.sub_self];rfl
theorem plus_push {H : Heap} (E : List (Option AObj)) (o : AObj) : (H.plus E).put (H.plus E).size o = H.plus (E ++ [some o]) := by rw [put_push,plus_plus]
section
variable {C : Cfg} {me : FuncId}
def bodyK (l n : Nat) (K : Bool → Heap → Prop) : Post := fun e _ H3 =>
 ∃ r3 j,loopObj H3 l = some r3 ∧ jumpOf e = some j ∧ K j.isNone ((H3.put l (.loop { r3 with state := if j.isNone then .ready else .done,pending := j })).trim n [] [])
def asgK (C : Cfg) (l n : Nat) (r : ALoop) (K : Bool → Heap → Prop) : Post := fun e a1 H1 =>
 e = .normal ∧ ∃ r1,loopObj H1 l = some r1 ∧ r1.state = .ready ∧ Wp C r.fn (some l) r.body a1 (H1.put l (.loop { r1 with state := .busy })) (bodyK l n K)
theorem round_step {l : Nat} {args : List AV} {H : Heap} {r : ALoop} {K : Bool → Heap → Prop} (hr : loopObj H l = some r) (ha : args.length = r.params.size) (hl : H.lock ≤ l)
  (h : Wp C r.fn (some l) r.assign ⟨r.size,setTmps r.size r.tmps (r.params.toList.zip args),[]⟩ H (asgK C l H.size r K)) :
  ∃ b H',lim C (.round l args H) = some (.ret (.v (.bool b)) H') ∧ K b H' := by
 unfold Wp at h
 rw [bindO_iff] at h
 obtain ⟨⟨e1,a1,H1⟩,h1,he,r1,hr1,hs1,h2⟩ := h
 simp only at he h2 hr1
 subst he
 unfold Wp at h2
 rw [bindO_iff] at h2
 obtain ⟨⟨e2,a2,H3⟩,h3,r3,j,hr3,hj,hK⟩ := h2
 simp only at hr3 hj hK
 refine ⟨j.isNone,_, ?_,hK⟩
 rw [lim_eq]
 simp only [taskA,hr]
 rw [if_pos ⟨ha,hl⟩,h1]
 simp only [hr1,hs1,if_true,h3,hr3,hj]
def runIt {S : Type} (stp : S → List AV → Bool × S) : List (List AV) → S → Bool × S
 | [],s => (true,s)
 | x :: r,s => if (stp s x).1 then runIt stp r (stp s x).2 else (false,(stp s x).2)
theorem callB_yld {f : FuncId} {d : Option Tmp} {args : List AV} {l : Nat} (hy : AV.yld l ∈ args) {H H' : Heap} {v : AV} (h : lim C (.call f args H) = some (.ret v H')) : callB C (lim C) me f d args H = some (v,H'.trim H.size [v] []) := by
 have hb : Nat.beq (boundL args) 0 = false := by
  have h1 : ¬ boundL args ≤ 0 := fun hle => by
   have := boundL_le.1 hle _ hy
   simp [bound] at this
  cases hq : Nat.beq (boundL args) 0
  ·rfl
  ·exact absurd (Nat.le_of_eq (Nat.eq_of_beq_eq_true hq)) h1
 have hany : args.any isYld = true := List.any_eq_true.2 ⟨_,hy,rfl⟩
 have hk : callKind C me f d args = 0 := by
  unfold callKind;rw [hb,hany];split <;> rfl
 unfold callB;rw [hk];simp only [h]
theorem wp_range0 {g : Operand} {ps : Array Tmp} {asg body : Code} {a : AAct} {H : Heap} {K : Post} {f : FuncId} {first cap : List AV} (hg : a.eval g = some (.fn (.func f) first cap))
  {v : AV} {H2 : Heap} (hc : callB C (lim C) me f none (first ++ [.yld (H.size + 1)] ++ cap) ((H.put H.size .dfr).put (H.size + 1) (.loop { fn := me,state := .ready,pending := none,size := a.size,tmps := a.tmps,params := ps,assign := asg,body := body,dfr := H.size })) = some (v,H2))
  {r : ALoop} (hr : loopObj H2 (H.size + 1) = some r) (hs : r.state ≠ .busy) (hd : r.dfr = H.size)
  (hK : match r.pending with
   | none => AtK K .normal { a with marks := H.size :: a.marks } (H2.put (H.size + 1) .dead)
   | some .ret => AtK K .ret { a with marks := H.size :: a.marks } (H2.put (H.size + 1) .dead)
   | some (.exit id) => AtK K (.exit id) { a with marks := H.size :: a.marks } (H2.put (H.size + 1) .dead)
   | _ => False) : Wp C me none (.rangeFunc g ps asg body) a H K := by
 unfold Wp
 simp only [codeA,hg,hc,hr]
 rw [if_neg (by rintro (h | h);exact hs h;exact h hd)]
 split at hK
 ·rename_i hp;simp only [hp];exact hK
 ·rename_i hp;simp only [hp];exact hK
 ·rename_i hp;simp only [hp];exact hK
 ·exact hK.elim
end
end Go.Ev
namespace Go.Ev
theorem plus_mid_put {X : Heap} {n : Nat} (hn : X.size = n) (A B : List (Option AObj)) (o : Option AObj) (o' : AObj) : (X.plus (A ++ o :: B)).put (n + A.length) o' = X.plus (A ++ some o' :: B) := by
 subst hn
 rw [plus_put_hi _ _ (by omega)]
 congr 1
 rw [sop_right _ _ _ _ (by omega)]
 congr 1
 rw [show X.size + A.length - X.size - A.length = 0 by omega];rfl
theorem plus_mid_get {X : Heap} {n : Nat} (hn : X.size = n) (A B : List (Option AObj)) (o : Option AObj) : (X.plus (A ++ o :: B)).get (n + A.length) = o := by
 subst hn
 rw [plus_get_hi _ (by omega)]
 rw [show X.size + A.length - X.size = A.length by omega,List.getElem?_append_right (Nat.le_refl _),Nat.sub_self];rfl
theorem plus_put_end {X : Heap} {n : Nat} (hn : X.size = n) (E : List (Option AObj)) (o : AObj) : (X.plus E).put (n + E.length) o = X.plus (E ++ [some o]) := by
 subst hn;rw [← plus_size];exact plus_push E o
end Go.Ev
namespace Go.Ev
end Go.Ev
namespace Go.Ev
section
variable {C : Cfg}
theorem asgK_mk {l n : Nat} {r r1 : ALoop} {K : Bool → Heap → Prop} {a1 : AAct} {H1 : Heap} (h1 : loopObj H1 l = some r1) (hs : r1.state = .ready) (h : Wp C r.fn (some l) r.body a1 (H1.put l (.loop { r1 with state := .busy })) (bodyK l n K)) : AtK (asgK C l n r K) .normal a1 H1 :=
 ⟨rfl,r1,h1,hs,h⟩
theorem bodyK_mk {l n : Nat} {K : Bool → Heap → Prop} {e : AExit} {a : AAct} {H3 : Heap} {r3 : ALoop} {j : Option Code} (h1 : loopObj H3 l = some r3) (hj : jumpOf e = some j) (h : K j.isNone ((H3.put l (.loop { r3 with state := if j.isNone then .ready else .done,pending := j })).trim n [] [])) : AtK (bodyK l n K) e a H3 :=
 ⟨r3,j,h1,hj,h⟩
def wBox (l t : Nat) : AObj := .cells 0 (l + 1) t 1 false [.yld l]
def hq {S : Type} (hp : S → Heap) (E : List (Option AObj)) (l t : Nat) (q : S × ALoop) : Heap := (hp q.1).plus (E ++ [some (wBox l t),some .dfr,some (.loop q.2)])
variable {l t n : Nat} {S : Type} {hp : S → Heap} {stp : S → List AV → Bool × S} {ok : List AV → Prop} {live : S → Prop}
end
end Go.Ev
namespace Go.Ev
open Go.Proofs
def slElems (x : AV) : List AV := match x with | .vs _ xs _ => xs | _ => []
theorem SlOf.elems {sz : Nat} {xs : List AV} {x : AV} (h : SlOf sz xs x) : slElems x = xs := by
 rcases h with ⟨rfl,rfl⟩ | ⟨cap,rfl⟩ <;> rfl
def OkCh (y : AV) : Prop := ∃ id l0 lxs,y = .agg [intA id,l0] ∧ SlOf 1 lxs l0 ∧ (∀ x ∈ lxs,x.cells = [x]) ∧ lxs.length < 2 ^ 63
theorem fn_ex {C : Cfg} {f : FuncId} {args : List AV} {H : Heap} {K : PostO} (h : Fn' C f args H K) : ∃ v H',lim C (.call f args H) = some (.ret v H') ∧ K v H' := by
 unfold Fn' at h
 rw [bindO_iff] at h
 obtain ⟨o,h1,h2⟩ := h
 cases o with
 | ret v H' => exact ⟨v,H',h1,h2⟩
 | go => exact h2.elim
end Go.Ev
namespace Go.Ev
open Go.Proofs
end Go.Ev
namespace Go.Ev
open Go.Proofs
theorem setT_nil (n : Nat) (t : List (Tmp × AV)) : setTmps n t [] = t := rfl
theorem setT_cons (n : Nat) (t : List (Tmp × AV)) (d : Tmp) (v : AV) (r : List (Tmp × AV)) : setTmps n t ((d,v) :: r) = setTmps n (if d < n then setAssoc d v t else t) r := rfl
end Go.Ev
namespace Go.Ev
open Go.Proofs
theorem runIt_cons {S : Type} (stp : S → List AV → Bool × S) (x : List AV) (r : List (List AV)) (s : S) : runIt stp (x :: r) s = if (stp s x).1 then runIt stp r (stp s x).2 else (false,(stp s x).2) := rfl
def OkCh2 (y : AV) : Prop := ∃ id l0 lxs,y = .agg [intA id,l0] ∧ SlOf 1 lxs l0 ∧ lxs.length < 2 ^ 63 ∧ ∀ x ∈ lxs,∃ els,SlOf 1 els x ∧ (∀ z ∈ els,z.cells = [z]) ∧ els.length < 2 ^ 63
theorem OkCh2.ok {y : AV} (h : OkCh2 y) : OkCh y := by
 obtain ⟨id,l0,lxs,h1,h2,h3,h4⟩ := h
 exact ⟨id,l0,lxs,h1,h2,fun x hx => by obtain ⟨els,h5, -⟩ := h4 x hx;exact h5.cells,h3⟩
end Go.Ev
namespace Go.Ev
open Go.Proofs
theorem call_k2 {C : Cfg} {me f : FuncId} {d : Option Tmp} {args : List AV} {H : Heap} {x : Value} (hx : C.ext f = none) (hp : C.pure me f d = true) (hb : Nat.beq (boundL args) 0 = false) (hy : args.any isYld = false)
  (h : Fn' C f args { H with lock := H.size } fun v _ => v = .v x) (hh : C.exh f = none := by rfl) : callA C (lim C) me f d args H = some (.v x,H) := by
 obtain ⟨v,H',h1,rfl⟩ := fn_ex h
 have hk : callKind C me f d args = 2 := by unfold callKind;rw [hp,hb,hy];rfl
 rw [callA_none hx hh]
 unfold callB;rw [hk];simp only [h1]
 rfl
theorem call_k0 {C : Cfg} {me f : FuncId} {d : Option Tmp} {args : List AV} {H : Heap} {x : Value} (hx : C.ext f = none) (hp : C.pure me f d = false)
  (h : Fn' C f args H fun v H' => v = .v x ∧ H' = H) (hh : C.exh f = none := by rfl) : callA C (lim C) me f d args H = some (.v x,H) := by
 obtain ⟨v,H',h1,rfl,rfl⟩ := fn_ex h
 have hk : callKind C me f d args = 0 := by unfold callKind;rw [hp];rfl
 rw [callA_none hx hh]
 unfold callB;rw [hk];simp only [h1,trim_size]
theorem ans51 {e : Exts} (he : Quiet e) (n : Int) : Ans (Cx e) 133 [intA n] (.v (.bool (withinB 0 9999 [n]))) := by
 unfold Ans
 rw [fn_step (fn_133 e) (show Tryz.f133.body = some _ from rfl)]
 have hc := call69 he 0 9999 [n] (by simp) (.vs 1 [.v (.int .i64 n)] (some 1)) (Or.inr ⟨_,rfl⟩)
 unfold intA at hc
 simp -implicitDefEqProofs only [Tryz.f133,intA,go_sem,↓reduceIte,hc]
theorem callI51 {e : Exts} (he : Quiet e) (n : Int) (me : FuncId) (d : Option Tmp) : callI (Cx e) me 133 d [.v (.int .i64 n)] = some (.v (.bool (withinB 0 9999 [n]))) :=
 (ans51 he n).callI (ext_133 he) (pure_133 _ _ _) rfl
theorem ans82 {e : Exts} (he : Quiet e) (n : Int) : Ans (Cx e) 139 [.vs 1 [intA n] (some 1)] (.v (.bool (withinB 1 10 [n]))) := by
 unfold Ans
 rw [fn_step (fn_139 e) (show Tryz.f139.body = some _ from rfl)]
 have hc := call69 he 1 10 [n] (by simp) (.vs 1 [.v (.int .i64 n)] (some 1)) (Or.inr ⟨_,rfl⟩)
 unfold intA at hc
 simp -implicitDefEqProofs only [Tryz.f139,intA,go_sem,↓reduceIte,hc]
theorem call82 {e : Exts} (he : Quiet e) (n : Int) (me : FuncId) (d : Option Tmp) (H : Heap) : callA (Cx e) (lim (Cx e)) me 139 d [.vs 1 [.v (.int .i64 n)] (some 1)] H = some (.v (.bool (withinB 1 10 [n])),H) :=
 (ans82 he n).call (ext_139 he) (pure_139 _ _ _) rfl H
def hId (id : Int) : Heap := ⟨[some (.cells 0 0 3 1 false [intA id])],0⟩
theorem call101 {e : Exts} (he : Quiet e) (id n : Int) (l : AV) (ls : List AV) (hl : SlOf 1 ls l) (me : FuncId) (d : Option Tmp) : callA (Cx e) (lim (Cx e)) me 160 d [.agg [.v (.int .i64 n),l],.ptr 0 0 0] (hId id) = some (.v (.bool (decide (n = id))),hId id) := by
 refine call_k2 (ext_160 he) (pure_160 _ _ _) (by simp only [boundL_cons,bound_agg,bound_ptr,bound_v,hl.bound,boundL_nil];rfl) rfl ?_
 rw [fn_step (fn_160 e) (show Tryz.f160.body = some _ from rfl)]
 simp -implicitDefEqProofs only [Tryz.f160,hId,intA,go_sem,↓reduceIte,hl.cells,hl.flat,hl.bound]
 rfl
noncomputable def body120 : Code := ((Tryz.f184.body.map loops).getD [])[0]?.getD .skip
theorem loop120 {e : Exts} (he : Quiet e) (id : Int) (t : Txt) (x : AV) (xs : List AV) (hx : SlOf 2 xs x) (hall : All2 ChapA t xs) (hn : t.length < 2 ^ 63) (K : Post) :
  ∀ m j : Nat,j + m = t.length → ((t.drop j).any (fun c => decide (c.1 = id)) = false → ∀ tl,AtK K (.exit 0) ⟨19,tl,[]⟩ (hId id)) → ((t.drop j).any (fun c => decide (c.1 = id)) = true → ∀ (n : Nat) tl,assoc 4 tl = some (intA n) → AtK K .ret ⟨19,tl,[]⟩ (hId id)) →
  Lp (Cx e) 184 none [0,1,4,7,8] body120 ⟨19,[(0,x),(1,.fn (.func 160) [] [.ptr 0 0 0]),(4,intA 0),(7,intA t.length),(8,intA j)],[]⟩ (hId id) K := by
 intro m
 induction m with
 | zero =>
  intro j hj h1 h2
  rw [Lp_step]
  generalize hK : loopK (Cx e) 184 none _ body120 _ K = KK
  unfold body120
  obtain rfl : j = t.length := by omega
  simp only [Tryz.f184,loops,Option.map_some,Option.getD_some,List.nil_append,List.append_nil,List.cons_append,List.getElem?_cons_zero,List.getElem?_cons_succ]
  simp -implicitDefEqProofs only [go_sem,↓reduceIte,intA,hId,Int.lt_irrefl]
  subst hK
  simp -implicitDefEqProofs only [go_sem,↓reduceIte,hId]
  exact h1 (by simp) _
 | succ m ih =>
  intro j hj h1 h2
  obtain ⟨c,hs⟩ := at_lt t j (by omega)
  obtain ⟨y,hy,l,rfl,ls,hl, -⟩ := hall.get hs
  have hd := drop_any (fun c : Chap => decide (c.1 = id)) t j c hs
  have hlt : (j : Int) < ((t.length : Nat) : Int) := by omega
  have hw := wrap_succ j (by omega)
  have hc := call101 he id c.1 l ls hl
  unfold hId intA at hc
  rw [Lp_step]
  generalize hK : loopK (Cx e) 184 none _ body120 _ K = KK
  unfold body120
  simp only [Tryz.f184,loops,Option.map_some,Option.getD_some,List.nil_append,List.append_nil,List.cons_append,List.getElem?_cons_zero,List.getElem?_cons_succ]
  by_cases c1 : c.1 = id
  ·simp only [c1,decide_true] at hc
   simp -implicitDefEqProofs only [go_sem,↓reduceIte,intA,hId,hlt,hw,hx.idx hy,hc,c1]
   subst hK
   simp -implicitDefEqProofs only [go_sem,↓reduceIte]
   exact h2 (by rw [hd];simp [c1]) j _ rfl
  ·simp only [c1,decide_false] at hc
   simp -implicitDefEqProofs only [go_sem,↓reduceIte,intA,hId,hlt,hw,hx.idx hy,hc]
   subst hK
   simp -implicitDefEqProofs only [go_sem,↓reduceIte,hId]
   rw [hd] at h1 h2
   simp only [c1,decide_false,Bool.false_or] at h1 h2
   exact ih (j + 1) (by omega) h1 h2
def hasIdB (t : Txt) (id : Int) : Bool := t.any fun c => decide (c.1 = id)
theorem pure120 (e : Exts) (h : FuncId) (d : Option Tmp) : (Cx e).pure h 184 d = false := by simp [Cx,pureF,impF,impC]
theorem pure100 (e : Exts) (h : FuncId) (d : Option Tmp) : (Cx e).pure h 159 d = false := by simp [Cx,pureF,impF,impC]
theorem fn120 {e : Exts} (he : Quiet e) (id : Int) (t : Txt) (x : AV) (xs : List AV) (hx : SlOf 2 xs x) (hall : All2 ChapA t xs) (hn : t.length < 2 ^ 63) :
  ∃ n : Int,decide (0 ≤ n) = hasIdB t id ∧ Fn' (Cx e) 184 [x,.fn (.func 160) [] [.ptr 0 0 0]] (hId id) fun v H' => v = intA n ∧ H' = hId id := by
 have key : Fn' (Cx e) 184 [x,.fn (.func 160) [] [.ptr 0 0 0]] (hId id) fun v H' => (∃ n : Int,decide (0 ≤ n) = hasIdB t id ∧ v = intA n) ∧ H' = hId id := by
  rw [fn_step (fn_184 e) (show Tryz.f184.body = some _ from rfl)]
  simp -implicitDefEqProofs only [Tryz.f184,hId,intA,go_sem,↓reduceIte,hx.len,← hall.1]
  refine loop120 he id t x xs hx hall hn _ t.length 0 (by omega) ?_ ?_
  ·intro hf tl
   simp -implicitDefEqProofs only [go_sem,↓reduceIte,hId]
   exact ⟨⟨-1,by unfold hasIdB;rw [List.drop_zero] at hf;rw [hf];rfl,rfl⟩,rfl⟩
  ·intro hf n tl htl
   simp -implicitDefEqProofs only [go_sem,↓reduceIte,htl]
   exact ⟨⟨n,by unfold hasIdB;rw [List.drop_zero] at hf;rw [hf];simp,rfl⟩,rfl⟩
 obtain ⟨v,H',h1,⟨n,hnn,rfl⟩,rfl⟩ := fn_ex key
 refine ⟨n,hnn, ?_⟩
 unfold Fn';rw [h1];exact ⟨rfl,rfl⟩
theorem call100 {e : Exts} (he : Quiet e) (id : Int) (t : Txt) (x : AV) (xs : List AV) (hx : SlOf 2 xs x) (hall : All2 ChapA t xs) (hn : t.length < 2 ^ 63) (me : FuncId) (d : Option Tmp) :
  callA (Cx e) (lim (Cx e)) me 159 d [x,.fn (.func 160) [] [.ptr 0 0 0]] (hId id) = some (.v (.bool (hasIdB t id)),hId id) := by
 refine call_k0 (ext_159 he) (pure100 _ _ _) ?_
 obtain ⟨n,hnn,hf⟩ := fn120 he id t x xs hx hall hn
 have hc := call_k0 (me := 159) (d := some 7) (ext_184 he) (pure120 e _ _) hf
 unfold hId intA at hc
 rw [fn_step (fn_159 e) (show Tryz.f159.body = some _ from rfl)]
 simp -implicitDefEqProofs only [Tryz.f159,hId,intA,go_sem,↓reduceIte,hc]
 exact ⟨by rw [hnn],rfl⟩
theorem ans86 {e : Exts} (he : Quiet e) (id : Int) (t : Txt) (x : AV) (xs : List AV) (hx : SlOf 2 xs x) (hall : All2 ChapA t xs) (hn : t.length < 2 ^ 63) : Ans (Cx e) 134 [x,intA id] (.v (.bool (hasIdB t id))) := by
 unfold Ans
 have hc := call100 he id t x xs hx hall hn 134 (some 7)
 unfold hId intA at hc
 rw [fn_step (fn_134 e) (show Tryz.f134.body = some _ from rfl)]
 simp -implicitDefEqProofs only [Tryz.f134,intA,go_sem,↓reduceIte,hc]
theorem callI86 {e : Exts} (he : Quiet e) (id : Int) (t : Txt) (x : AV) (xs : List AV) (hx : SlOf 2 xs x) (hall : All2 ChapA t xs) (hn : t.length < 2 ^ 63) (me : FuncId) (d : Option Tmp) : callI (Cx e) me 134 d [x,.v (.int .i64 id)] = some (.v (.bool (hasIdB t id))) :=
 (ans86 he id t x xs hx hall hn).callI (ext_134 he) (pure_134 _ _ _) (by simp only [boundL_cons,hx.bound,intA,bound_v,boundL_nil];rfl)
noncomputable def body87 (n : Nat) : Code := ((Tryz.f135.body.map loops).getD [])[n]?.getD .skip
def okUpto (ls : List Line) (j : Nat) : Nat := ((ls.take j).filter lineB).length
theorem okUpto_succ (ls : List Line) (j : Nat) (l : Line) (h : ls[j]? = some l) : okUpto ls (j + 1) = okUpto ls j + if lineB l then 1 else 0 := by
 obtain ⟨hj,rfl⟩ := List.getElem?_eq_some_iff.1 h
 unfold okUpto
 rw [List.take_succ_eq_append_getElem hj,List.filter_append,List.length_append]
 congr 1
 cases h : lineB ls[j] <;> simp [h]
theorem okUpto_le (ls : List Line) (j : Nat) : okUpto ls j ≤ j := by
 unfold okUpto
 exact Nat.le_trans (List.length_filter_le _ _) (by simp;omega)
theorem okUpto_all (ls : List Line) : (okUpto ls ls.length = ls.length) ↔ ls.all lineB = true := by
 unfold okUpto
 rw [List.take_of_length_le (Nat.le_refl _),List.length_filter_eq_length_iff,List.all_eq_true]
def allW (ws : Line) (j : Nat) : Bool := (ws.drop j).all wordB
theorem loop87w {e : Exts} (he : Quiet e) (x lx : AV) (r nl i : Nat) (ws : Line) (hlx : SlOf 1 (strs ws) lx) (hn : ws.length < 2 ^ 63) (hz : ∀ s ∈ ws,s.size < 2 ^ 63) (K : Post) :
  ∀ m j : Nat,j + m = ws.length → (allW ws j = true → ∀ k : Nat,AtK K (.exit 2) ⟨46,[(0,x),(2,.v (.bool false)),(12,.v (.bool false)),(3,intA r),(14,intA nl),(15,intA i),(16,.v (.bool true)),(4,intA i),(25,.v (.bool false)),(29,lx),(30,intA ws.length),(31,intA k)],[]⟩ ⟨[],0⟩) →
   (allW ws j = false → ∀ k : Nat,AtK K (.exit 1) ⟨46,[(0,x),(2,.v (.bool false)),(12,.v (.bool false)),(3,intA r),(14,intA nl),(15,intA i),(16,.v (.bool true)),(4,intA i),(25,.v (.bool false)),(29,lx),(30,intA ws.length),(31,intA k)],[]⟩ ⟨[],0⟩) →
  Lp (Cx e) 135 none [0,2,12,3,14,15,16,4,25,29,30,31] (body87 1) ⟨46,[(0,x),(2,.v (.bool false)),(12,.v (.bool false)),(3,intA r),(14,intA nl),(15,intA i),(16,.v (.bool true)),(4,intA i),(25,.v (.bool false)),(29,lx),(30,intA ws.length),(31,intA j)],[]⟩ ⟨[],0⟩ K := by
 intro m
 induction m with
 | zero =>
  intro j hj h1 h2
  rw [Lp_step]
  generalize hK : loopK (Cx e) 135 none _ (body87 1) _ K = KK
  unfold body87
  obtain rfl : j = ws.length := by omega
  simp only [Tryz.f135,loops,Option.map_some,Option.getD_some,List.nil_append,List.append_nil,List.cons_append,List.getElem?_cons_zero,List.getElem?_cons_succ]
  simp -implicitDefEqProofs only [go_sem,↓reduceIte,intA,Int.lt_irrefl]
  subst hK
  simp -implicitDefEqProofs only [go_sem,↓reduceIte]
  exact h1 (by unfold allW;rw [List.drop_of_length_le (Nat.le_refl _)];rfl) _
 | succ m ih =>
  intro j hj h1 h2
  obtain ⟨s,hs⟩ := at_lt ws j (by omega)
  have hd : allW ws j = (wordB s && allW ws (j + 1)) := drop_all _ ws j s hs
  have hlt : (j : Int) < ((ws.length : Nat) : Int) := by omega
  have hw := wrap_succ j (by omega)
  have hc := call49 he s (hz s (List.mem_of_getElem? hs))
  rw [Lp_step]
  generalize hK : loopK (Cx e) 135 none _ (body87 1) _ K = KK
  unfold body87
  simp only [Tryz.f135,loops,Option.map_some,Option.getD_some,List.nil_append,List.append_nil,List.cons_append,List.getElem?_cons_zero,List.getElem?_cons_succ]
  cases c1 : wordB s
  ·rw [c1] at hc
   simp -implicitDefEqProofs only [go_sem,↓reduceIte,intA,hlt,hw,hlx.idx (strs_get hs),hc]
   subst hK
   simp -implicitDefEqProofs only [go_sem,↓reduceIte]
   exact h2 (by rw [hd,c1];rfl) j
  ·rw [c1] at hc
   simp -implicitDefEqProofs only [go_sem,↓reduceIte,intA,hlt,hw,hlx.idx (strs_get hs),hc]
   subst hK
   simp -implicitDefEqProofs only [go_sem,↓reduceIte]
   rw [hd,c1,Bool.true_and] at h1 h2
   exact ih (j + 1) (by omega) h1 h2
theorem loop87l {e : Exts} (he : Quiet e) (x : AV) (lxs : List AV) (hx : SlOf 1 lxs x) (ls : List Line) (hls : All2 LineA ls lxs) (hn : ls.length < 2 ^ 63) (hnn : ∀ l ∈ ls,l.length < 2 ^ 63) (hz : ∀ l ∈ ls,∀ s ∈ l,s.size < 2 ^ 63) (K : Post)
  (hK0 : AtK K (.exit 0) ⟨46,[(0,x),(2,.v (.bool false)),(12,.v (.bool false)),(3,intA (okUpto ls ls.length)),(14,intA ls.length),(15,intA ls.length)],[]⟩ ⟨[],0⟩) :
  ∀ m j : Nat,j + m = ls.length →
  Lp (Cx e) 135 none [0,2,12,3,14,15] (body87 0) ⟨46,[(0,x),(2,.v (.bool false)),(12,.v (.bool false)),(3,intA (okUpto ls j)),(14,intA ls.length),(15,intA j)],[]⟩ ⟨[],0⟩ K := by
 intro m
 induction m with
 | zero =>
  intro j hj
  rw [Lp_step]
  generalize hK : loopK (Cx e) 135 none _ (body87 0) _ K = KK
  unfold body87
  obtain rfl : j = ls.length := by omega
  simp only [Tryz.f135,loops,Option.map_some,Option.getD_some,List.nil_append,List.append_nil,List.cons_append,List.getElem?_cons_zero,List.getElem?_cons_succ]
  simp -implicitDefEqProofs only [go_sem,↓reduceIte,intA,Int.lt_irrefl]
  subst hK
  simp -implicitDefEqProofs only [go_sem,↓reduceIte]
  exact hK0
 | succ m ih =>
  intro j hj
  obtain ⟨ws,hs⟩ := at_lt ls j (by omega)
  obtain ⟨lx,hy,hlx⟩ := hls.get hs
  have hlx : SlOf 1 (strs ws) lx := hlx
  have hm := List.mem_of_getElem? hs
  have hsu := okUpto_succ ls j ws hs
  have hle := okUpto_le ls j
  have hlt : (j : Int) < ((ls.length : Nat) : Int) := by omega
  have hw := wrap_succ j (by omega)
  have hw2 := wrap_succ (okUpto ls j) (by omega)
  have hc := call82 he (ws.length : Int)
  have hih := ih (j + 1) (by omega)
  rw [Lp_step]
  generalize hK : loopK (Cx e) 135 none _ (body87 0) _ K = KK
  unfold body87
  simp only [Tryz.f135,loops,Option.map_some,Option.getD_some,List.nil_append,List.append_nil,List.cons_append,List.getElem?_cons_zero,List.getElem?_cons_succ]
  cases c1 : withinB 1 10 [(ws.length : Int)]
  ·rw [c1] at hc
   have hb : lineB ws = false := by unfold lineB;rw [c1];rfl
   simp -implicitDefEqProofs only [go_sem,↓reduceIte,intA,hlt,hw,hx.idx hy,hlx.cells,hlx.len,strs_len,hc]
   subst hK
   simp -implicitDefEqProofs only [go_sem,↓reduceIte]
   rw [hsu,hb] at hih
   exact hih
  ·rw [c1] at hc
   simp -implicitDefEqProofs only [go_sem,↓reduceIte,intA,hlt,hw,hx.idx hy,hlx.cells,hlx.len,strs_len,hc]
   refine loop87w he x lx (okUpto ls j) ls.length j ws hlx (hnn ws hm) (hz ws hm) _ ws.length 0 (by omega) ?_ ?_
   ·intro hf k
    have hb : lineB ws = true := by unfold lineB;rw [c1];unfold allW at hf;rw [List.drop_zero] at hf;rw [hf];rfl
    simp -implicitDefEqProofs only [go_sem,↓reduceIte,intA,hw,hw2]
    subst hK
    simp -implicitDefEqProofs only [go_sem,↓reduceIte]
    rw [hsu,hb] at hih
    exact hih
   ·intro hf k
    have hb : lineB ws = false := by unfold lineB;unfold allW at hf;rw [List.drop_zero] at hf;rw [hf,Bool.and_false]
    simp -implicitDefEqProofs only [go_sem,↓reduceIte,intA,hw]
    subst hK
    simp -implicitDefEqProofs only [go_sem,↓reduceIte]
    rw [hsu,hb] at hih
    exact hih
def linesB (ls : List Line) : Bool := withinB 1 10 [(ls.length : Int)] && ls.all lineB
theorem ans87 {e : Exts} (he : Quiet e) (x : AV) (ls : List Line) (hx : LinesA ls x) (hn : ls.length < 2 ^ 63) (hnn : ∀ l ∈ ls,l.length < 2 ^ 63) (hz : ∀ l ∈ ls,∀ s ∈ l,s.size < 2 ^ 63) : Ans (Cx e) 135 [x] (.v (.bool (linesB ls))) := by
 obtain ⟨lxs,hx,hls⟩ := hx
 unfold Ans
 have hc := call69 he 1 10 [(ls.length : Int)] (by simp) (.vs 1 [.v (.int .i64 ls.length)] (some 1)) (Or.inr ⟨_,rfl⟩)
 unfold intA at hc
 rw [fn_step (fn_135 e) (show Tryz.f135.body = some _ from rfl)]
 cases c1 : withinB 1 10 [(ls.length : Int)]
 ·rw [c1] at hc
  simp -implicitDefEqProofs only [Tryz.f135,intA,go_sem,↓reduceIte,hx.len,← hls.1,hc]
  unfold linesB;rw [c1];rfl
 ·rw [c1] at hc
  simp -implicitDefEqProofs only [Tryz.f135,intA,go_sem,↓reduceIte,hx.len,← hls.1,hc]
  refine loop87l he x lxs hx ls hls hn hnn hz _ ?_ ls.length 0 (by omega)
  by_cases hall : ls.all lineB = true
  ·have h1 := (okUpto_all ls).2 hall
   simp -implicitDefEqProofs only [go_sem,↓reduceIte,intA,hx.len,← hls.1,h1]
   unfold linesB;rw [c1,hall];rfl
  ·have h1 : ¬ okUpto ls ls.length = ls.length := fun h => hall ((okUpto_all ls).1 h)
   have h2 : ¬ ((okUpto ls ls.length : Nat) : Int) = (ls.length : Int) := by omega
   simp -implicitDefEqProofs only [go_sem,↓reduceIte,intA,hx.len,← hls.1,h2]
   have h3 : ls.all lineB = false := by simpa using hall
   unfold linesB;rw [c1,h3];rfl
theorem callI87 {e : Exts} (he : Quiet e) (x : AV) (ls : List Line) (hx : LinesA ls x) (hn : ls.length < 2 ^ 63) (hnn : ∀ l ∈ ls,l.length < 2 ^ 63) (hz : ∀ l ∈ ls,∀ s ∈ l,s.size < 2 ^ 63) (me : FuncId) (d : Option Tmp) : callI (Cx e) me 135 d [x] = some (.v (.bool (linesB ls))) :=
 (ans87 he x ls hx hn hnn hz).callI (ext_135 he) (pure_135 _ _ _) (by obtain ⟨lxs,hx, -⟩ := hx;simp only [boundL_cons,hx.bound,boundL_nil];rfl)
end Go.Ev
namespace Go.Ev
open Go.Proofs
def condD (t : Txt) (i : Nat) (c : Chap) : Bool := withinB 0 9999 [c.1] && !hasIdB (t.take i) c.1 && linesB c.2
theorem condD_eq (t : Txt) (i : Nat) (c : Chap) : condD t i c = condC t i c := by
 unfold condD condC linesB hasIdB idB
 rw [List.drop_zero]
 cases withinB 0 9999 [c.1] <;> cases withinB 1 10 [(c.2.length : Int)] <;> cases (t.take i).any (fun c_1 => decide (c_1.1 = c.1)) <;> simp
noncomputable def body62 : Code := ((Tryz.f116.body.map loops).getD [])[0]?.getD .skip
theorem All2.take {α β : Type} {R : α → β → Prop} {l : List α} {m : List β} (h : All2 R l m) (n : Nat) : All2 R (l.take n) (m.take n) := by
 refine ⟨by simp [h.1],fun i a b ha hb => ?_⟩
 rw [List.getElem?_take] at ha hb
 split at ha
 ·rename_i hi;rw [if_pos hi] at hb;exact h.2 i a b ha hb
 ·cases ha
theorem loop62 {e : Exts} (he : Quiet e) (t : Txt) (ht : Fits t) (xs : List AV) (ch : AV) (hch : SlOf 2 xs ch) (hn : t.length < 2 ^ 63) (hall : All2 ChapA t xs) (K : Post) :
  ∀ m j : Nat,j + m = t.length → (chB t j = false → AtK K (.exit 0) ⟨40,[(0,.agg [ch]),(1,.ptr 0 0 0),(2,.v (.bool false)),(11,.v (.bool false)),(13,ch),(14,intA t.length),(15,intA (t.length : Nat))],[]⟩ ⟨[some (.cells 0 0 24 1 false [ch])],0⟩) → (chB t j = true → ∀ tl HH,assoc 2 tl = some (.v (.bool false)) → AtK K .ret ⟨40,tl,[]⟩ HH) →
  Lp (Cx e) 116 none [0,1,2,11,13,14,15] (body62) ⟨40,[(0,.agg [ch]),(1,.ptr 0 0 0),(2,.v (.bool false)),(11,.v (.bool false)),(13,ch),(14,intA t.length),(15,intA j)],[]⟩ ⟨[some (.cells 0 0 24 1 false [ch])],0⟩ K := by
 intro m
 induction m with
 | zero =>
  intro j hj h1 h2
  rw [Lp_step]
  generalize hK : loopK (Cx e) 116 none [0,1,2,11,13,14,15] (body62) _ K = KK
  unfold body62
  obtain rfl : j = t.length := by omega
  simp only [Tryz.f116,loops,Option.map_some,Option.getD_some,List.nil_append,List.append_nil,List.cons_append,List.getElem?_cons_zero,List.getElem?_cons_succ]
  simp -implicitDefEqProofs only [go_sem,↓reduceIte,intA,Int.lt_irrefl,hch.len,← hall.1]
  subst hK
  simp -implicitDefEqProofs only [go_sem,↓reduceIte]
  exact h1 (by unfold chB;rw [List.drop_of_length_le (by simp)];rfl)
 | succ m ih =>
  intro j hj h1 h2
  rw [Lp_step]
  generalize hK : loopK (Cx e) 116 none [0,1,2,11,13,14,15] (body62) _ K = KK
  unfold body62
  have hlt : (j : Int) < ((t.length : Nat) : Int) := by omega
  have hw := wrap_succ j (by omega)
  have hj0 : (0 : Int) ≤ (j : Int) := by omega
  simp only [Tryz.f116,loops,Option.map_some,Option.getD_some,List.nil_append,List.append_nil,List.cons_append,List.getElem?_cons_zero,List.getElem?_cons_succ]
  obtain ⟨c,hs⟩ := at_lt t j (by omega)
  obtain ⟨y,hy,l,rfl,hl'⟩ := hall.get hs
  obtain ⟨lxs,hl,hls⟩ := hl'
  have hd := chB_step t j c hs
  have hm := List.mem_of_getElem? hs
  have hca := callI51 he c.1
  obtain ⟨z,hz1,hz2⟩ := hch.slice und_22 size_112 j (by rw [← hall.1];omega)
  have hcb := callI86 he c.1 (t.take j) z _ hz2 (hall.take j) (by simp;omega)
  have hcc := callI87 he l c.2 ⟨lxs,hl,hls⟩ (ht.lines c hm) (ht.words c hm) (ht.size c hm)
  simp -implicitDefEqProofs only [go_sem,↓reduceIte,intA,hlt,hw,hch.len,hch.cells,hch.idx hy,hl.len,hl.cells,hl.flat,hl.bound]
  refine wp_draw (by kernel_rfl) ?_
  rw [← condD_eq] at hd
  cases c1 : withinB 0 9999 [c.1]
  ·rw [c1] at hca
   simp -implicitDefEqProofs only [go_sem,↓reduceIte,intA,hlt,hw,hca]
   subst hK
   simp -implicitDefEqProofs only [go_sem,↓reduceIte]
   exact h2 (by rw [hd];unfold condD;rw [c1];rfl) _ _ rfl
  ·rw [c1] at hca
   cases c2 : hasIdB (t.take j) c.1
   ·rw [c2] at hcb
    cases c3 : linesB c.2
    ·rw [c3] at hcc
     simp -implicitDefEqProofs only [go_sem,↓reduceIte,intA,hlt,hw,hca,hcb,hcc,hz1]
     subst hK
     simp -implicitDefEqProofs only [go_sem,↓reduceIte]
     exact h2 (by rw [hd];unfold condD;rw [c1,c2,c3];rfl) _ _ rfl
    ·rw [c3] at hcc
     simp -implicitDefEqProofs only [go_sem,↓reduceIte,intA,hlt,hw,hca,hcb,hcc,hz1]
     subst hK
     simp -implicitDefEqProofs only [go_sem,↓reduceIte,trim_at,hch.flat,hch.bound,hch.cells]
     have hd' : chB t j = chB t (j + 1) := by rw [hd];unfold condD;rw [c1,c2,c3];rfl
     rw [hd'] at h1 h2
     exact ih (j + 1) (by omega) h1 h2
   ·rw [c2] at hcb
    simp -implicitDefEqProofs only [go_sem,↓reduceIte,intA,hlt,hw,hca,hcb,hz1]
    subst hK
    simp -implicitDefEqProofs only [go_sem,↓reduceIte]
    exact h2 (by rw [hd];unfold condD;rw [c1,c2];rfl) _ _ rfl
theorem ans62 {e : Exts} (he : Quiet e) (t : Txt) (ht : Fits t) (x : AV) (hx : TextA t x) : Ans (Cx e) 116 [x] (.v (.bool (textB t))) := by
 obtain ⟨ch,rfl,xs,hch,hall⟩ := hx
 unfold Ans
 have hc := call69 he 1 6 [(t.length : Int)] (by simp) (.vs 1 [.v (.int .i64 t.length)] (some 1)) (Or.inr ⟨_,rfl⟩)
 unfold intA at hc
 rw [fn_step (fn_116 e) (show Tryz.f116.body = some _ from rfl)]
 cases h1 : withinB 1 6 [(t.length : Int)]
 ·rw [h1] at hc
  simp -implicitDefEqProofs only [Tryz.f116,intA,go_sem,↓reduceIte,hch.len,hch.cells,hch.flat,hch.bound,← hall.1,hc]
  unfold textB;rw [h1];rfl
 ·rw [h1] at hc
  simp -implicitDefEqProofs only [Tryz.f116,intA,go_sem,↓reduceIte,hch.len,hch.cells,hch.flat,hch.bound,← hall.1,hc]
  refine loop62 he t ht xs ch hch ht.chs hall _ t.length 0 (by omega) ?_ ?_
  ·intro hf
   have hf' : okFrom t 0 t = true := by unfold chB at hf;simpa using hf
   simp -implicitDefEqProofs only [go_sem,↓reduceIte]
   unfold textB;rw [h1,hf'];rfl
  ·intro hf tl HH htl
   have hf' : okFrom t 0 t = false := by unfold chB at hf;simpa using hf
   simp -implicitDefEqProofs only [go_sem,↓reduceIte,htl]
   unfold textB;rw [h1,hf'];rfl
theorem call62 {e : Exts} (he : Quiet e) (t : Txt) (ht : Fits t) (x : AV) (hx : TextA t x) (me : FuncId) (d : Option Tmp) (H : Heap) : callA (Cx e) (lim (Cx e)) me 116 d [x] H = some (.v (.bool (textB t)),H) :=
 (ans62 he t ht x hx).call (ext_116 he) (pure_116 _ _ _) (by obtain ⟨ch,rfl,xs,hch, -⟩ := hx;simp only [boundL_cons,bound_agg,hch.bound,boundL_nil];rfl) H
theorem ans40 {e : Exts} (he : Quiet e) (t : Txt) (ht : Fits t) (ch : AV) (hx : ChsA t ch) : Ans (Cx e) 85 [.agg [ch]] (if textB t then .tup [.agg [ch],intA 0] else .tup [.agg [.v (.slice none 0 0)],intA 10]) := by
 have hc := call62 he t ht _ ⟨ch,rfl,hx⟩ 85 (some 5)
 obtain ⟨xs,hch,hall⟩ := hx
 unfold Ans
 rw [fn_step (fn_85 e) (show Tryz.f85.body = some _ from rfl)]
 cases h1 : textB t
 ·rw [h1] at hc
  simp -implicitDefEqProofs only [Tryz.f85,intA,go_sem,↓reduceIte,hch.cells,hch.flat,hch.bound,hc]
  rcases hch with ⟨rfl,rfl⟩ | ⟨cap,rfl⟩
  ·kernel_rfl
  ·kernel_rfl
 ·rw [h1] at hc
  simp -implicitDefEqProofs only [Tryz.f85,intA,go_sem,↓reduceIte,hch.cells,hch.flat,hch.bound,hc]
  rcases hch with ⟨rfl,rfl⟩ | ⟨cap,rfl⟩
  ·kernel_rfl
  ·kernel_rfl
theorem call40 {e : Exts} (he : Quiet e) (t : Txt) (ht : Fits t) (ch : AV) (hx : ChsA t ch) (me : FuncId) (d : Option Tmp) (H : Heap) : callA (Cx e) (lim (Cx e)) me 85 d [.agg [ch]] H = some (if textB t then .tup [.agg [ch],intA 0] else .tup [.agg [.v (.slice none 0 0)],intA 10],H) :=
 (ans40 he t ht ch hx).call (ext_85 he) (pure_85 _ _ _) (by obtain ⟨xs,hch, -⟩ := hx;simp only [boundL_cons,bound_agg,hch.bound,boundL_nil];rfl) H
end Go.Ev
namespace Go.Ev
open Go.Proofs
end Go.Ev
namespace Go.Ev
open Go.Proofs
theorem call38 {e : Exts} (he : Quiet e) (t : Txt) (ht : Fits t) (x : AV) (hx : TextA t x) (me : FuncId) (d : Option Tmp) (H : Heap) : callA (Cx e) (lim (Cx e)) me 15 d [x] H = some (.v (.bool (greatT t)),H) :=
 (ans38 t ht x hx).call (ext_15 he) (pure_15 _ _ _) (by obtain ⟨ch,rfl,xs,hch, -⟩ := hx;simp only [boundL_cons,bound_agg,hch.bound,boundL_nil];rfl) H
theorem call39 {e : Exts} (he : Quiet e) (t : Txt) (ht : Fits t) (x : AV) (hx : TextA t x) (me : FuncId) (d : Option Tmp) (H : Heap) : callA (Cx e) (lim (Cx e)) me 56 d [x] H = some (.v (.bool (textB t)),H) :=
 (ans39 he t ht x hx).call (ext_56 he) (pure_56 _ _ _) (by obtain ⟨ch,rfl,xs,hch, -⟩ := hx;simp only [boundL_cons,bound_agg,hch.bound,boundL_nil];rfl) H
def beforeB (a b : Int × Int × Int) : Bool := if a.1 ≠ b.1 then decide (a.1 < b.1) else if a.2.1 ≠ b.2.1 then decide (a.2.1 < b.2.1) else decide (a.2.2 < b.2.2)
end Go.Ev
namespace Go.Ev
def pend : AExit → Option Code
 | .normal => none
 | .ret => some .ret
 | .exit i => some (.exit i)
theorem jumpOf_pend (e : AExit) : jumpOf e = some (pend e) := by cases e <;> rfl
def isGo : AExit → Bool
 | .normal => true
 | _ => false
theorem pend_none (e : AExit) : (pend e).isNone = isGo e := by cases e <;> rfl
def foldE {S : Type} (stp : S → List AV → AExit × S) : List (List AV) → S → AExit × S
 | [],s => (.normal,s)
 | x :: r,s => match (stp s x).1 with | .normal => foldE stp r (stp s x).2 | e => (e,(stp s x).2)
theorem foldE_go {S : Type} {stp : S → List AV → AExit × S} {x : List AV} {r : List (List AV)} {s : S} (h : (stp s x).1 = .normal) : foldE stp (x :: r) s = foldE stp r (stp s x).2 := by
 simp only [foldE,h]
theorem foldE_out {S : Type} {stp : S → List AV → AExit × S} {x : List AV} {r : List (List AV)} {s : S} (h : (stp s x).1 ≠ .normal) : foldE stp (x :: r) s = stp s x := by
 simp only [foldE]
def busyL (me : FuncId) (n : Nat) (ts : List (Tmp × AV)) (ps : Array Tmp) (asg body : Code) (d : Nat) (st : LoopState) (p : Option Code) : ALoop := { fn := me,state := st,pending := p,size := n,tmps := ts,params := ps,assign := asg,body := body,dfr := d }
def stateOf (e : AExit) : LoopState := if (pend e).isNone then .ready else .done
section
variable {C : Cfg} {me : FuncId} {S : Type} {hb : S → Heap} {stp : S → List AV → AExit × S} {lv : S → Prop} {ok : List AV → Prop} {n0 : Nat}
theorem run_range (stp : S → List AV → AExit × S) : ∀ (items : List (List AV)) (s : S),runIt (fun (q : S × AExit) x => (isGo (stp q.1 x).1,((stp q.1 x).2,(stp q.1 x).1))) items (s,.normal) = (isGo (foldE stp items s).1,((foldE stp items s).2,(foldE stp items s).1))
 | [],s => rfl
 | x :: r,s => by
  have ih := run_range stp r (stp s x).2
  unfold runIt
  simp only
  cases h : (stp s x).1 with
  | normal =>
   rw [if_pos (show isGo .normal = true from rfl),ih,foldE_go h]
  | exit i => rw [if_neg (show ¬ isGo (.exit i) = true from fun h => nomatch h),foldE_out (by rw [h];intro h;cases h),h];rfl
  | ret => rw [if_neg (show ¬ isGo .ret = true from fun h => nomatch h),foldE_out (by rw [h];intro h;cases h),h];rfl
end
end Go.Ev
namespace Go.Ev
section
variable {C : Cfg} {me : FuncId} {rd : Option Nat}
abbrev Inv := Nat → AAct → Heap → Prop
def Again (P : Inv) (m : Nat) (a : AAct) (H : Heap) : Prop := ∃ m',m' < m ∧ P m' a H
@[congr] theorem Again_congr {P : Inv} {m : Nat} {a a' : AAct} {H H' : Heap} (ha : a = a') (hH : H = H') : Again P m a H = Again P m a' H' := by rw [ha,hH]
def itK (P : Inv) (m : Nat) (ks : List Tmp) (n : Nat) (K : Post) : Post := fun e a H =>
 match e with
 | .normal => Again P m (a.only ks) (H.trim n ((a.only ks).tmps.map (·.2)) (a.only ks).marks)
 | .exit i => AtK K (.exit i) (a.only ks) (H.trim n ((a.only ks).tmps.map (·.2)) (a.only ks).marks)
 | .ret => AtK K .ret a H
@[go_sem ↓] theorem itK_normal (P : Inv) (m : Nat) (ks : List Tmp) (n : Nat) (K : Post) (s : Nat) (l : List (Tmp × AV)) (ms : List Nat) (H : Heap) : AtK (itK P m ks n K) .normal ⟨s,l,ms⟩ H = bindO (nf (ks.filterMap fun k => (assoc k l).map fun v => (k,v))) fun l' => bindO (nf (H.trim n (l'.map (·.2)) ms)) fun H' => Again P m ⟨s,l',ms⟩ H' := rfl
@[go_sem ↓] theorem itK_exit (P : Inv) (m : Nat) (ks : List Tmp) (n i : Nat) (K : Post) (s : Nat) (l : List (Tmp × AV)) (ms : List Nat) (H : Heap) : AtK (itK P m ks n K) (.exit i) ⟨s,l,ms⟩ H = bindO (nf (ks.filterMap fun k => (assoc k l).map fun v => (k,v))) fun l' => bindO (nf (H.trim n (l'.map (·.2)) ms)) fun H' => AtK K (.exit i) ⟨s,l',ms⟩ H' := rfl
@[go_sem ↓] theorem itK_ret (P : Inv) (m : Nat) (ks : List Tmp) (n : Nat) (K : Post) (a : AAct) (H : Heap) : AtK (itK P m ks n K) .ret a H = AtK K .ret a H := rfl
theorem Lp_rule {ks : List Tmp} {c : Code} {K : Post} (P : Inv) (hstep : ∀ m a H,P m a H → Wp C me rd c a H (itK P m ks H.size K)) : ∀ m a H,P m a H → Lp C me rd ks c a H K := by
 intro m
 induction m using Nat.strongRecOn with
 | _ m ih =>
  intro a H hp
  rw [Lp_step]
  refine Wp_mono (hstep m a H hp) ?_
  intro e a' H' h
  cases e with
  | normal =>
   obtain ⟨m',hm,hp'⟩ := h
   exact ih m' hm _ _ hp'
  | exit i => exact h
  | ret => exact h
theorem Lp_ruleQ {ks : List Tmp} {c : Code} {K : Post} (P : Inv) (hstep : ∀ (Q : Inv) (KK : Post),(∀ m a H,P m a H → Q m a H) → (∀ e a H,AtK K e a H → AtK KK e a H) → ∀ m a H,P m a H → Wp C me rd c a H (itK Q m ks H.size KK)) : ∀ m a H,P m a H → Lp C me rd ks c a H K :=
 Lp_rule P (hstep P K (fun _ _ _ h => h) (fun _ _ _ h => h))
theorem Again.mk' {P : Inv} {m : Nat} {a : AAct} {H : Heap} (m' : Nat) (h : m' < m) (hp : P m' a H) : Again P m a H := ⟨m',h,hp⟩
end
theorem take_len {α : Type} (l : List α) : l.take l.length = l := List.take_length
theorem drop_len {α : Type} (l : List α) : l.drop l.length = [] := List.drop_length
attribute [go_sem] take_len drop_len
end Go.Ev
namespace Go.Ev
open Go.Proofs
abbrev Plc := Nat × Nat × Nat
def plN (p : Plc) : AV := .agg [intA p.1,intA p.2.1,intA p.2.2]
def wordsL (i j : Nat) : Nat → Line → List (Plc × ByteArray)
 | _,[] => []
 | k,s :: r => ((i,j,k),s) :: wordsL i j (k + 1) r
def wordsC (i : Nat) : Nat → List Line → List (Plc × ByteArray)
 | _,[] => []
 | j,l :: r => wordsL i j 0 l ++ wordsC i (j + 1) r
theorem All2.cons {α β : Type} {R : α → β → Prop} {a : α} {l : List α} {m : List β} (h : All2 R (a :: l) m) : ∃ b m',m = b :: m' ∧ R a b ∧ All2 R l m' := by
 cases m with
 | nil => have := h.1;simp at this
 | cons b m' => exact ⟨b,m',rfl,h.2 0 a b rfl rfl,by simpa using h.1,fun i x y hx hy => h.2 (i + 1) x y (by simpa using hx) (by simpa using hy)⟩
end Go.Ev
namespace Go.Ev
open Go.Proofs
theorem okFrom_mem : ∀ (t t' : Txt) (j : Nat),okFrom t j t' = true → ∀ c ∈ t',withinB 1 10 [(c.2.length : Int)] = true ∧ c.2.all lineB = true
 | t,[],j,_,c,hc => by cases hc
 | t,c' :: r,j,h,c,hc => by
  simp only [okFrom,Bool.and_eq_true,condC] at h
  rcases List.mem_cons.1 hc with rfl | hc
  ·exact ⟨h.1.1.1.2,h.1.2⟩
  ·exact okFrom_mem t r (j + 1) h.2 c hc
structure Small (t : Txt) : Prop where
 chs : 1 ≤ t.length ∧ t.length ≤ 6
 lines : ∀ c ∈ t,1 ≤ c.2.length ∧ c.2.length ≤ 10
 words : ∀ c ∈ t,∀ l ∈ c.2,1 ≤ l.length ∧ l.length ≤ 10
 word : ∀ c ∈ t,∀ l ∈ c.2,∀ s ∈ l,wordB s = true
theorem small_of {t : Txt} (h : textB t = true) : Small t := by
 unfold textB at h
 simp only [Bool.and_eq_true] at h
 obtain ⟨h1,h2⟩ := h
 have hl : ∀ c ∈ t,∀ l ∈ c.2,lineB l = true := fun c hc l hl => List.all_eq_true.1 (okFrom_mem t t 0 h2 c hc).2 l hl
 refine ⟨?_,fun c hc => ?_,fun c hc l hlm => ?_,fun c hc l hlm s hs => ?_⟩
 ·rw [range1] at h1;simp at h1;omega
 ·have := (okFrom_mem t t 0 h2 c hc).1
  rw [range1] at this;simp at this;omega
 ·have := hl c hc l hlm
  unfold lineB at this
  rw [range1] at this;simp at this;omega
 ·have := hl c hc l hlm
  unfold lineB at this
  simp only [Bool.and_eq_true] at this
  exact List.all_eq_true.1 this.2 s hs
theorem wordsL_len (i j : Nat) : ∀ (ws : Line) (k : Nat),(wordsL i j k ws).length = ws.length
 | [],_ => rfl
 | _ :: r,k => by simp [wordsL,wordsL_len i j r]
theorem wrap_nat (n : Nat) (h : n < 2 ^ 62) : IntKind.i64.wrap (n : Int) = (n : Int) := wrap_in _ (by omega) (by omega)
end Go.Ev
namespace Go.Ev
open Go.Proofs
def q15 (n : Int) (c : Nat) (_ : Plc) : Bool := decide (IntKind.i64.wrap c = n)
end Go.Ev
namespace Go.Ev
section
variable {P : Program}
theorem rp_bind {α β : Type} : ∀ (s : Sem α) (f : α → Sem β),runPure P (s >>= f) = (runPure P s).bind fun x => runPure P (f x) := by
 intro s f
 show runPure P (s.bind f) = _
 induction s with
 | pure a => rfl
 | program k ih => exact ih P
 | mark m k ih => exact ih
 | _ => rfl
theorem rp_pure {α : Type} (x : α) : runPure P (pure x : Sem α) = some x := rfl
theorem rp_program : runPure P program = some P := rfl
theorem rp_underlying {t : TypeId} {d : TypeDesc} (h : P.underlying t = some d) : runPure P (underlying t) = some d := by
 unfold underlying
 rw [rp_bind,rp_program,Option.bind_some,h];rfl
theorem rp_ite {α : Type} (c : Prop) [Decidable c] (x y : Sem α) : runPure P (if c then x else y) = if c then runPure P x else runPure P y := by split <;> rfl
theorem rp_struct {t : TypeId} {fs : Array Field} (hu : P.underlying t = some (.struct fs)) (hst : P.stoodInHeld t = false) (xs ys : Array Value) (d : Nat) : runPure P (Op.equalIn (d + 1) t (.agg xs) (.agg ys)) = runPure P (Op.eqFields d xs ys fs.toList) := by
 unfold Op.equalIn
 simp only [rp_bind,rp_underlying hu,Option.bind_some,rp_program,hst]
 simp only [Bool.false_eq_true,if_false,rp_bind]
 rw [← Array.forIn_toList]
 induction fs.toList with
 | nil => simp [Op.eqFields,rp_pure]
 | cons f r ih =>
  simp only [List.forIn_cons,Op.eqFields,rp_bind,rp_ite]
  split
  ·cases runPure P (part f.type xs f.offset) with
   | none => rfl
   | some a =>
    simp only [Option.bind_some]
    cases runPure P (part f.type ys f.offset) with
    | none => rfl
    | some b =>
     simp only [Option.bind_some]
     cases runPure P (Op.equalIn d f.type a b) with
     | none => rfl
     | some r =>
      cases r
      ·simp only [Option.bind_some,Bool.not_false,if_true,rp_pure]
      ·simp only [Option.bind_some,Bool.not_true,Bool.false_eq_true,if_false,rp_pure]
       exact ih
  ·simp only [rp_pure,Option.bind_some]
   exact ih
theorem rp_int {t : TypeId} {k' : IntKind} (hu : P.underlying t = some (.int k')) (k : IntKind) (a b : Int) (d : Nat) : runPure P (Op.equalIn (d + 1) t (.int k a) (.int k b)) = some (decide (a = b)) := by
 unfold Op.equalIn
 simp only [rp_bind,rp_underlying hu,Option.bind_some,if_true]
 have : (a == b) = decide (a = b) := rfl
 rw [this];rfl
theorem rp_bool {t : TypeId} (hu : P.underlying t = some .bool) (a b : Bool) (d : Nat) : runPure P (Op.equalIn (d + 1) t (.bool a) (.bool b)) = some (a == b) := by
 unfold Op.equalIn
 simp only [rp_bind,rp_underlying hu,Option.bind_some]
 rfl
theorem beqB (a b : ByteArray) : (a == b) = decide (a = b) := by
 obtain ⟨⟨x⟩⟩ := a
 obtain ⟨⟨y⟩⟩ := b
 show ((⟨x⟩ : Array UInt8) == ⟨y⟩) = _
 by_cases h : x = y
 ·subst h;simp
 ·simp [h]
theorem rp_string {t : TypeId} (hu : P.underlying t = some .string) (a b : ByteArray) (d : Nat) : runPure P (Op.equalIn (d + 1) t (.string a) (.string b)) = some (decide (a = b)) := by
 unfold Op.equalIn
 simp only [rp_bind,rp_underlying hu,Option.bind_some]
 rw [beqB];rfl
def eqCell : Value → Value → Bool
 | .int _ m,.int _ n => decide (m = n)
 | .string a,.string b => decide (a = b)
 | .bool a,.bool b => a == b
 | _,_ => false
def eqCells : List Value → List Value → Bool
 | [],[] => true
 | x :: r,y :: s => eqCell x y && eqCells r s
 | _,_ => false
theorem eqCells_append : ∀ (a b c d : List Value),a.length = b.length → eqCells (a ++ c) (b ++ d) = (eqCells a b && eqCells c d)
 | [],[],c,d,_ => by simp [eqCells]
 | [],_ :: _,c,d,h => by simp at h
 | _ :: _,[],c,d,h => by simp at h
 | x :: a,y :: b,c,d,h => by simp only [List.cons_append,eqCells,eqCells_append a b c d (by simpa using h),Bool.and_assoc]
def tiledE (P : Program) : Nat → List Field → Nat → Bool
 | k,[],e => k == e
 | k,f :: r,e => f.offset == k && f.name != "_" && tiledE P (k + P.cellsOf f.type) r e
def eqOk (P : Program) : Nat → TypeId → List Value → List Value → Bool
 | 0,_,_,_ => false
 | n + 1,t,us,ws => (P.info? t).isSome &&
  match P.underlying t with
  | some .bool => match us,ws with | [.bool _],[.bool _] => true | _,_ => false
  | some (.int _) => match us,ws with | [.int k _],[.int k' _] => decide (k = k') | _,_ => false
  | some .string => match us,ws with | [.string _],[.string _] => true | _,_ => false
  | some (.struct fs) => !P.stoodInHeld t && tiledE P 0 fs.toList us.length && us.length == ws.length && P.cellsOf t == us.length && fs.toList.all fun f => eqOk P n f.type ((us.drop f.offset).take (P.cellsOf f.type)) ((ws.drop f.offset).take (P.cellsOf f.type))
  | _ => false
def isStr (P : Program) (t : TypeId) : Bool := match P.underlying t with | some (.struct _) => true | _ => false
def valOf (P : Program) (t : TypeId) (us : List Value) : Value := if isStr P t then .agg us.toArray else us.headD (.bool false)
theorem rp_info {t : TypeId} {i : TypeInfo} (h : P.info? t = some i) : runPure P (typeInfo t) = some i := by
 unfold typeInfo
 rw [rp_bind,rp_program,Option.bind_some,h];rfl
theorem rp_isAgg {t : TypeId} {d : TypeDesc} (h : P.underlying t = some d) : runPure P (isAgg t) = some (match d with | .struct _ | .array _ _ => true | _ => false) := by
 unfold isAgg
 rw [rp_bind,rp_underlying h,Option.bind_some]
 cases d <;> rfl
theorem rp_part_one {t : TypeId} {d : TypeDesc} (hu : P.underlying t = some d) (hd : (match d with | .struct _ | .array _ _ => true | _ => false) = false) {xs : List Value} {k c : Nat} {u : Value} (hx : (xs.drop k).take c = [u]) : runPure P (part t xs.toArray k) = some u := by
 unfold part
 rw [rp_bind,rp_isAgg hu,Option.bind_some,hd]
 have h0 : xs.toArray[k]? = some u := Go.getElem?_of_chunk (c := c) (by simpa using hx)
 simp only [Bool.false_eq_true,if_false,h0]
 rfl
theorem rp_part_agg {t : TypeId} {fs : Array Field} (hu : P.underlying t = some (.struct fs)) {i : TypeInfo} (hi : P.info? t = some i) (xs : List Value) (k : Nat) : runPure P (part t xs.toArray k) = some (.agg ((xs.drop k).take (P.cellsOf t)).toArray) := by
 unfold part
 rw [rp_bind,rp_isAgg hu,Option.bind_some]
 simp only [if_true]
 unfold sizeOf
 simp only [rp_bind,rp_info hi,Option.bind_some,rp_pure]
 unfold Program.cellsOf
 rw [hi]
 simp [List.extract_toArray]
theorem eqOk_len {n t : Nat} {us ws : List Value} (h : eqOk P n t us ws = true) : us.length = ws.length := by
 cases n with
 | zero => cases h
 | succ n =>
  unfold eqOk at h
  simp only [Bool.and_eq_true] at h
  replace h := h.2
  split at h
  ·split at h <;> first | rfl | cases h
  ·split at h <;> first | rfl | cases h
  ·split at h <;> first | rfl | cases h
  ·simp only [Bool.and_eq_true,beq_iff_eq] at h;exact h.1.1.2
  ·cases h
theorem rp_eq : ∀ (n : Nat) (t : TypeId) (us ws : List Value),eqOk P n t us ws = true → ∀ K,n ≤ K → (∀ (xs : List Value) (k : Nat),(xs.drop k).take (P.cellsOf t) = us → runPure P (part t xs.toArray k) = some (valOf P t us)) ∧ (∀ (xs : List Value) (k : Nat),(xs.drop k).take (P.cellsOf t) = ws → runPure P (part t xs.toArray k) = some (valOf P t ws)) ∧ runPure P (Op.equalIn K t (valOf P t us) (valOf P t ws)) = some (eqCells us ws)
 | 0,_,_,_,h,_,_ => by cases h
 | n + 1,t,us,ws,h,0,hK => by omega
 | n + 1,t,us,ws,h,K + 1,hK => by
  unfold eqOk at h
  simp only [Bool.and_eq_true] at h
  obtain ⟨hi,h⟩ := h
  obtain ⟨i,hi⟩ := Option.isSome_iff_exists.1 hi
  cases hu : P.underlying t with
  | none => rw [hu] at h;cases h
  | some d =>
   rw [hu] at h
   have hv : ∀ l,valOf P t l = if (match d with | .struct _ => true | _ => false) then .agg l.toArray else l.headD (.bool false) := by
    intro l;unfold valOf isStr;rw [hu];cases d <;> rfl
   cases d <;> try (cases h;done)
   case bool =>
    simp only at h
    split at h
    ·rw [hv,hv]
     exact ⟨fun xs k hx => rp_part_one hu rfl hx,fun xs k hx => rp_part_one hu rfl hx,(rp_bool hu _ _ K).trans (congrArg some (Bool.and_true _).symm)⟩
    ·cases h
   case int =>
    simp only at h
    split at h
    ·rename_i k a k' b
     simp only [decide_eq_true_eq] at h
     subst h
     rw [hv,hv]
     exact ⟨fun xs k hx => rp_part_one hu rfl hx,fun xs k hx => rp_part_one hu rfl hx,(rp_int hu _ _ _ K).trans (congrArg some (Bool.and_true _).symm)⟩
    ·cases h
   case string =>
    simp only at h
    split at h
    ·rw [hv,hv]
     exact ⟨fun xs k hx => rp_part_one hu rfl hx,fun xs k hx => rp_part_one hu rfl hx,(rp_string hu _ _ K).trans (congrArg some (Bool.and_true _).symm)⟩
    ·cases h
   case struct fs =>
    simp only [Bool.and_eq_true,Bool.not_eq_true',beq_iff_eq] at h
    obtain ⟨⟨⟨⟨hst,htl⟩,hlen⟩,hc⟩,hall⟩ := h
    rw [hv,hv]
    simp only [if_true]
    refine ⟨fun xs k hx => by rw [rp_part_agg hu hi,hx],fun xs k hx => by rw [rp_part_agg hu hi,hx], ?_⟩
    rw [rp_struct hu hst]
    have hall' : ∀ f ∈ fs.toList,eqOk P n f.type ((us.drop f.offset).take (P.cellsOf f.type)) ((ws.drop f.offset).take (P.cellsOf f.type)) = true := fun f hf => List.all_eq_true.1 hall f (by simpa using hf)
    have key : ∀ (l : List Field) (k : Nat),(∀ f ∈ l,f ∈ fs.toList) → tiledE P k l us.length = true → runPure P (Op.eqFields K us.toArray ws.toArray l) = some (eqCells (us.drop k) (ws.drop k)) := by
     intro l
     induction l with
     | nil =>
      intro k _ ht
      have : k = us.length := by unfold tiledE at ht;simpa using ht
      subst this
      rw [List.drop_of_length_le (Nat.le_refl _),List.drop_of_length_le (by omega)]
      rfl
     | cons f r ih =>
      intro k hm ht
      unfold tiledE at ht
      simp only [Bool.and_eq_true,beq_iff_eq,bne_iff_ne,ne_eq] at ht
      obtain ⟨⟨ho,hn⟩,ht⟩ := ht
      have hf := hall' f (hm f List.mem_cons_self)
      obtain ⟨h1,h2,h3⟩ := rp_eq n f.type _ _ hf K (by omega)
      have ihr := ih (k + P.cellsOf f.type) (fun g hg => hm g (List.mem_cons_of_mem _ hg)) ht
      unfold Op.eqFields
      rw [if_pos (by simpa using hn)]
      simp only [rp_bind,rp_ite]
      rw [h1 us f.offset rfl,h2 ws f.offset rfl]
      simp only [Option.bind_some,h3,rp_pure,ihr]
      rw [ho]
      have hl := eqOk_len hf
      rw [ho] at hl
      have e1 : us.drop k = (us.drop k).take (P.cellsOf f.type) ++ us.drop (k + P.cellsOf f.type) := by
       rw [← List.drop_drop,List.take_append_drop]
      have e2 : ws.drop k = (ws.drop k).take (P.cellsOf f.type) ++ ws.drop (k + P.cellsOf f.type) := by
       rw [← List.drop_drop,List.take_append_drop]
      have e3 := eqCells_append _ _ (us.drop (k + P.cellsOf f.type)) (ws.drop (k + P.cellsOf f.type)) hl
      rw [← e1,← e2] at e3
      rw [e3]
      cases eqCells ((us.drop k).take (P.cellsOf f.type)) ((ws.drop k).take (P.cellsOf f.type)) <;> rfl
    have := key fs.toList 0 (fun _ h => h) htl
    simpa using this
theorem bin_struct {t : TypeId} {us ws : List Value} {n : Nat} (hok : eqOk P n t us ws = true) (hn : n ≤ 10000) (hs : isStr P t = true) (hg : P.eqGuardType P.depth t = false) (x y : Operand) :
  binA P .eql t x y (.agg (us.map .v)) (.agg (ws.map .v)) = some (.v (.bool (eqCells us ws))) ∧ binA P .neq t x y (.agg (us.map .v)) (.agg (ws.map .v)) = some (.v (.bool (!eqCells us ws))) := by
 have ha : ∀ l : List Value,toAtoms (l.map .v) = some l := by
  intro l;induction l with
  | nil => rfl
  | cons a r ih => simp only [List.map_cons,toAtoms,ih,Option.map_some]
 have hv : ∀ l : List Value,toValue (.agg (l.map .v)) = some (.agg l.toArray) := by
  intro l;simp only [toValue,ha,Option.map_some]
 have h := (rp_eq n t us ws hok 10000 hn).2.2
 have hvv : ∀ l,valOf P t l = .agg l.toArray := by intro l;unfold valOf;rw [hs];rfl
 rw [hvv,hvv] at h
 have h' : runPure P (Op.equal t (.agg us.toArray) (.agg ws.toArray)) = some (eqCells us ws) := h
 constructor
 ·unfold binA
  simp only [hv,isEq,hg,Bool.not_false,Bool.and_true,if_true]
  show atomA (runPure P (do pure (.bool (← Op.equal t (.agg us.toArray) (.agg ws.toArray))))) = _
  rw [rp_bind,h'];rfl
 ·unfold binA
  simp only [hv,isEq,hg,Bool.not_false,Bool.and_true,if_true]
  show atomA (runPure P (do pure (.bool (!(← Op.equal t (.agg us.toArray) (.agg ws.toArray)))))) = _
  rw [rp_bind,h'];rfl
end
end Go.Ev
namespace Go.Ev
open Go.Proofs
def eqP (a b c a' b' c' : Int) : Bool := decide (a = a') && (decide (b = b') && decide (c = c'))
theorem eqP_cells (a b c a' b' c' : Int) : eqCells [.int .i64 a,.int .i64 b,.int .i64 c] [.int .i64 a',.int .i64 b',.int .i64 c'] = eqP a b c a' b' c' := by
 simp [eqCells,eqCell,eqP]
theorem eq32 (x y : Operand) (a b c a' b' c' : Int) : binA Tryz.prog .eql 28 x y (.agg [.v (.int .i64 a),.v (.int .i64 b),.v (.int .i64 c)]) (.agg [.v (.int .i64 a'),.v (.int .i64 b'),.v (.int .i64 c')]) = some (.v (.bool (eqP a b c a' b' c'))) := by
 have := (bin_struct (P := Tryz.prog) (t := 28) (us := [.int .i64 a,.int .i64 b,.int .i64 c]) (ws := [.int .i64 a',.int .i64 b',.int .i64 c']) (n := 3) (by kernel_rfl) (by decide) (by kernel_rfl) (by kernel_rfl) x y).1
 rw [eqP_cells] at this
 exact this
def q16 (q : Plc) (_ : Nat) (p : Plc) : Bool := eqP p.1 p.2.1 p.2.2 q.1 q.2.1 q.2.2
end Go.Ev
namespace Go.Ev
open Go.Proofs
attribute [local irreducible] Wp WpS
def lineAt (t : Txt) (a b : Int) : Option Line := if 0 ≤ a ∧ 0 ≤ b then (t[a.toNat]?).bind fun c => c.2[b.toNat]? else none
def LineO (o : Option Line) (x : AV) : Prop := match o with | some l => LineA l x | none => x = .v (.slice none 0 0)
theorem within_len (a : Int) (n : Nat) : withinB 0 ((n : Int) - 1) [a] = decide (0 ≤ a ∧ a < n) := by
 rw [range1]
 by_cases h : 0 ≤ a <;> by_cases h2 : a < n <;> simp [h,h2] <;> omega
theorem ans42 {e : Exts} (he : Quiet e) (t : Txt) (ht : Fits t) (ch : AV) (xs : List AV) (hch : SlOf 2 xs ch) (hall : All2 ChapA t xs) (a b c : Int) : ∃ x,LineO (lineAt t a b) x ∧ Ans (Cx e) 97 [.agg [ch],.agg [intA a,intA b,intA c]] (.tup [x,.v (.bool (lineAt t a b).isSome)]) := by
 have hw1 : IntKind.i64.wrap ((t.length : Int) - 1) = (t.length : Int) - 1 := wrap_in _ (by omega) (by have := ht.chs;omega)
 have hc1 := callI43 he a 0 ((t.length : Int) - 1)
 rw [within_len] at hc1
 by_cases h1 : 0 ≤ a ∧ a < t.length
 ·obtain ⟨i,rfl⟩ : ∃ i : Nat,a = i := ⟨a.toNat,by omega⟩
  obtain ⟨cp,hs⟩ := at_lt t i (by omega)
  obtain ⟨y,hy,l,rfl,lxs,hl,hls⟩ := hall.get hs
  have hm := List.mem_of_getElem? hs
  have hll := ht.lines cp hm
  have hw2 : IntKind.i64.wrap ((cp.2.length : Int) - 1) = (cp.2.length : Int) - 1 := wrap_in _ (by omega) (by omega)
  have hc2 := callI43 he b 0 ((cp.2.length : Int) - 1)
  rw [within_len] at hc2
  rw [decide_eq_true h1] at hc1
  by_cases h2 : 0 ≤ b ∧ b < cp.2.length
  ·obtain ⟨j,rfl⟩ : ∃ j : Nat,b = j := ⟨b.toNat,by omega⟩
   obtain ⟨ln,hn⟩ := at_lt cp.2 j (by omega)
   obtain ⟨lx,hx,hlx⟩ := hls.get hn
   have hlx : SlOf 1 (strs ln) lx := hlx
   rw [decide_eq_true h2] at hc2
   have hL : lineAt t i j = some ln := by unfold lineAt;rw [if_pos (by omega)];simp [hs,hn]
   rw [hL]
   refine ⟨lx,hlx, ?_⟩
   unfold Ans
   rw [fn_step (fn_97 e) (show Tryz.f97.body = some _ from rfl)]
   simp -implicitDefEqProofs only [Tryz.f97,go_sem,↓reduceIte,Int.reduceEq,Int.reduceLT,Int.reduceLE,List.zip_cons_cons,List.zip_nil_right,List.zip_nil_left,setT_nil,setT_cons,intA,hch.cells,hch.flat,hch.bound]
   refine wp_draw (by kernel_rfl) ?_
   simp -implicitDefEqProofs only [go_sem,↓reduceIte,Int.reduceEq,Int.reduceLT,Int.reduceLE,List.zip_cons_cons,List.zip_nil_right,List.zip_nil_left,setT_nil,setT_cons,intA,hch.cells,hch.flat,hch.bound,hch.len,hch.lenI,← hall.1,hw1,hc1,hch.idx hy,hl.len,hl.cells,hl.lenI,← hls.1,hw2,hc2]
   refine wp_draw (by kernel_rfl) ?_
   simp -implicitDefEqProofs only [go_sem,↓reduceIte,Int.reduceEq,Int.reduceLT,Int.reduceLE,List.zip_cons_cons,List.zip_nil_right,List.zip_nil_left,setT_nil,setT_cons,intA,hch.cells,hch.flat,hch.bound,hch.len,hch.lenI,← hall.1,hw1,hc1,hch.idx hy,hl.len,hl.cells,hl.idx hx,hlx.cells]
   rcases hlx with ⟨rfl, -⟩ | ⟨cap,rfl⟩ <;> rfl
  ·rw [decide_eq_false h2] at hc2
   have hL : lineAt t i b = none := by
    unfold lineAt
    split
    ·simp only [Int.toNat_natCast,hs,Option.bind_some]
     rw [List.getElem?_eq_none_iff];omega
    ·rfl
   rw [hL]
   refine ⟨_,rfl, ?_⟩
   unfold Ans
   rw [fn_step (fn_97 e) (show Tryz.f97.body = some _ from rfl)]
   simp -implicitDefEqProofs only [Tryz.f97,go_sem,↓reduceIte,Int.reduceEq,Int.reduceLT,Int.reduceLE,List.zip_cons_cons,List.zip_nil_right,List.zip_nil_left,setT_nil,setT_cons,intA,hch.cells,hch.flat,hch.bound]
   refine wp_draw (by kernel_rfl) ?_
   simp -implicitDefEqProofs only [go_sem,↓reduceIte,Int.reduceEq,Int.reduceLT,Int.reduceLE,List.zip_cons_cons,List.zip_nil_right,List.zip_nil_left,setT_nil,setT_cons,intA,hch.cells,hch.flat,hch.bound,hch.len,hch.lenI,← hall.1,hw1,hc1,hch.idx hy,hl.len,hl.cells,hl.lenI,← hls.1,hw2,hc2]
   rfl
 ·rw [decide_eq_false h1] at hc1
  have hL : lineAt t a b = none := by
   unfold lineAt
   split
   ·have : t[a.toNat]? = none := by rw [List.getElem?_eq_none_iff];omega
    rw [this];rfl
   ·rfl
  rw [hL]
  refine ⟨_,rfl, ?_⟩
  unfold Ans
  rw [fn_step (fn_97 e) (show Tryz.f97.body = some _ from rfl)]
  simp -implicitDefEqProofs only [Tryz.f97,go_sem,↓reduceIte,Int.reduceEq,Int.reduceLT,Int.reduceLE,List.zip_cons_cons,List.zip_nil_right,List.zip_nil_left,setT_nil,setT_cons,intA,hch.cells,hch.flat,hch.bound]
  refine wp_draw (by kernel_rfl) ?_
  simp -implicitDefEqProofs only [go_sem,↓reduceIte,Int.reduceEq,Int.reduceLT,Int.reduceLE,List.zip_cons_cons,List.zip_nil_right,List.zip_nil_left,setT_nil,setT_cons,intA,hch.cells,hch.flat,hch.bound,hch.len,hch.lenI,← hall.1,hw1,hc1]
  rfl
theorem call42 {e : Exts} (he : Quiet e) (t : Txt) (ht : Fits t) (ch : AV) (xs : List AV) (hch : SlOf 2 xs ch) (hall : All2 ChapA t xs) (a b c : Int) : ∃ x,LineO (lineAt t a b) x ∧ ∀ (me : FuncId) (d : Option Tmp) (H : Heap),callA (Cx e) (lim (Cx e)) me 97 d [.agg [ch],.agg [.v (.int .i64 a),.v (.int .i64 b),.v (.int .i64 c)]] H = some (.tup [x,.v (.bool (lineAt t a b).isSome)],H) := by
 obtain ⟨x,hx,h⟩ := ans42 he t ht ch xs hch hall a b c
 exact ⟨x,hx,fun me d H => h.call (ext_97 he) (pure_97 _ _ _) (by simp only [boundL_cons,bound_agg,hch.bound,boundL_nil,intA,bound_v];rfl) H⟩
def placeB' (t : Txt) (a b c : Int) : Bool := match lineAt t a b with | some l => decide (0 ≤ c ∧ c < l.length) | none => false
theorem lineAt_mem {t : Txt} {a b : Int} {l : Line} (h : lineAt t a b = some l) : ∃ c ∈ t,l ∈ c.2 := by
 unfold lineAt at h
 split at h
 ·obtain ⟨c,h1,h2⟩ := Option.bind_eq_some_iff.1 h
  exact ⟨c,List.mem_of_getElem? h1,List.mem_of_getElem? h2⟩
 ·cases h
theorem ans17 {e : Exts} (he : Quiet e) (t : Txt) (ht : Fits t) (ch : AV) (xs : List AV) (hch : SlOf 2 xs ch) (hall : All2 ChapA t xs) (a b c : Int) : Ans (Cx e) 62 [.agg [ch],.agg [intA a,intA b,intA c]] (.v (.bool (placeB' t a b c))) := by
 obtain ⟨x,hx,hc⟩ := call42 he t ht ch xs hch hall a b c
 unfold placeB' Ans
 rw [fn_step (fn_62 e) (show Tryz.f62.body = some _ from rfl)]
 cases hL : lineAt t a b with
 | none =>
  rw [hL] at hx hc
  simp only [LineO] at hx
  subst hx
  simp only [Option.isSome_none] at hc
  simp -implicitDefEqProofs only [Tryz.f62,go_sem,↓reduceIte,Int.reduceEq,Int.reduceLT,Int.reduceLE,List.zip_cons_cons,List.zip_nil_right,List.zip_nil_left,setT_nil,setT_cons,intA,hch.cells,hch.flat,hch.bound,hc]
 | some l =>
  rw [hL] at hx hc
  have hx : SlOf 1 (strs l) x := hx
  obtain ⟨cp,hcm,hlm⟩ := lineAt_mem hL
  have hll := ht.words cp hcm l hlm
  simp only [Option.isSome_some] at hc
  have hw1 : IntKind.i64.wrap ((l.length : Int) - 1) = (l.length : Int) - 1 := wrap_in _ (by omega) (by omega)
  have hc1 := call43 he c 0 ((l.length : Int) - 1)
  rw [within_len] at hc1
  simp -implicitDefEqProofs only [Tryz.f62,go_sem,↓reduceIte,Int.reduceEq,Int.reduceLT,Int.reduceLE,List.zip_cons_cons,List.zip_nil_right,List.zip_nil_left,setT_nil,setT_cons,intA,hch.cells,hch.flat,hch.bound,hc,hx.len,strs_len,hw1,hc1]
theorem call17 {e : Exts} (he : Quiet e) (t : Txt) (ht : Fits t) (ch : AV) (xs : List AV) (hch : SlOf 2 xs ch) (hall : All2 ChapA t xs) (a b c : Int) (me : FuncId) (d : Option Tmp) (H : Heap) : callA (Cx e) (lim (Cx e)) me 62 d [.agg [ch],.agg [.v (.int .i64 a),.v (.int .i64 b),.v (.int .i64 c)]] H = some (.v (.bool (placeB' t a b c)),H) :=
 (ans17 he t ht ch xs hch hall a b c).call (ext_62 he) (pure_62 _ _ _) (by simp only [boundL_cons,bound_agg,hch.bound,boundL_nil,intA,bound_v];rfl) H
end Go.Ev
namespace Go.Ev
theorem cmp_bytes : ∀ (a b : List UInt8),Lib.compareBytes a b = if bytesLt a b then -1 else if bytesLt b a then 1 else 0
 | [],[] => by simp [Lib.compareBytes,bytesLt]
 | [],_ :: _ => by simp [Lib.compareBytes,bytesLt]
 | _ :: _,[] => by simp [Lib.compareBytes,bytesLt]
 | x :: a,y :: b => by
  have ih := cmp_bytes a b
  unfold Lib.compareBytes bytesLt
  simp only [UInt8.lt_iff_toNat_lt]
  by_cases h1 : x.toNat < y.toNat
  ·have e1 : Nat.blt x.toNat y.toNat = true := Nat.ble_eq_true_of_le h1
   simp [h1,e1]
  ·have e1 : Nat.blt x.toNat y.toNat = false := by
    cases hb : Nat.blt x.toNat y.toNat
    ·rfl
    ·exact absurd (Nat.le_of_ble_eq_true hb) h1
   by_cases h2 : y.toNat < x.toNat
   ·have e2 : Nat.blt y.toNat x.toNat = true := Nat.ble_eq_true_of_le h2
    have e3 : (x.toNat == y.toNat) = false := by simp;omega
    simp [h1,h2,e1,e2,e3]
   ·have e2 : Nat.blt y.toNat x.toNat = false := by
     cases hb : Nat.blt y.toNat x.toNat
     ·rfl
     ·exact absurd (Nat.le_of_ble_eq_true hb) h2
    have e3 : x.toNat = y.toNat := by omega
    simp [e3,ih]
theorem ext_cmp {P : Program} {f : FuncId} {fn : Func} (hf : P.funcs[f]? = some fn) (hb : fn.body = none) (hn : (fn.name == "runtime.NumGoroutine") = false) (h1 : (Extern.findNext fn).isNone = true) (h2 : Extern.find fn = some Extern.BytealgCompare.compare)
  {args : List AV} {v : AV} (h : cmpStr args = some v) (Z : Fzn) (ρ : Pls) (H : Heap) (w : World) (vals : List Value) (hs : Sim Z ρ H w) (hl : RepL Z ρ args vals) : FnMeets P f vals w (After Z ρ H w v H) := by
 unfold cmpStr at h
 split at h
 ·rename_i a b
  obtain ⟨v1,ws,rfl,hv1,hl⟩ := hl.uncons
  obtain ⟨v2,ws,rfl,hv2,hl⟩ := hl.uncons
  have : ws = [] := by have := hl.1;exact List.length_eq_zero_iff.1 this.symm
  subst this
  obtain ⟨rfl, -⟩ := hv1.v_inv
  obtain ⟨rfl, -⟩ := hv2.v_inv
  simp only [Option.some.injEq] at h
  subst h
  refine Or.inl ⟨.int .i64 (Lib.compareBytes a.data.toList b.data.toList),w, ?_,Z,ρ, ?_,hs,Ext.refl _ _ _ _⟩
  ·have hfn : Extern.findNext fn = none := Option.isNone_iff_eq_none.1 h1
   have := Lib.run_compareString (P := P) a b w
   have hn' : ¬ fn.name = "runtime.NumGoroutine" := by
    intro e;rw [e] at hn;simp at hn
   simp [callFunc,hf,hn',hb,hfn,h2,this]
  ·rw [cmp_bytes];exact .v rfl
 ·cases h
theorem ext_of_ans {C : Cfg} (hgo : NoGo C.P) (hm : C.P.follows .mixedOrders = true) (hext : ExtOK C) {f : FuncId} {args : List AV} {v : AV} (h : Ans C f args v) (hb : boundL args = 0)
  (Z : Fzn) (ρ : Pls) (H : Heap) (w : World) (vals : List Value) (hs : Sim Z ρ H w) (hl : RepL Z ρ args vals) : FnMeets C.P f vals w (After Z ρ H w v H) := by
 obtain ⟨x,H',h1,h2⟩ := Ans.iff.1 h
 obtain ⟨n,hn⟩ := lim_iff.1 h1
 have hrec : RecOK C.P (evT C n) := (ev_sound hgo hext (draw_ok hm hext) n).1
 let D : Cfg := { C with pure := fun _ _ _ => true }
 have hk : callKind D f f none args = 1 := by unfold callKind;rw [hb];rfl
 have hB : callB D (evT C n) f f none args H = some (v,H) := by
  unfold callB;rw [hk];simp only [hn,h2,Option.map_some]
 obtain ⟨hbody,hc⟩ := callB_sound (C := D) hrec hs hl hB
 exact Or.inr ⟨hbody.run _ _,hc⟩
def moreExt (e : FuncId → Option (List AV → Option AV)) (f : FuncId) (g : List AV → Option AV) : FuncId → Option (List AV → Option AV) := fun f' => if Nat.beq f' f then some g else e f'
theorem extOK_more {C C' : Cfg} (hP : C'.P = C.P) {f : FuncId} {g : List AV → Option AV} (hg : ∀ args v,g args = some v → ∀ (Z : Fzn) (ρ : Pls) (H : Heap) (w : World) (vals : List Value),Sim Z ρ H w → RepL Z ρ args vals → FnMeets C.P f vals w (After Z ρ H w v H))
  (hext : ExtOK C) (he : C'.ext = moreExt C.ext f g) (hlay : C'.lay = C.lay := by rfl) (hexh : C'.exh = C.exh := by rfl) : ExtOK C' := by
 refine ⟨fun f' g' hf' args v hv Z ρ H w vals hs hl => ?_,fun f' g' hf' => by rw [hP];rw [hlay] at hf';exact hext.lay f' g' hf',fun f' g' hf' => by rw [hP];rw [hexh] at hf';exact hext.exh f' g' hf'⟩
 rw [hP]
 rw [he] at hf'
 unfold moreExt at hf'
 split at hf'
 ·rename_i hb
  have := Nat.eq_of_beq_eq_true hb
  subst this
  simp only [Option.some.injEq] at hf'
  subst hf'
  exact hg args v hv Z ρ H w vals hs hl
 ·exact hext.ext f' g' hf' args v hv Z ρ H w vals hs hl
def eqV : Value → Value → Bool
 | .int k n,.int k' n' => decide (k = k') && decide (n = n')
 | .bool a,.bool b => a == b
 | .string a,.string b => bytesEq a.data.toList b.data.toList
 | .slice none 0 0,.slice none 0 0 => true
 | _,_ => false
theorem eqV_eq {x y : Value} (h : eqV x y = true) : x = y := by
 unfold eqV at h
 split at h
 ·simp at h;rw [h.1,h.2]
 ·simp at h;rw [h]
 ·rw [bytesEq_iff,decide_eq_true_eq,← str_ext] at h;rw [h]
 ·rfl
 ·cases h
def listEq (f : AV → AV → Bool) : List AV → List AV → Bool
 | [],[] => true
 | x :: r,y :: s => f x y && listEq f r s
 | _,_ => false
theorem listEq_eq {f : AV → AV → Bool} (hf : ∀ x y,f x y = true → x = y) : ∀ {l m : List AV},listEq f l m = true → l = m
 | [],[],_ => rfl
 | [],_ :: _,h => by simp [listEq] at h
 | _ :: _,[],h => by simp [listEq] at h
 | x :: r,y :: s,h => by
  simp only [listEq,Bool.and_eq_true] at h
  rw [hf _ _ h.1,listEq_eq hf h.2]
def capEq : Option Nat → Option Nat → Bool
 | none,none => true
 | some k,some k' => Nat.beq k k'
 | _,_ => false
theorem capEq_eq {c c' : Option Nat} (h : capEq c c' = true) : c = c' := by
 unfold capEq at h
 split at h
 ·rfl
 ·rw [Nat.eq_of_beq_eq_true h]
 ·cases h
def eqStep (rec : AV → AV → Bool) (x y : AV) : Bool :=
 match x,y with
 | .v x,.v y => eqV x y
 | .agg a,.agg b => listEq rec a b
 | .vs s a c,.vs s' a' c' => Nat.beq s s' && listEq rec a a' && capEq c c'
 | _,_ => false
def eqA (n : Nat) : AV → AV → Bool := Nat.rec (fun _ _ => false) (fun _ rec => eqStep rec) n
theorem eqA_eq : ∀ (n : Nat) (x y : AV),eqA n x y = true → x = y
 | 0,_,_,h => by cases h
 | n + 1,x,y,h => by
  have h' : eqStep (eqA n) x y = true := h
  unfold eqStep at h'
  split at h'
  ·rw [eqV_eq h']
  ·rw [listEq_eq (eqA_eq n) h']
  ·simp only [Bool.and_eq_true] at h'
   obtain ⟨⟨h1,h2⟩,h3⟩ := h'
   rw [Nat.eq_of_beq_eq_true h1,listEq_eq (eqA_eq n) h2,capEq_eq h3]
  ·cases h'
def atArgs (K : List AV) (R : AV) : List AV → Option AV := fun args => if listEq (eqA 30) args K then some R else none
theorem atArgs_some {K : List AV} {R : AV} {args : List AV} {v : AV} (h : atArgs K R args = some v) : args = K ∧ v = R := by
 unfold atArgs at h
 split at h
 ·rename_i hq
  exact ⟨listEq_eq (eqA_eq 30) hq,by simpa using h.symm⟩
 ·cases h
end Go.Ev
namespace Go.Ev
open Go.Proofs
attribute [local irreducible] Wp WpS
end Go.Ev
namespace Go.Ev
def tiled (P : Program) : Nat → List Field → Nat → Bool
 | k,[],e => k == e
 | k,f :: r,e => f.offset == k && tiled P (k + P.cellsOf f.type) r e
def plainT (P : Program) : Nat → TypeId → Bool
 | 0,_ => false
 | n + 1,t =>
  match P.underlying t with
  | some .bool => true
  | some (.int _) => true
  | some .string => true
  | some (.slice e) => decide (0 < P.cellsOf e) && plainT P n e
  | some (.struct fs) => tiled P 0 fs.toList (P.cellsOf t) && fs.toList.all fun f => plainT P n f.type
  | _ => false
def elemOf (cs : List AV) : AV := match cs with | [c] => c | cs => .agg cs
def Plain (P : Program) : Nat → TypeId → List AV → Prop
 | 0,_,_ => False
 | n + 1,t,cs =>
  match P.underlying t with
  | some .bool => ∃ b,cs = [.v (.bool b)]
  | some (.int k) => ∃ m,cs = [.v (.int k m)] ∧ (Lit.int k m).wf = true
  | some .string => ∃ s,cs = [.v (.string s)] ∧ s.size ≤ maxLen
  | some (.slice e) => ∃ x xs,cs = [x] ∧ SlOf (P.cellsOf e) xs x ∧ xs.length ≤ maxLen ∧ ∀ y ∈ xs,∃ c,y = elemOf c ∧ c.length = P.cellsOf e ∧ Plain P n e c
  | some (.struct fs) => cs.length = P.cellsOf t ∧ ∀ f ∈ fs.toList,Plain P n f.type ((cs.drop f.offset).take (P.cellsOf f.type))
  | _ => False
theorem elem_cells {cs : List AV} (h : ∀ c ∈ cs,c.flat = true) : (elemOf cs).cells = cs := by
 unfold elemOf
 split
 ·rename_i c
  have := h c (by simp)
  cases c <;> simp_all [AV.cells,AV.flat]
 ·rfl
theorem exists_list {α : Type} {Q : Nat → α → Prop} : ∀ (n : Nat),(∀ i,i < n → ∃ y,Q i y) → ∃ l : List α,l.length = n ∧ ∀ i y,l[i]? = some y → Q i y
 | 0,_ => ⟨[],rfl,fun i y h => by simp at h⟩
 | n + 1,h => by
  obtain ⟨l,hl,hq⟩ := exists_list n fun i hi => h i (by omega)
  obtain ⟨y,hy⟩ := h n (by omega)
  refine ⟨l ++ [y],by simp [hl],fun i z hz => ?_⟩
  by_cases hi : i < l.length
  ·rw [List.getElem?_append_left hi] at hz;exact hq i z hz
  ·have hlt := (List.getElem?_eq_some_iff.1 hz).1
   simp at hlt
   have : i = l.length := by omega
   subst this
   simp at hz;subst hz;rw [hl];exact hy
theorem tile_rep {Z : Fzn} {ρ : Pls} {P : Program} {Q : Field → List AV → Prop} : ∀ (fs : List Field) (k e : Nat) (cs : List Value),tiled P k fs e = true → cs.length = e →
  (∀ f ∈ fs,∃ a,RepL Z ρ a ((cs.drop f.offset).take (P.cellsOf f.type)) ∧ Q f a ∧ ∀ c ∈ a,c.flat = true) →
  k ≤ e → ∃ A,RepL Z ρ A (cs.drop k) ∧ (∀ c ∈ A,c.flat = true) ∧ ∀ f ∈ fs,k ≤ f.offset ∧ f.offset + P.cellsOf f.type ≤ e ∧ Q f ((A.drop (f.offset - k)).take (P.cellsOf f.type))
 | [],k,e,cs,ht,hl,_,_ => by
  have : k = e := by simpa [tiled] using ht
  subst this
  refine ⟨[], ?_,by simp,by simp⟩
  rw [List.drop_of_length_le (by omega)];exact RepL.nil
 | f :: r,k,e,cs,ht,hl,hf,hk => by
  simp only [tiled,Bool.and_eq_true,beq_iff_eq] at ht
  obtain ⟨ho,ht⟩ := ht
  have hle : ∀ (fs : List Field) (k : Nat),tiled P k fs e = true → k ≤ e := by
   intro fs
   induction fs with
   | nil => intro k h;have : k = e := by simpa [tiled] using h
            omega
   | cons g s ih => intro k h;simp only [tiled,Bool.and_eq_true] at h;have := ih _ h.2;omega
  have hle' := hle _ _ ht
  obtain ⟨A,hA,hAf,hAq⟩ := tile_rep r (k + P.cellsOf f.type) e cs ht hl (fun g hg => hf g (List.mem_cons_of_mem _ hg)) hle'
  obtain ⟨a,ha,hq,haf⟩ := hf f List.mem_cons_self
  have hal : a.length = P.cellsOf f.type := by rw [ha.1];simp;omega
  refine ⟨a ++ A, ?_, ?_, ?_⟩
  ·have : cs.drop k = (cs.drop f.offset).take (P.cellsOf f.type) ++ cs.drop (k + P.cellsOf f.type) := by
    rw [ho,← List.drop_drop];exact (List.take_append_drop _ _).symm
   rw [this];exact ha.append hA
  ·intro c hc
   rcases List.mem_append.1 hc with h | h
   ·exact haf c h
   ·exact hAf c h
  ·intro g hg
   rcases List.mem_cons.1 hg with rfl | hg
   ·refine ⟨by omega,by omega, ?_⟩
    rw [ho,Nat.sub_self,List.drop_zero,List.take_append_of_le_length (by omega),List.take_of_length_le (by omega)]
    exact hq
   ·obtain ⟨h1,h2,h3⟩ := hAq g hg
    refine ⟨by omega,h2, ?_⟩
    have : (a ++ A).drop (g.offset - k) = A.drop (g.offset - (k + P.cellsOf f.type)) := by
     rw [List.drop_append,List.drop_of_length_le (by omega),List.nil_append,hal];congr 1;omega
    rw [this];exact h3
section
variable {HH : Type} {enc : TypeId × Value → HH} {P : Program} {w : World}
theorem cells_at {a : Addr} {n : Nat} {cs : List Value} (h : w.cells? 0 a n = some cs) (hn : 0 < n) : a.spot = none ∧ ∃ arr e fr,w.heap[a.block]? = some (.cells arr e fr) ∧ cs.length = n ∧ ∀ j,j < n → arr[a.off + j]? = cs[j]? := by
 obtain ⟨_,hl,hc⟩ := World.cells?_some h
 have h0 := hc 0 hn
 obtain ⟨c0,hc0⟩ : ∃ c0,cs[0]? = some c0 := ⟨cs[0]'(by omega),List.getElem?_eq_getElem _⟩
 have hsp : a.spot = none := by
  have := World.cell?_spot (h0.trans hc0)
  simpa [Addr.add] using this
 have hcell := h0.trans hc0
 have hb : ∀ j,(a.add j).block = a.block := by intro j;unfold Addr.add;split <;> rfl
 have hs : ∀ j,(a.add j).spot = none := by
  intro j;unfold Addr.add;split
  ·exact hsp
  ·rfl
 have ho : ∀ j,(a.add j).off = a.off + j := by
  intro j;unfold Addr.add;split
  ·rename_i hj;subst hj;rfl
  ·rfl
 refine ⟨hsp, ?_⟩
 unfold World.cell? at hcell
 rw [hb] at hcell
 split at hcell
 ·rename_i arr e fr hh
  refine ⟨arr,e,fr,hh,hl,fun j hj => ?_⟩
  have := hc j hj
  unfold World.cell? at this
  rw [hb,hh] at this
  simp only [hs,ho,Option.isSome_none,Bool.false_eq_true,if_false] at this
  exact this
 ·cases hcell
theorem plain_rep : ∀ (N t fuel : Nat) (cs : List Value) (x : DataW HH × List MemPlace),plainT P N t = true → DataW.trod enc P w 0 (fun _ => true) true fuel t cs = some x →
  ∃ A,RepL (allZ w) noPls A cs ∧ Plain P N t A ∧ ∀ c ∈ A,c.flat = true
 | 0,_,_,_,_,hp,_ => by simp [plainT] at hp
 | N + 1,t,fuel,cs,x,hp,h => by
  unfold plainT at hp
  cases hu : P.underlying t with
  | none => rw [hu] at hp;simp at hp
  | some u =>
   rw [hu] at hp
   cases u <;> simp only [Bool.false_eq_true] at hp
   case bool =>
    obtain ⟨b,rfl, -⟩ := DataW.trod_bool hu h
    exact ⟨[.v (.bool b)],RepL.cons (.v rfl) RepL.nil,by unfold Plain;rw [hu];exact ⟨b,rfl⟩,by simp [AV.flat]⟩
   case int k =>
    obtain ⟨n,rfl, -,hw⟩ := DataW.trod_int hu h
    exact ⟨[.v (.int k n)],RepL.cons (.v rfl) RepL.nil,by unfold Plain;rw [hu];exact ⟨n,rfl,hw⟩,by simp [AV.flat]⟩
   case string =>
    obtain ⟨n,rfl, -,hw⟩ := DataW.trod_string hu h
    exact ⟨[.v (.string n)],RepL.cons (.v rfl) RepL.nil,by unfold Plain;rw [hu];exact ⟨n,rfl,hw⟩,by simp [AV.flat]⟩
   case struct fs =>
    rw [Bool.and_eq_true,List.all_eq_true] at hp
    obtain ⟨xs,n, -, -,hl,hlen,hf⟩ := DataW.trod_struct hu h
    have hall : ∀ f ∈ fs.toList,∃ a,RepL (allZ w) noPls a ((cs.drop f.offset).take (P.cellsOf f.type)) ∧ Plain P N f.type a ∧ ∀ c ∈ a,c.flat = true := by
     intro f hfm
     obtain ⟨i,hi⟩ := List.getElem?_of_mem hfm
     have hi' : fs[i]? = some f := by simpa using hi
     have hxi := hf i f hi'
     have hlt : i < xs.length := by
      rw [hlen]
      have := (List.getElem?_eq_some_iff.1 hi).1
      simpa using this
     rw [List.getElem?_eq_getElem hlt] at hxi
     exact plain_rep N f.type n _ _ (hp.2 f hfm) hxi
    obtain ⟨A,hA,hAf,hAq⟩ := tile_rep fs.toList 0 (P.cellsOf t) cs hp.1 hl hall (Nat.zero_le _)
    rw [List.drop_zero] at hA
    refine ⟨A,hA, ?_,hAf⟩
    unfold Plain;rw [hu]
    refine ⟨by rw [hA.1];exact hl,fun f hf => ?_⟩
    have := (hAq f hf).2.2
    rwa [Nat.sub_zero] at this
   case slice e =>
    simp only [Bool.and_eq_true,decide_eq_true_eq] at hp
    rcases DataW.trod_slice hu h with ⟨rfl, -⟩ | ⟨a,len,cap,elems,rest,n, -,rfl, -, -,hlc,hcm,hel,hget, -, -⟩
    ·refine ⟨[.v (.slice none 0 0)],RepL.cons (.v rfl) RepL.nil, ?_,by simp [AV.flat]⟩
     unfold Plain;rw [hu]
     exact ⟨_,[],rfl,Or.inl ⟨rfl,rfl⟩,Nat.zero_le _,by simp⟩
    ·have hone : ∀ i,i < len → ∃ y : AV,∃ A ci,w.cells? 0 (a.add (i * P.cellsOf e)) (P.cellsOf e) = some ci ∧ RepL (allZ w) noPls A ci ∧ Plain P N e A ∧ (∀ c ∈ A,c.flat = true) ∧ y = elemOf A := by
      intro i hi
      have := hget i hi
      rw [List.getElem?_eq_getElem (by omega),Option.bind_eq_some_iff] at this
      obtain ⟨ci,hc1,hc2⟩ := this
      obtain ⟨A,h1,h2,h3⟩ := plain_rep N e n ci _ hp.2 hc2
      exact ⟨_,A,ci,hc1,h1,h2,h3,rfl⟩
     obtain ⟨xs,hxl,hxq⟩ := exists_list len hone
     have hsz : ∀ y ∈ xs,y.cells.length = P.cellsOf e := by
      intro y hy
      obtain ⟨i,hi⟩ := List.getElem?_of_mem hy
      obtain ⟨A,ci,h1,h2,h3,h4,rfl⟩ := hxq i y hi
      rw [elem_cells h4,h2.1]
      exact (World.cells?_some h1).2.1
     have hplain : Plain P (N + 1) t [.vs (P.cellsOf e) xs (some cap)] := by
      unfold Plain;rw [hu]
      refine ⟨_,xs,rfl,Or.inr ⟨_,rfl⟩,by omega,fun y hy => ?_⟩
      obtain ⟨i,hi⟩ := List.getElem?_of_mem hy
      obtain ⟨A,ci,h1,h2,h3,h4,rfl⟩ := hxq i y hi
      exact ⟨A,rfl,by rw [h2.1];exact (World.cells?_some h1).2.1,h3⟩
     by_cases h0 : len = 0
     ·subst h0
      have : xs = [] := List.length_eq_zero_iff.1 hxl
      subst this
      exact ⟨_,RepL.cons (.vs0 (by simp)) RepL.nil,hplain,by simp [AV.flat]⟩
     ·-- the block
      have hpos := hp.1
      obtain ⟨y0,hy0⟩ : ∃ y,xs[0]? = some y := ⟨xs[0]'(by omega),List.getElem?_eq_getElem _⟩
      obtain ⟨A0,c0,hc0, -⟩ := hxq 0 y0 hy0
      obtain ⟨hsp0,arr,et,fr,hh, -, -⟩ := cells_at hc0 hpos
      have hb : ∀ j,(a.add j).block = a.block := by intro j;unfold Addr.add;split <;> rfl
      have ho : ∀ j,(a.add j).off = a.off + j := by
       intro j;unfold Addr.add;split
       ·rename_i hj;subst hj;rfl
       ·rfl
      rw [hb] at hh
      have hsp : a.spot = none := by simpa [Addr.add] using hsp0
      have hall : ∀ i j,i < len → j < P.cellsOf e → ∃ A ci,xs[i]? = some (elemOf A) ∧ (∀ c ∈ A,c.flat = true) ∧ RepL (allZ w) noPls A ci ∧ ci.length = P.cellsOf e ∧ arr[a.off + i * P.cellsOf e + j]? = ci[j]? := by
       intro i j hi hj
       obtain ⟨y,hy⟩ : ∃ y,xs[i]? = some y := ⟨xs[i]'(by omega),List.getElem?_eq_getElem _⟩
       obtain ⟨A,ci,h1,h2,h3,h4,rfl⟩ := hxq i y hy
       obtain ⟨-,arr',et',fr',hh',hl',hg⟩ := cells_at h1 hpos
       rw [hb,hh] at hh'
       obtain ⟨rfl,rfl,rfl⟩ : arr = arr' ∧ et = et' ∧ fr = fr' := by simpa using hh'
       have := hg j hj
       rw [ho] at this
       exact ⟨A,ci,hy,h4,h2,hl',this⟩
      have hfl : (xs.flatMap AV.cells).length = len * P.cellsOf e := by rw [flat_len hsz,hxl]
      have hfit : a.off + len * P.cellsOf e ≤ arr.size := by
       obtain ⟨A,ci, -, -, -,hl',hg⟩ := hall (len - 1) (P.cellsOf e - 1) (by omega) (by omega)
       rw [List.getElem?_eq_getElem (by omega)] at hg
       have := (Array.getElem?_eq_some_iff.1 hg).1
       have e1 : (len - 1) * P.cellsOf e + P.cellsOf e = len * P.cellsOf e := by
        have : len = (len - 1) + 1 := by omega
        conv => rhs;rw [this,Nat.succ_mul]
       omega
      refine ⟨[.vs (P.cellsOf e) xs (some cap)],RepL.cons ?_ RepL.nil,hplain,by simp [AV.flat]⟩
      have hval : (Value.slice (some a) len cap) = .slice (some ⟨a.block,(arr.toList.take a.off).length,none⟩) xs.length cap := by
       have : (arr.toList.take a.off).length = a.off := by simp;omega
       rw [this,hxl];cases a;simp_all
      rw [hval]
      refine .vs (vs := (arr.toList.drop a.off).take (len * P.cellsOf e)) (post := (arr.toList.drop a.off).drop (len * P.cellsOf e)) (pre := arr.toList.take a.off) (e := et) (fz := fr) (arr := arr) hh ?_ hsz ?_ ?_ (by simp) (by omega)
      ·rw [List.append_assoc,List.take_append_drop,List.take_append_drop]
      ·rw [hfl];simp;omega
      ·intro i c v hc hv
       have hi := (List.getElem?_eq_some_iff.1 hc).1
       rw [hfl] at hi
       have hq : i / P.cellsOf e < len := Nat.div_lt_of_lt_mul (by rw [Nat.mul_comm];exact hi)
       have hr : i % P.cellsOf e < P.cellsOf e := Nat.mod_lt _ hpos
       have hdm : i / P.cellsOf e * P.cellsOf e + i % P.cellsOf e = i := by rw [Nat.mul_comm];exact Nat.div_add_mod _ _
       obtain ⟨A,ci,hx,hA,hR,hl',hg⟩ := hall _ _ hq hr
       have hfa := (flat_at hsz hx).1
       rw [elem_cells hA] at hfa
       have hcA : A[i % P.cellsOf e]? = some c := by
        rw [← hfa,List.getElem?_take,if_pos hr,List.getElem?_drop,hdm];exact hc
       have hvA : ci[i % P.cellsOf e]? = some v := by
        rw [← hg]
        rw [List.getElem?_take,if_pos hi,List.getElem?_drop] at hv
        rw [show a.off + i / P.cellsOf e * P.cellsOf e + i % P.cellsOf e = a.off + i by omega]
        simpa using hv
       exact hR.2 _ _ _ hcA hvA
theorem plain_spare {base : Nat} {sp : Nat → Bool} : ∀ (N t fuel : Nat) (cs : List Value) (x : DataW HH × List MemPlace),plainT P N t = true → DataW.trod enc P w base (fun _ => true) true fuel t cs = some x →
  (∀ p ∈ x.2,sp p.block = true) → DataW.trod enc P w base sp true fuel t cs = some x
 | 0,_,_,_,_,hp,_,_ => by simp [plainT] at hp
 | N + 1,t,fuel,cs,x,hp,h,hs => by
  unfold plainT at hp
  cases fuel with
  | zero => simp [DataW.trod] at h
  | succ n =>
   cases hu : P.underlying t with
   | none => rw [hu] at hp;simp at hp
   | some u =>
    rw [hu] at hp
    cases u <;> simp only [Bool.false_eq_true] at hp
    case bool => obtain ⟨b,rfl,rfl⟩ := DataW.trod_bool hu h;rw [DataW.trod_step];unfold DataW.trodStep;rw [hu]
    case int k => obtain ⟨m,rfl,rfl,hw⟩ := DataW.trod_int hu h;rw [DataW.trod_step];unfold DataW.trodStep;rw [hu];simp [hw]
    case string => obtain ⟨m,rfl,rfl,hw⟩ := DataW.trod_string hu h;rw [DataW.trod_step];unfold DataW.trodStep;rw [hu];simp [hw]
    case struct fs =>
     rw [Bool.and_eq_true,List.all_eq_true] at hp
     rw [DataW.trod_step] at h ⊢
     unfold DataW.trodStep at h ⊢
     rw [hu] at h ⊢
     simp only at h ⊢
     split at h
     ·rename_i hl
      rw [if_pos hl]
      simp only [Option.map_eq_some_iff] at h ⊢
      obtain ⟨xs,hxs,rfl⟩ := h
      refine ⟨xs,mapM_carry hxs fun f y hf hy hfy => plain_spare N f.type n _ y (hp.2 f hf) hfy fun p hpm => hs p ?_,rfl⟩
      exact List.mem_flatMap.2 ⟨y,hy,hpm⟩
     ·cases h
    case slice e =>
     simp only [Bool.and_eq_true,decide_eq_true_eq] at hp
     have h0 := h
     rw [DataW.trod_step] at h ⊢
     unfold DataW.trodStep at h ⊢
     rw [hu] at h ⊢
     rcases DataW.trod_slice hu h0 with ⟨rfl,rfl⟩ | ⟨a,len,cap,elems,rest,n',hn',rfl,rfl, -,hlc,hcm,hel,hget,hrest, -⟩
     ·rfl
     ·simp only at h ⊢
      split at h
      ·rename_i hc
       rw [if_pos hc]
       simp only [if_true,Option.bind_eq_some_iff,Option.map_eq_some_iff] at h ⊢
       obtain ⟨es,hes,rs,hrs,heq⟩ := h
       have hin : ∀ y,y ∈ es ++ rs → ∀ p ∈ y.2,sp p.block = true := by
        intro y hy p hpm
        refine hs p ?_
        have := congrArg Prod.snd heq
        simp only at this
        rw [← this]
        exact List.mem_append_right _ (List.mem_flatMap.2 ⟨y,hy,hpm⟩)
       refine ⟨es,mapM_carry hes fun i y _ hy hfy => ?_,rs, ?_,heq⟩
       ·obtain ⟨ci,h1,h2⟩ := Option.bind_eq_some_iff.1 hfy
        rw [h1]
        exact plain_spare N e n ci y hp.2 h2 (hin y (List.mem_append_left _ hy))
       ·have hrl : rs.length = cap - len := by
         have := mapM_some_length hrs
         simpa using this
        by_cases hz : cap - len = 0
        ·have : rs = [] := List.length_eq_zero_iff.1 (by omega)
         subst this
         split
         ·rw [hz] at hrs ⊢;exact hrs
         ·rfl
        ·have hsp : sp a.block = true := by
          have hel' : es.length = len := by
           have := mapM_some_length hes
           simpa using this
          have := congrArg Prod.snd heq
          simp only at this
          have hm : MemPlace.cell a.block (a.off + 0) ∈ MemPlace.row a ((elems.length + rest.length) * P.cellsOf e) ++ (elems ++ rest).flatMap (·.2) := by
           rw [← this]
           refine List.mem_append_left _ (MemPlace.mem_row.2 ⟨0, ?_,rfl⟩)
           exact Nat.mul_pos (by omega) hp.1
          exact hs _ hm
         rw [if_pos hsp]
         refine mapM_carry hrs fun i y _ hy hfy => ?_
         obtain ⟨ci,h1,h2⟩ := Option.bind_eq_some_iff.1 hfy
         rw [h1]
         exact plain_spare N e n ci y hp.2 h2 (hin y (List.mem_append_right _ hy))
      ·cases h
end
end Go.Ev
namespace Go.Ev
open Go.ChangeShapes Go.WideShapes Go.ChangeAt Go.RowKit
def Arg (P : Program) (N : Nat) (t : TypeId) (x : AV) : Prop :=
 match P.underlying t with
 | some (.struct _) => ∃ A,x = .agg A ∧ Plain P N t A
 | _ => Plain P N t [x]
inductive ArgsOf (P : Program) (N : Nat) : List TypeId → List AV → Prop
 | nil : ArgsOf P N [] []
 | cons {t : TypeId} {ts : List TypeId} {x : AV} {xs : List AV} (h : Arg P N t x) (hs : ArgsOf P N ts xs) : ArgsOf P N (t :: ts) (x :: xs)
section
variable {HH : Type} {enc : TypeId × Value → HH} {P : Program} {w : World}
theorem arg_rep {N base : Nat} {t : TypeId} {v : Value} {d : DataW HH} {ps : List MemPlace} (hp : plainT P N t = true) (hok : Value.okWide P w .any base t v) (h : DataW.Trod enc P w 0 (fun _ => true) true t v d ps) :
  ∃ x,Rep (allZ w) noPls x v ∧ Arg P N t x := by
 obtain ⟨fuel,h⟩ := h
 obtain ⟨A,hA,hpl,hfl⟩ := plain_rep N t fuel _ _ hp h
 cases N with
 | zero => simp [plainT] at hp
 | succ N =>
  have one : ∀ (hv : v.cells.toList = [v]),(∃ c,A = [c]) → (∀ fs,P.underlying t ≠ some (.struct fs)) → ∃ x,Rep (allZ w) noPls x v ∧ Arg P (N + 1) t x := by
   rintro hv ⟨c,rfl⟩ hns
   rw [hv] at hA
   obtain ⟨v',ws,e,hr, -⟩ := hA.uncons
   cases e
   refine ⟨c,hr, ?_⟩
   unfold Arg
   split
   ·rename_i fs hu;exact absurd hu (hns fs)
   ·exact hpl
  unfold plainT at hp
  unfold Value.okWide at hok
  have hpl' := hpl
  unfold Plain at hpl'
  cases hu : P.underlying t with
  | none => rw [hu] at hp;simp at hp
  | some u =>
   rw [hu] at hp hok hpl'
   cases u <;> simp only [Bool.false_eq_true] at hp hok hpl'
   case bool =>
    obtain ⟨b,rfl⟩ := hpl'
    refine one ?_ ⟨_,rfl⟩ (by simp [hu])
    unfold Cell.okWide Cell.ok at hok;rw [hu] at hok
    cases v <;> first | rfl | simp at hok
   case int k =>
    obtain ⟨m,rfl, -⟩ := hpl'
    refine one ?_ ⟨_,rfl⟩ (by simp [hu])
    unfold Cell.okWide Cell.ok at hok;rw [hu] at hok
    cases v <;> first | rfl | simp at hok
   case string =>
    obtain ⟨m,rfl, -⟩ := hpl'
    refine one ?_ ⟨_,rfl⟩ (by simp [hu])
    unfold Cell.okWide Cell.ok at hok;rw [hu] at hok
    cases v <;> first | rfl | simp at hok
   case slice e =>
    obtain ⟨x,xs,rfl, -⟩ := hpl'
    refine one ?_ ⟨_,rfl⟩ (by simp [hu])
    unfold Cell.okWide Cell.ok at hok;rw [hu] at hok
    cases v <;> first | rfl | simp at hok
   case struct fs =>
    obtain ⟨cs,rfl, -, -⟩ := hok
    refine ⟨.agg A, ?_, ?_⟩
    ·have := hA.agg
     simpa [Value.cells] using this
    ·unfold Arg;rw [hu];exact ⟨A,rfl,hpl⟩
theorem args_rep {N base : Nat} : ∀ {ts : List TypeId} {vs : List Value} {ds : List (DataW HH)} {ps : List MemPlace},ts.all (plainT P N) = true → (∀ (j : Nat) t v,ts[j]? = some t → vs[j]? = some v → Value.okWide P w .any base t v) →
  DataW.TrodAll enc P w 0 (fun _ => true) true ts vs ds ps → ∃ xs,RepL (allZ w) noPls xs vs ∧ ArgsOf P N ts xs
 | [],vs,ds,ps,_,_,h => by
  cases vs <;> cases ds <;> simp [DataW.TrodAll] at h
  exact ⟨[],RepL.nil,.nil⟩
 | t :: ts,vs,ds,ps,hp,hok,h => by
  obtain ⟨v,vs',d,ds',p,q,rfl,rfl,rfl,h1,h2⟩ := trodAll_cons h
  simp only [List.all_cons,Bool.and_eq_true] at hp
  obtain ⟨x,hx,hax⟩ := arg_rep hp.1 (hok 0 t v rfl rfl) h1
  obtain ⟨xs,hxs,haxs⟩ := args_rep hp.2 (fun j t' v' ht hv => hok (j + 1) t' v' (by simpa using ht) (by simpa using hv)) h2
  exact ⟨x :: xs,RepL.cons hx hxs,.cons hax haxs⟩
theorem trod_after {w' : World} (hh : ∀ k,k < w.heap.size → w'.heap[k]? = w.heap[k]?) {N : Nat} {sp : Nat → Bool} : ∀ {ts : List TypeId} {vs : List Value} {ds : List (DataW HH)} {ps : List MemPlace},ts.all (plainT P N) = true →
  DataW.TrodAll enc P w 0 (fun _ => true) true ts vs ds ps → (∀ p ∈ ps,sp p.block = true) → DataW.TrodAll enc P w' 0 sp true ts vs ds ps
 | [],vs,ds,ps,_,h,_ => by
  cases vs <;> cases ds <;> simp [DataW.TrodAll] at h ⊢
  exact h
 | t :: ts,vs,ds,ps,hp,h,hs => by
  obtain ⟨v,vs',d,ds',p,q,rfl,rfl,rfl,⟨fuel,h1⟩,h2⟩ := trodAll_cons h
  simp only [List.all_cons,Bool.and_eq_true] at hp
  refine ⟨p,q,⟨fuel, ?_⟩,trod_after hh hp.2 h2 fun p hp => hs p (List.mem_append_right _ hp),rfl⟩
  have hlt := DataW.trod_lt _ _ _ _ h1
  refine plain_spare N t fuel _ _ hp.1 (DataW.trod_carry _ _ _ _ h1 fun p hp => ?_) fun p hp => hs p (List.mem_append_left _ hp)
  have := hlt p hp
  cases p with
  | cell b off =>
   have hb : b < w.heap.size := this
   simp only [World.sameAt,World.cell?,hh b hb]
  | map b =>
   have hb : b < w.heap.size := this
   simp only [World.sameAt,hh b hb]
theorem trodAll_len {b : Nat} {sp : Nat → Bool} {hd : Bool} : ∀ {ts : List TypeId} {vs : List Value} {ds : List (DataW HH)} {ps : List MemPlace},DataW.TrodAll enc P w b sp hd ts vs ds ps → ds.length = ts.length
 | [],vs,ds,ps,h => by cases vs <;> cases ds <;> simp [DataW.TrodAll] at h ⊢
 | t :: ts,vs,ds,ps,h => by
  obtain ⟨v,vs',d,ds',p,q,rfl,rfl,rfl,h1,h2⟩ := trodAll_cons h
  simp [trodAll_len h2]
theorem kept_of {w' : World} (hos : w'.os = w.os) (hout : w'.output = w.output) (hh : ∀ k,k < w.heap.size → w'.heap[k]? = w.heap[k]?) : w.keptBut w' (fun _ => False) := by
 refine ⟨hos,hout,fun i hi => ?_⟩
 rw [hh i hi]
 cases h : w.heap[i]? with
 | none => simp
 | some o => cases o <;> simp
theorem post_of_old {f : Func} {s : ChangeSpec} {apart fresh handsOn again : Bool} {W W' : World} {args : Array Value} {v : Value} {ds gs : List (DataW HH)} {before pa pv : List MemPlace}
  (hW : DataW.Whole enc P f.params.toList s.vars apart W args.toList ds gs before)
  (hres : ∀ (b : Nat) (sp : Nat → Bool) (hd : Bool),DataW.TrodAll enc P W' b sp hd f.resultTypes.toList (v.resultList f.resultTypes.size) (s.fn HH (ds ++ gs)).results [])
  (hargs : ∀ sp : Nat → Bool,(∀ p ∈ before,sp p.block = true) → DataW.TrodAll enc P W' 0 sp true f.params.toList args.toList (s.fn HH (ds ++ gs)).args pa)
  (hvars : ∀ sp : Nat → Bool,(∀ p ∈ before,sp p.block = true) → DataW.TrodVars enc P W' sp s.vars (s.fn HH (ds ++ gs)).vars pv)
  (hps : before = pa ++ pv) (hk : W.keptBut W' (· ∈ before)) (hfz : ∀ a : Addr,a.block < W.heap.size → W'.frozen? a = W.frozen? a)
  (hok : ∀ (j : Nat) (t : TypeId) (r : Value),f.resultTypes[j]? = some t → (v.resultList f.resultTypes.size)[j]? = some r → Value.okWide P W' .any 0 t r) :
  s.post enc P f apart fresh handsOn again W args v W' := by
 have hold : ∀ p ∈ before,(fun b => decide (b < W.heap.size)) p.block = true := fun p hp => by simpa using hW.lt p hp
 have hlt := hW.lt
 refine ⟨ds,gs,before,[],pa,pv,hW,hres _ _ _,hargs _ hold,hvars _ hold,World.keptBut_mono (fun p hp => ⟨hp, ?_⟩) hk,fun _ => ?_⟩
 ·rw [hps,List.mem_append] at hp
  exact Or.inr hp
 ·obtain ⟨_,_,_,_,_,hz,hn⟩ := hW
  refine ⟨hok,_,_,([] ++ pa) ++ pv,⟨[] ++ pa,pv,trodAll_append (hargs _ (fun _ _ => rfl)) (hres _ _ _),hvars _ (fun _ _ => rfl),rfl, ?_, ?_⟩, ?_⟩
  ·intro b off hp
   have hp' : MemPlace.cell b off ∈ before := by rw [hps];simpa using hp
   rw [hfz ⟨b,off,none⟩ (hlt _ hp')]
   exact hz b off hp'
  ·intro ha
   have := hn ha
   rw [hps] at this
   simpa using this
  ·intro p hp _
   rw [hps]
   simpa using hp
theorem law_contract {C : Cfg} (hP : C.P = P) (hgo : NoGo P) (hm : P.follows .mixedOrders = true) (hext : ExtOK C) {f : FuncId} {fn : Func} {s : ChangeSpec} {N : Nat} {apart fresh handsOn again : Bool} {tb : TypeId}
  (hpl : fn.params.toList.all (plainT P N) = true) (hvars : s.vars = []) (hspec : ∀ ds : List (DataW HH),ds.length = fn.params.size → s.fn HH ds = { results := [.lit (.bool true)],args := ds })
  (hrt : fn.resultTypes = #[tb]) (htb : P.underlying tb = some .bool)
  (hlaw : ∀ xs,ArgsOf P N fn.params.toList xs → ∃ H',lim C (.call f xs { objs := [],lock := 0 }) = some (.ret (.v (.bool true)) H'))
  {W : World} {base : Nat} {args : Array Value} {ds gs : List (DataW HH)} {before : List MemPlace}
  (hval : ∀ (j : Nat) t v,fn.params[j]? = some t → args[j]? = some v → Value.okWide P W .any base t v)
  (hW : DataW.Whole enc P fn.params.toList s.vars apart W args.toList ds gs before) (hg : laidOk (allZ W) := by intro p hp;cases hp) :
  Calls P f args W fun e W' => ∃ v,e = .returned v ∧ s.post enc P fn apart fresh handsOn again W args v W' := by
 subst hP
 have hW' := hW
 obtain ⟨p,q,hA,hV,rfl,hfz,hnd⟩ := hW
 have hV' := hV
 rw [hvars] at hV'
 obtain ⟨rfl,rfl⟩ := trodVars_none hV'
 obtain ⟨xs,hxs,hax⟩ := args_rep hpl (fun j t v ht hv => hval j t v (by simpa using ht) (by simpa using hv)) hA
 obtain ⟨H',hl⟩ := hlaw xs hax
 have hc := top_calls hg hgo hm hext hl hxs
 have hlen : ds.length = fn.params.size := by have := trodAll_len hA;simpa using this
 have hsf : s.fn HH (ds ++ []) = { results := [.lit (.bool true)],args := ds } := by rw [List.append_nil];exact hspec ds hlen
 refine Calls.mono' hc ?_
 rintro e W' ⟨rfl,hh,hsz,hos,hout, -,hfr⟩
 refine ⟨_,rfl,post_of_old (pa := p) (pv := []) hW' ?_ ?_ ?_ rfl (World.keptBut_mono (fun _ h => h.elim) (kept_of hos hout hh)) hfr ?_⟩
 ·intro b sp hd
  rw [hsf,hrt]
  exact trodAll_mk1 (shut_bool htb true)
 ·intro sp hsp
  rw [hsf]
  exact trod_after hh hpl hA fun x hx => hsp x (List.mem_append_left _ hx)
 ·intro sp hsp
  rw [hsf,hvars]
  rfl
 ·exact ok_one hrt rfl (okWide_bool_mk htb true)
end
end Go.Ev
namespace Go.Ev
open Go.Proofs
attribute [local irreducible] Wp WpS
theorem all2_of {α β : Type} {R : α → β → Prop} : ∀ (xs : List β),(∀ y ∈ xs,∃ a,R a y) → ∃ l,All2 R l xs
 | [],_ => ⟨[],rfl,fun i a b h => by simp at h⟩
 | y :: r,h => by
  obtain ⟨a,ha⟩ := h y List.mem_cons_self
  obtain ⟨l,hl⟩ := all2_of r fun z hz => h z (List.mem_cons_of_mem _ hz)
  refine ⟨a :: l,by simp [hl.1],fun i x z hx hz => ?_⟩
  cases i with
  | zero => simp at hx hz;subst hx;subst hz;exact ha
  | succ i => exact hl.2 i x z (by simpa using hx) (by simpa using hz)
theorem All2.mem_left {α β : Type} {R : α → β → Prop} {l : List α} {m : List β} (h : All2 R l m) {a : α} (ha : a ∈ l) : ∃ b ∈ m,R a b := by
 obtain ⟨i,hi⟩ := List.getElem?_of_mem ha
 obtain ⟨b,hb,hr⟩ := h.get hi
 exact ⟨b,List.mem_of_getElem? hb,hr⟩
def fieldsAt (P : Program) (t : TypeId) : List (Nat × Nat) := match P.underlying t with | some (.struct fs) => fs.toList.map fun f => (f.offset,f.type) | _ => []
def isStruct (P : Program) (t : TypeId) : Bool := match P.underlying t with | some (.struct _) => true | _ => false
theorem plain_struct {P : Program} {N t : Nat} {cs : List AV} {l : List (Nat × Nat)} (hs : isStruct P t = true) (hl : fieldsAt P t = l) (h : Plain P (N + 1) t cs) : cs.length = P.cellsOf t ∧ ∀ x ∈ l,Plain P N x.2 ((cs.drop x.1).take (P.cellsOf x.2)) := by
 unfold Plain at h
 unfold isStruct at hs
 unfold fieldsAt at hl
 split at hs
 ·rename_i fs hu
  rw [hu] at h hl
  simp only at h hl
  refine ⟨h.1,fun x hx => ?_⟩
  rw [← hl] at hx
  obtain ⟨f,hf,rfl⟩ := List.mem_map.1 hx
  exact h.2 f hf
 ·cases hs
theorem arg_struct {P : Program} {N t : Nat} {x : AV} (hs : isStruct P t = true) (h : Arg P N t x) : ∃ A,x = .agg A ∧ Plain P N t A := by
 unfold Arg at h
 unfold isStruct at hs
 split at hs
 ·rename_i fs hu;rw [hu] at h;exact h
 ·cases hs
theorem plain_slice {P : Program} {N t e c : Nat} {cs : List AV} (hu : P.underlying t = some (.slice e)) (hc : P.cellsOf e = c) (h : Plain P (N + 1) t cs) : ∃ x xs,cs = [x] ∧ SlOf c xs x ∧ xs.length ≤ maxLen ∧ ∀ y ∈ xs,∃ d,y = elemOf d ∧ d.length = c ∧ Plain P N e d := by
 unfold Plain at h;rw [hu] at h;subst hc;exact h
theorem plain_int {P : Program} {N t : Nat} {k : IntKind} {cs : List AV} (hu : P.underlying t = some (.int k)) (h : Plain P (N + 1) t cs) : ∃ m,cs = [.v (.int k m)] ∧ (Lit.int k m).wf = true := by
 unfold Plain at h;rw [hu] at h;exact h
theorem plain_string {P : Program} {N t : Nat} {cs : List AV} (hu : P.underlying t = some .string) (h : Plain P (N + 1) t cs) : ∃ s,cs = [.v (.string s)] ∧ s.size ≤ maxLen := by
 unfold Plain at h;rw [hu] at h;exact h
theorem two_cells {l : List AV} (h : l.length = 2) : ∃ a b,l = [a,b] := by
 match l,h with
 | [a,b],_ => exact ⟨a,b,rfl⟩
theorem maxLen_lt : maxLen < 2 ^ 63 := by decide
def LineF (ws : Line) (x : AV) : Prop := LineA ws x ∧ ws.length < 2 ^ 63 ∧ ∀ s ∈ ws,s.size < 2 ^ 63
def ChapF (c : Chap) (y : AV) : Prop := ChapA c y ∧ c.2.length < 2 ^ 63 ∧ ∀ l ∈ c.2,l.length < 2 ^ 63 ∧ ∀ s ∈ l,s.size < 2 ^ 63
theorem line_of {N : Nat} {cs : List AV} (h : Plain Tryz.prog (N + 2) 87 cs) : ∃ ws x,cs = [x] ∧ LineF ws x := by
 obtain ⟨x,xs,rfl,hx,hlen,hxs⟩ := plain_slice (c := 1) (by kernel_rfl : Tryz.prog.underlying 87 = some (.slice 9)) (by kernel_rfl) h
 have key : ∀ y ∈ xs,∃ s : ByteArray,y = .v (.string s) ∧ s.size ≤ maxLen := by
  intro y hy
  obtain ⟨d,rfl, -,hd⟩ := hxs y hy
  obtain ⟨s,rfl,hs⟩ := plain_string (by kernel_rfl : Tryz.prog.underlying 9 = some .string) hd
  exact ⟨s,rfl,hs⟩
 obtain ⟨ws,hws⟩ := all2_of (R := fun (s : ByteArray) y => y = AV.v (.string s) ∧ s.size ≤ maxLen) xs key
 have he : xs = strs ws := by
  unfold strs
  apply List.ext_getElem?
  intro i
  rw [List.getElem?_map]
  cases hi : ws[i]? with
  | none =>
   rw [List.getElem?_eq_none_iff] at hi
   rw [Option.map_none,List.getElem?_eq_none_iff]
   rw [← hws.1];exact hi
  | some s =>
   obtain ⟨b,hb,rfl, -⟩ := hws.get hi
   rw [hb];rfl
 have := maxLen_lt
 subst he
 refine ⟨ws,x,rfl,hx,by rw [strs_len] at hlen;omega,fun s hs => ?_⟩
 obtain ⟨b, -, -,h2⟩ := hws.mem_left hs
 omega
theorem chap_of {N : Nat} {cs : List AV} (h : Plain Tryz.prog (N + 4) 112 cs) : ∃ c,ChapF c (.agg cs) := by
 obtain ⟨hl,hf⟩ := plain_struct (l := [(0,3),(1,110)]) (by kernel_rfl) (by kernel_rfl) h
 obtain ⟨a,b,rfl⟩ := two_cells (hl.trans (by kernel_rfl))
 have h0 := hf (0,3) (by simp)
 have h1 := hf (1,110) (by simp)
 have e0 : Tryz.prog.cellsOf 3 = 1 := by kernel_rfl
 have e1 : Tryz.prog.cellsOf 110 = 1 := by kernel_rfl
 simp only [e0,e1,List.drop_zero,List.drop_succ_cons,List.take_succ_cons,List.take_zero] at h0 h1
 obtain ⟨m,hm, -⟩ := plain_int (by kernel_rfl : Tryz.prog.underlying 3 = some (.int .i64)) h0
 obtain ⟨x,xs,hx,hsl,hlen,hxs⟩ := plain_slice (c := 1) (by kernel_rfl : Tryz.prog.underlying 110 = some (.slice 87)) (by kernel_rfl) h1
 simp only [List.cons.injEq,and_true] at hm hx
 subst hm;subst hx
 have key : ∀ y ∈ xs,∃ ws,LineF ws y := by
  intro y hy
  obtain ⟨d,rfl, -,hd⟩ := hxs y hy
  obtain ⟨ws,z,rfl,hz⟩ := line_of hd
  exact ⟨ws,hz⟩
 obtain ⟨ls,hls⟩ := all2_of xs key
 have := maxLen_lt
 refine ⟨(m,ls),⟨_,rfl,xs,hsl,hls.1,fun i a b ha hb => (hls.2 i a b ha hb).1⟩,by have := hls.1;show ls.length < _;omega,fun l hl => ?_⟩
 obtain ⟨b, -,hb⟩ := hls.mem_left hl
 exact ⟨hb.2.1,hb.2.2⟩
theorem text_of {N : Nat} {x : AV} (h : Arg Tryz.prog (N + 6) 24 x) : ∃ t,TextA t x ∧ Fits t := by
 obtain ⟨A,rfl,hp⟩ := arg_struct (by kernel_rfl) h
 obtain ⟨hl,hf⟩ := plain_struct (l := [(0,22)]) (by kernel_rfl) (by kernel_rfl) hp
 have h0 := hf (0,22) (by simp)
 have hl1 : A.length = 1 := hl.trans (by kernel_rfl)
 obtain ⟨ch,rfl⟩ : ∃ c,A = [c] := by
  match A,hl1 with
  | [a],_ => exact ⟨a,rfl⟩
 have e0 : Tryz.prog.cellsOf 22 = 1 := by kernel_rfl
 simp only [e0,List.drop_zero,List.take_succ_cons,List.take_zero] at h0
 obtain ⟨y,xs,hy,hsl,hlen,hxs⟩ := plain_slice (c := 2) (by kernel_rfl : Tryz.prog.underlying 22 = some (.slice 112)) (by kernel_rfl) h0
 simp only [List.cons.injEq,and_true] at hy
 subst hy
 have key : ∀ y ∈ xs,∃ c,ChapF c y := by
  intro y hy
  obtain ⟨d,rfl,hd2,hd⟩ := hxs y hy
  obtain ⟨a,b,rfl⟩ := two_cells hd2
  exact chap_of hd
 obtain ⟨t,ht⟩ := all2_of xs key
 have := maxLen_lt
 have hmem : ∀ c ∈ t,c.2.length < 2 ^ 63 ∧ ∀ l ∈ c.2,l.length < 2 ^ 63 ∧ ∀ s ∈ l,s.size < 2 ^ 63 := fun c hc => by
  obtain ⟨b, -,hb⟩ := ht.mem_left hc
  exact hb.2
 exact ⟨t,⟨ch,rfl,xs,hsl,ht.1,fun i a b ha hb => (ht.2 i a b ha hb).1⟩,by have := ht.1;omega,fun c hc => (hmem c hc).1,fun c hc l hl => ((hmem c hc).2 l hl).1,fun c hc l hl s hs => ((hmem c hc).2 l hl).2 s hs⟩
theorem freeze_to_v {H : Heap} {K : Nat} {x : AV} {y : Value} (h : freezeV H K x = some (.v y)) : x = .v y := by
 cases K with
 | zero => cases h
 | succ K =>
  unfold freezeV at h
  cases x with
  | v z => simpa using h
  | ro z k => simp at h
  | vs s l c => simp at h
  | agg l => simp only [Option.map_eq_some_iff] at h;obtain ⟨_,_,h⟩ := h;cases h
  | tup l => simp only [Option.map_eq_some_iff] at h;obtain ⟨_,_,h⟩ := h;cases h
  | ifc t z => simp only [Option.map_eq_some_iff] at h;obtain ⟨_,_,h⟩ := h;cases h
  | mp b => simp only at h;split at h <;> simp at h
  | yld b => simp only at h;split at h <;> simp at h
  | fn f a b => simp only at h;split at h <;> simp at h
  | ptr b v k =>
   simp only at h
   split at h
   ·simp at h
   ·split at h
    ·split at h
     ·split at h <;> simp at h
     ·simp at h
    ·simp at h
  | sl b v off len c =>
   simp only at h
   split at h
   ·simp at h
   ·split at h
    ·split at h
     ·split at h
      ·simp at h
      ·split at h
       ·split at h <;> simp at h
       ·simp at h
     ·simp at h
    ·simp at h
theorem Ans.lim {C : Cfg} {f : FuncId} {args : List AV} (h : Ans C f args (.v (.bool true))) : ∃ H',Go.Ev.lim C (.call f args { objs := [],lock := 0 }) = some (.ret (.v (.bool true)) H') := by
 obtain ⟨x,H,h1,h2⟩ := Ans.iff.1 h
 rw [freeze_to_v h2] at h1
 exact ⟨H,h1⟩
end Go.Ev
