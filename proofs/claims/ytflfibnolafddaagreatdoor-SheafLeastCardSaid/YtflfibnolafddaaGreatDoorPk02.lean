/- What the proof of this claim stands on, part 3: an evaluator of the model, proved right, and what it answers for functions of the program. -/
import Derived.Test.YtflfibnolafddaaGreatDoorPk01
import Derived.IntWalk
import Derived.Lib.Bytealg
import Derived.WalkKit
import Derived.Shelf.Strings.OnBuilder
import Derived.Test.YtflfibnolafddaaGreatDoorProg
import Derived.KernelRfl
import Derived.Laws.StructEq
import Derived.ChangeReads
import Derived.ChangeOld
import Derived.ChangeArms
import Derived.RowKit3
import Derived.ProofKit
import Derived.OpenShut
import Derived.Lib.Overlaps
set_option maxHeartbeats 8000000
set_option maxRecDepth 1000000
set_option linter.unusedSimpArgs false
namespace Go.Ev
section
variable {P : Program}
@[go_sem] theorem eval_tmp (s : Nat) (l : List (Tmp × AV)) (m : List Nat) (t : Tmp) : (AAct.mk s l m).eval (.tmp t) = assoc t l := rfl
@[go_sem] theorem eval_int (a : AAct) (k : IntKind) (n : Int) : a.eval (.const (.int k n)) = some (.v (.int k n)) := rfl
@[go_sem] theorem eval_bool (a : AAct) (b : Bool) : a.eval (.const (.bool b)) = some (.v (.bool b)) := rfl
@[go_sem] theorem eval_string (a : AAct) (b : ByteArray) : a.eval (.const (.string b)) = some (.v (.string b)) := rfl
@[go_sem] theorem eval_nilslice (a : AAct) : a.eval (.const (.slice none 0 0)) = some (.v (.slice none 0 0)) := rfl
@[go_sem] theorem eval_func (a : AAct) (f : FuncId) : a.eval (.func f) = some (.fn (.func f) [] []) := rfl
@[go_sem] theorem assoc_nil (t : Tmp) : assoc t [] = none := rfl
@[go_sem] theorem assoc_cons (t k : Tmp) (v : AV) (r : List (Tmp × AV)) : assoc t ((k,v) :: r) = if k = t then some v else assoc t r := by
 simp only [assoc];by_cases h : k = t <;> simp [h]
@[go_sem] theorem set_nil (t : Tmp) (v : AV) : setAssoc t v [] = [(t,v)] := rfl
@[go_sem] theorem set_cons (t k : Tmp) (v x : AV) (r : List (Tmp × AV)) : setAssoc t v ((k,x) :: r) = if k = t then (k,v) :: r else (k,x) :: setAssoc t v r := by
 simp only [setAssoc];by_cases h : k = t <;> simp [h]
@[go_sem] theorem keepT_put (ks : List Nat) (s d : Tmp) (v : AV) (l : List (Tmp × AV)) : keepT ks (putT s d v l) = if d < s ∧ d ∈ ks then setAssoc d v (keepT ks l) else keepT ks l := by
 have h : ∀ ks : List Nat,memNat d ks = decide (d ∈ ks) := by
  intro ks;induction ks with
  | nil => rfl
  | cons x r ih =>
   simp only [memNat,ih,List.mem_cons]
   by_cases hx : x = d
   ·subst hx;simp
   ·have hb : Nat.beq x d = false := by
     cases hb : Nat.beq x d
     ·rfl
     ·exact absurd (Nat.eq_of_beq_eq_true hb) hx
    have hx' : ¬ d = x := fun e => hx e.symm
    simp [hb,hx']
 have key : ∀ l : List (Tmp × AV),keepT ks (setAssoc d v l) = if d ∈ ks then setAssoc d v (keepT ks l) else keepT ks l := by
  intro l
  induction l with
  | nil => simp only [keepT,set_nil,List.filter_cons,List.filter_nil,h];by_cases hd : d ∈ ks <;> simp [hd]
  | cons x r ih =>
   obtain ⟨k,y⟩ := x
   rw [set_cons]
   by_cases hk : k = d
   ·subst hk
    simp only [if_true,keepT,List.filter_cons,h]
    by_cases hd : k ∈ ks <;> simp [hd,set_cons]
   ·rw [if_neg hk]
    simp only [keepT,List.filter_cons] at ih ⊢
    cases hm : memNat k ks
    ·simp only [Bool.false_eq_true,if_false,ih]
    ·simp only [if_true,ih]
     by_cases hd : d ∈ ks
     ·simp only [hd,if_true];rw [set_cons,if_neg hk]
     ·simp only [hd,if_false]
 unfold putT
 by_cases hs : d < s
 ·rw [if_pos hs,key];by_cases hd : d ∈ ks <;> simp [hs,hd]
 ·rw [if_neg hs,if_neg (fun h => hs h.1)]
@[go_sem] theorem assoc_put (t s d : Tmp) (v : AV) (l : List (Tmp × AV)) : assoc t (putT s d v l) = if d < s ∧ d = t then some v else assoc t l := by
 unfold putT
 by_cases hs : d < s
 ·rw [if_pos hs]
  simp only [hs,true_and]
  induction l with
  | nil => simp only [set_nil,assoc_cons]
  | cons x r ih =>
   obtain ⟨k,y⟩ := x
   rw [set_cons]
   by_cases h : k = d
   ·subst h;simp only [if_true,assoc_cons];split <;> rfl
   ·rw [if_neg h,assoc_cons,assoc_cons,ih]
    by_cases h2 : k = t
    ·subst h2;rw [if_pos rfl,if_pos rfl,if_neg (fun e => h e.symm)]
    ·rw [if_neg h2,if_neg h2]
 ·rw [if_neg hs,if_neg (fun h => hs h.1)]
@[go_sem] theorem evals_nil (a : AAct) : evals a [] = some [] := rfl
def consO (x : Option AV) (y : Option (List AV)) : Option (List AV) := match x,y with | some v,some vs => some (v :: vs) | _,_ => none
@[go_sem] theorem consO_some (v : AV) (vs : List AV) : consO (some v) (some vs) = some (v :: vs) := rfl
@[go_sem] theorem evals_cons (a : AAct) (x : Operand) (r : List Operand) : evals a (x :: r) = consO (a.eval x) (evals a r) := rfl
def consP (i : Nat) (x : Option AV) (y : Option (List (Nat × AV))) : Option (List (Nat × AV)) := match x,y with | some v,some vs => some ((i,v) :: vs) | _,_ => none
@[go_sem] theorem consP_some (i : Nat) (v : AV) (vs : List (Nat × AV)) : consP i (some v) (some vs) = some ((i,v) :: vs) := rfl
@[go_sem] theorem evalParts_nil (a : AAct) : evalParts a [] = some [] := rfl
@[go_sem] theorem evalParts_cons (a : AAct) (i : Nat) (x : Operand) (r : List (Nat × Operand)) : evalParts a ((i,x) :: r) = consP i (a.eval x) (evalParts a r) := rfl
@[go_sem] theorem keepT_nil (ks : List Nat) : keepT ks [] = [] := rfl
@[go_sem] theorem keepT_cons (ks : List Nat) (k : Tmp) (v : AV) (r : List (Tmp × AV)) : keepT ks ((k,v) :: r) = if k ∈ ks then (k,v) :: keepT ks r else keepT ks r := by
 have h : ∀ ks : List Nat,memNat k ks = decide (k ∈ ks) := by
  intro ks;induction ks with
  | nil => rfl
  | cons x r ih =>
   simp only [memNat,ih,List.mem_cons]
   by_cases hx : x = k
   ·subst hx;simp
   ·have hb : Nat.beq x k = false := by
     cases hb : Nat.beq x k
     ·rfl
     ·exact absurd (Nat.eq_of_beq_eq_true hb) hx
    have hx' : ¬ k = x := fun e => hx e.symm
    simp [hb,hx']
 simp only [keepT,List.filter_cons,h]
 by_cases hk : k ∈ ks <;> simp [hk]
variable {t : TypeId} {x y : Operand} {k : IntKind}
@[go_sem] theorem bin_lss (m n : Int) : binA P .lss t x y (.v (.int k m)) (.v (.int k n)) = some (.v (.bool (decide (m < n)))) := by cases k <;> rfl
@[go_sem] theorem bin_leq (m n : Int) : binA P .leq t x y (.v (.int k m)) (.v (.int k n)) = some (.v (.bool (decide (m ≤ n)))) := by cases k <;> rfl
@[go_sem] theorem bin_gtr (m n : Int) : binA P .gtr t x y (.v (.int k m)) (.v (.int k n)) = some (.v (.bool (decide (n < m)))) := by cases k <;> rfl
@[go_sem] theorem bin_geq (m n : Int) : binA P .geq t x y (.v (.int k m)) (.v (.int k n)) = some (.v (.bool (decide (n ≤ m)))) := by cases k <;> rfl
@[go_sem] theorem bin_eql (m n : Int) : binA P .eql t x y (.v (.int k m)) (.v (.int k n)) = some (.v (.bool (decide (m = n)))) := by
 have : (m == n) = decide (m = n) := rfl
 cases k <;> rw [← this] <;> rfl
@[go_sem] theorem bin_neq (m n : Int) : binA P .neq t x y (.v (.int k m)) (.v (.int k n)) = some (.v (.bool (!decide (m = n)))) := by
 have : (m != n) = !decide (m = n) := rfl
 cases k <;> rw [← this] <;> rfl
@[go_sem] theorem bin_add (m n : Int) : binA P .add t x y (.v (.int k m)) (.v (.int k n)) = some (.v (.int k (k.wrap (m + n)))) := by cases k <;> rfl
@[go_sem] theorem bin_sub (m n : Int) : binA P .sub t x y (.v (.int k m)) (.v (.int k n)) = some (.v (.int k (k.wrap (m - n)))) := by cases k <;> rfl
@[go_sem] theorem bin_str (op : BinOp) (u w : ByteArray) : binA P op t x y (.v (.string u)) (.v (.string w)) = atomA (strOp op u w) := rfl
theorem wrap_in (n : Int) (h1 : -9223372036854775808 ≤ n) (h2 : n ≤ 9223372036854775807) : IntKind.i64.wrap n = n := IntWalk.i64_in n ⟨h1,h2⟩
theorem bytesEq_iff : ∀ (a b : List UInt8),bytesEq a b = decide (a = b)
 | [],[] => by simp [bytesEq]
 | [],_ :: _ => by simp [bytesEq]
 | _ :: _,[] => by simp [bytesEq]
 | x :: a,y :: b => by
  simp only [bytesEq,bytesEq_iff a b,List.cons.injEq]
  by_cases h : x = y
  ·subst h;simp
  ·have : ¬ x.toNat = y.toNat := fun e => h (UInt8.toNat_inj.1 e)
   simp [h,this]
theorem str_ext (a b : ByteArray) : a = b ↔ a.data.toList = b.data.toList := by
 constructor
 ·rintro rfl;rfl
 ·intro h;cases a;cases b;congr;exact Array.toList_inj.1 h
@[go_sem] theorem str_eql (u w : ByteArray) : strOp .eql u w = some (.bool (decide (u = w))) := by
 simp only [strOp,bytesEq_iff,str_ext]
@[go_sem] theorem str_neq (u w : ByteArray) : strOp .neq u w = some (.bool (!decide (u = w))) := by
 simp only [strOp,bytesEq_iff,str_ext]
@[go_sem] theorem atomA_bool (b : Bool) : atomA (some (.bool b)) = some (.v (.bool b)) := rfl
theorem index_str (h : P.underlying t = some .string) (s : ByteArray) (k : IntKind) (i : Int) : indexA P t (.v (.string s)) (.v (.int k i)) = if 0 ≤ i then (strAt s i.toNat).map fun b => .v (.int .u8 b.toNat) else none := by
 unfold indexA;rw [h]
theorem partOf_one (cs : List AV) (k : Nat) (h : isAggT P t = some false) {n : Nat} (hs : sizeT P t = some n) : partOf P t cs k = cs[k]? := by
 unfold partOf;rw [h,hs]
theorem partOf_agg (cs : List AV) (k : Nat) (h : isAggT P t = some true) {n : Nat} (hs : sizeT P t = some n) : partOf P t cs k = if k + n ≤ cs.length then some (.agg ((cs.drop k).take n)) else none := by
 unfold partOf;rw [h,hs]
@[go_sem] theorem load_ro (H : Heap) (z : AV) (k : Nat) : loadA P H t (.ro z k) = partOf P t z.cells k := rfl
def rowPart (P : Program) (t : TypeId) (k : Nat) (r : Option (Nat × TypeId × Nat × Bool × List AV)) : Option AV := match r with | some (_,_,_,_,cs) => partOf P t cs k | _ => none
@[go_sem] theorem rowPart_some (m e sz g) (cs : List AV) (k : Nat) : rowPart P t k (some (m,e,sz,g,cs)) = partOf P t cs k := rfl
@[go_sem] theorem load_ptr (H : Heap) (b v k : Nat) : loadA P H t (.ptr b v k) = rowPart P t k (H.row b v) := rfl
def fieldOff (P : Program) (t : TypeId) (i : Nat) : Option (Nat × Nat) :=
 match P.underlying t with
 | some (.struct fs) => (match fs[i]? with | some f => (sizeT P f.type).map fun n => (f.offset,n) | none => none)
 | _ => none
theorem fieldAddr_off {i off n : Nat} (h : fieldOff P t i = some (off,n + 1)) (x : AV) : fieldAddrA P t x i = match x with | .ptr b v k => some (.ptr b v (k + off)) | .ro z k => some (.ro z (k + off)) | _ => none := by
 unfold fieldOff at h
 unfold fieldAddrA
 cases hu : P.underlying t with
 | none => rw [hu] at h;simp at h
 | some u =>
  rw [hu] at h
  cases u <;> simp only at h ⊢ <;> try (cases h)
  rename_i fs
  cases hf : fs[i]? with
  | none => rw [hf] at h;simp at h
  | some f =>
   rw [hf] at h;simp only at h ⊢
   cases hs : sizeT P f.type with
   | none => rw [hs] at h;simp at h
   | some m =>
    rw [hs] at h;simp only [Option.map_some,Option.some.injEq,Prod.mk.injEq] at h
    obtain ⟨h1,h2⟩ := h
    subst h1;subst h2
    cases x <;> rfl
theorem fieldAddr_ptr {i off n : Nat} (h : fieldOff P t i = some (off,n + 1)) (b v k : Nat) : fieldAddrA P t (.ptr b v k) i = some (.ptr b v (k + off)) := fieldAddr_off h _
theorem len_str (h : P.underlying t = some .string) (H : Heap) (s : ByteArray) (r) : lenA P H (t :: r) [.v (.string s)] = some (.v (.int .i64 s.size)) := by
 unfold lenA;simp only;rw [h]
theorem len_slice {e : TypeId} (h : P.underlying t = some (.slice e)) (H : Heap) (x : AV) (r) : lenA P H (t :: r) [x] = match x with | .v (.slice none 0 0) => some (.v (.int .i64 0)) | .vs _ xs _ => some (.v (.int .i64 xs.length)) | .sl _ _ _ len _ => some (.v (.int .i64 len)) | _ => none := by
 unfold lenA;simp only;rw [h]
 split <;> simp_all
end
end Go.Ev
namespace Go.Ev
section
variable {C : Cfg} {me : FuncId} {rd : Option Nat}
def goP (o : Out) (K : Post) : Prop := match o with | .go e a H => AtK K e a H | _ => False
def Lp (C : Cfg) (me : FuncId) (rd : Option Nat) (ks : List Tmp) (c : Code) (a : AAct) (H : Heap) (K : Post) : Prop := bindO (lim C (.loop me rd ks c a H)) fun o => goP o K
@[congr] theorem Lp_congr {ks ks' : List Tmp} {c : Code} {a a' : AAct} {H H' : Heap} {K : Post} (hk : ks = ks') (ha : a = a') (hH : H = H') : Lp C me rd ks c a H K = Lp C me rd ks' c a' H' K := by rw [hk,ha,hH]
@[go_sem ↓] theorem wp_loopE (c : Code) (a : AAct) (H : Heap) (K : Post) : Wp C me rd (.loop c) a H K = Lp C me rd (a.tmps.map (·.1)) c a H K := by
 show bindO (match lim C (.loop me rd (a.tmps.map (·.1)) c a H) with | some (.go e a' H') => some (e,a',H') | _ => none) _ = bindO _ _
 cases lim C (.loop me rd (a.tmps.map (·.1)) c a H) with
 | none => rfl
 | some o => cases o <;> rfl
def loopK (C : Cfg) (me : FuncId) (rd : Option Nat) (ks : List Tmp) (c : Code) (n : Nat) (K : Post) : Post := fun e a H =>
 match e with
 | .normal => Lp C me rd ks c (a.only ks) (H.trim n ((a.only ks).tmps.map (·.2)) (a.only ks).marks) K
 | .exit i => AtK K (.exit i) (a.only ks) (H.trim n ((a.only ks).tmps.map (·.2)) (a.only ks).marks)
 | .ret => AtK K .ret a H
theorem lim_eq (t : Task) : lim C t = taskA C (lim C) t := by
 cases h : taskA C (lim C) t with
 | some x => exact lim_step.2 h
 | none =>
  cases h' : lim C t with
  | none => rfl
  | some x => rw [lim_step.1 h'] at h;cases h
theorem Lp_step (ks : List Tmp) (c : Code) (a : AAct) (H : Heap) (K : Post) : Lp C me rd ks c a H K = Wp C me rd c a H (loopK C me rd ks c H.size K) := by
 unfold Lp
 rw [lim_eq]
 unfold Wp
 simp only [taskA]
 rcases codeA C (lim C) me rd c a H with _ | ⟨e,a',H'⟩
 ·rfl
 ·cases e <;> rfl
theorem trim_size (H : Heap) (vs : List AV) (ms : List Nat) : H.trim H.size vs ms = H := by
 unfold Heap.trim
 have : H.objs.take H.size = H.objs := List.take_length
 split
 ·rw [this]
 ·rfl
theorem settle_size (H : Heap) : settleH H.size H = H := by
 unfold settleH
 have h : H.objs.take H.size = H.objs := List.take_length
 split
 ·rw [h]
 ·rfl
@[go_sem] theorem settle_same (H : Heap) : settleH H.size H = H := settle_size H
def Fn' (C : Cfg) (f : FuncId) (args : List AV) (H : Heap) (K : PostO) : Prop := bindO (lim C (.call f args H)) fun o => retP o K
def finK (C : Cfg) (rs : List ResultVar) (K : PostO) : Post := fun e a H =>
 match e with
 | .exit _ => False
 | _ => bindO (killAll a.marks H) fun H2 => bindO (resultsA C a H2 rs) fun vs => AtO K (oneOf vs) H2
@[go_sem ↓] theorem finK_ret (rs : List ResultVar) (K : PostO) (a : AAct) (H : Heap) : AtK (finK C rs K) .ret a H = bindO (killAll a.marks H) fun H2 => bindO (resultsA C a H2 rs) fun vs => AtO K (oneOf vs) H2 := rfl
theorem fn_step {f : FuncId} {args : List AV} {H : Heap} {K : PostO} {fn : Func} (hf : C.P.funcs[f]? = some fn) {c : Code} (hc : fn.body = some c) (hlay : C.lay f = none := by rfl) :
  Fn' C f args H K = Wp C f none c ⟨args.length + (fn.ntmps - args.length),number 0 args,[]⟩ H (finK C fn.results.toList K) := by
 unfold Fn'
 rw [lim_eq]
 unfold Wp
 simp only [taskA,hlay,hf,hc]
 rcases codeA C (lim C) f none c ⟨args.length + (fn.ntmps - args.length),number 0 args,[]⟩ H with _ | ⟨e,a',H'⟩
 ·rfl
 ·cases e with
  | exit i => rfl
  | normal =>
   simp only [bindO_some,finK]
   rcases killAll a'.marks H' with _ | H2
   ·rfl
   ·simp only [bindO_some];cases resultsA C a' H2 fn.results.toList <;> rfl
  | ret =>
   simp only [bindO_some,finK]
   rcases killAll a'.marks H' with _ | H2
   ·rfl
   ·simp only [bindO_some];cases resultsA C a' H2 fn.results.toList <;> rfl
@[go_sem] theorem kill_nil (H : Heap) : killAll [] H = some H := rfl
@[go_sem] theorem results_nil (a : AAct) (H : Heap) : resultsA C a H [] = some [] := rfl
@[go_sem] theorem results_tmp (s : Nat) (l : List (Tmp × AV)) (m : List Nat) (H : Heap) (t : Tmp) (r : List ResultVar) : resultsA C ⟨s,l,m⟩ H (.tmp t :: r) = consO (assoc t l) (resultsA C ⟨s,l,m⟩ H r) := rfl
@[go_sem] theorem results_cell (s : Nat) (l : List (Tmp × AV)) (m : List Nat) (H : Heap) (t : Tmp) (ty : TypeId) (r : List ResultVar) : resultsA C ⟨s,l,m⟩ H (.cell t ty :: r) = consO ((assoc t l).bind (loadA C.P H ty)) (resultsA C ⟨s,l,m⟩ H r) := rfl
@[go_sem] theorem oneOf_one (v : AV) : oneOf [v] = v := rfl
@[go_sem] theorem oneOf_two (v w : AV) (r : List AV) : oneOf (v :: w :: r) = .tup (v :: w :: r) := rfl
@[go_sem] theorem number_nil (n : Nat) : number n [] = [] := rfl
@[go_sem] theorem number_cons (n : Nat) (x : AV) (r : List AV) : number n (x :: r) = (n,x) :: number (n + 1) r := rfl
def ansK (v : AV) : PostO := fun x H => freezeV { H with lock := 0 } 1000000 x = some v
@[go_sem] theorem ansK_at (v x : AV) (l : List (Option AObj)) (k : Nat) : AtO (ansK v) x ⟨l,k⟩ = (freezeV ⟨l,0⟩ 1000000 x = some v) := rfl
def Ans (C : Cfg) (f : FuncId) (args : List AV) (v : AV) : Prop :=
 Fn' C f args { objs := [],lock := 0 } (ansK v)
theorem Ans.iff {f : FuncId} {args : List AV} {v : AV} : Ans C f args v ↔ ∃ x H,lim C (.call f args { objs := [],lock := 0 }) = some (.ret x H) ∧ freezeV { H with lock := 0 } 1000000 x = some v := by
 unfold Ans Fn' ansK
 rw [bindO_iff]
 constructor
 ·rintro ⟨o,h1,h2⟩
  cases o with
  | ret x H => exact ⟨x,H,h1,h2⟩
  | go => exact h2.elim
 ·rintro ⟨x,H,h1,h2⟩;exact ⟨_,h1,h2⟩
theorem Ans.call {f : FuncId} {args : List AV} {v : AV} (h : Ans C f args v) {d : Option Tmp} (hx : C.ext f = none) (hp : C.pure me f d = true) (hb : boundL args = 0) (H : Heap) (hh : C.exh f = none := by rfl) : callA C (lim C) me f d args H = some (v,H) := by
 obtain ⟨x,H',h1,h2⟩ := Ans.iff.1 h
 have hk : callKind C me f d args = 1 := by unfold callKind;rw [hp,hb];rfl
 unfold callA standA standH;rw [hx];simp only;rw [hh];simp only
 unfold callB;rw [hk];simp only [h1,h2,Option.map_some]
def SlOf (sz : Nat) (xs : List AV) (x : AV) : Prop := (x = .v (.slice none 0 0) ∧ xs = []) ∨ ∃ cap,x = .vs sz xs cap
def slLen (x : AV) : Option AV := match x with | .v (.slice none 0 0) => some (.v (.int .i64 0)) | .vs _ xs _ => some (.v (.int .i64 xs.length)) | .sl _ _ _ len _ => some (.v (.int .i64 len)) | _ => none
theorem len_sl {P : Program} {t e : TypeId} (h : P.underlying t = some (.slice e)) (H : Heap) (x : AV) : lenA P H [t] [x] = slLen x := len_slice h H x []
def slIdx (s : Nat) (x ix : AV) : Option AV :=
 match ix with
 | .v (.int _ i) =>
  match x with
  | .sl b v off len _ => if 0 ≤ i ∧ i < (len : Int) then some (.ptr b v (off + i.toNat * s)) else none
  | .vs sz xs _ => if 0 ≤ i ∧ i < (xs.length : Int) ∧ sz = s then (xs[i.toNat]?).map fun y => .ro y 0 else none
  | _ => none
 | _ => none
theorem idx_sl {P : Program} {t e : TypeId} {s : Nat} (h : P.underlying t = some (.slice e)) (hs : sizeT P e = some s) (x ix : AV) : indexAddrA P t x ix = slIdx s x ix := by
 unfold indexAddrA slIdx;rw [h]
 rcases ix with v | _ | _ | _ | _ | _ | _ | _ | _ | _ | _ <;> try rfl
 cases v <;> try rfl
 simp only;rw [hs]
 cases x <;> rfl
theorem SlOf.len {sz : Nat} {xs : List AV} {x : AV} (h : SlOf sz xs x) : slLen x = some (.v (.int .i64 (xs.length : Nat))) := by
 rcases h with ⟨rfl,rfl⟩ | ⟨cap,rfl⟩ <;> rfl
theorem SlOf.idx {sz : Nat} {xs : List AV} {x y : AV} (h : SlOf sz xs x) {j : Nat} (hy : xs[j]? = some y) (k : IntKind) : slIdx sz x (.v (.int k (j : Nat))) = some (.ro y 0) := by
 rcases h with ⟨rfl,rfl⟩ | ⟨cap,rfl⟩
 ·simp at hy
 ·have := (List.getElem?_eq_some_iff.1 hy).1
  unfold slIdx;simp only [Int.toNat_natCast,hy,Option.map_some]
  rw [if_pos ⟨by omega,by omega,trivial⟩]
theorem SlOf.bound {sz : Nat} {xs : List AV} {x : AV} (h : SlOf sz xs x) : bound x = 0 := by
 rcases h with ⟨rfl,rfl⟩ | ⟨cap,rfl⟩ <;> rfl
theorem SlOf.flat {sz : Nat} {xs : List AV} {x : AV} (h : SlOf sz xs x) : x.flat = true := by
 rcases h with ⟨rfl,rfl⟩ | ⟨cap,rfl⟩ <;> rfl
theorem SlOf.cells {sz : Nat} {xs : List AV} {x : AV} (h : SlOf sz xs x) : x.cells = [x] := by
 rcases h with ⟨rfl,rfl⟩ | ⟨cap,rfl⟩ <;> rfl
def bsFin (mt : Bool) (e n : Nat) (H : Heap) (slot len : Nat) (cs : List AV) : Option (AV × Heap) :=
 if cs.all AV.flat = true then (if mt = true ∨ boundL cs ≠ 0 then some (.sl slot 0 0 len (some len),H.put slot (.cells 0 (boundL cs) e n false cs)) else some (.vs n (chunk n len cs) (some len),H)) else none
theorem buildSl_eq {P : Program} {t e n : Nat} {z : AV} (hu : P.underlying t = some (.slice e)) (hs : sizeT P e = some n) (hz : zeroT P e = some z) (hn : 0 < n) (hl : z.cells.length = n) (mt : Bool) (H : Heap) (slot len : Nat) (parts : List (Nat × AV)) :
  buildSliceA P mt H slot t len parts = if len * n ≤ 65536 then (fillA (fun i => some (i * n,n)) (repeatCells z.cells len) parts).bind (bsFin mt e n H slot len) else none := by
 unfold buildSliceA
 rw [hu];simp only;rw [hs,hz];simp only [hn,hl,and_true]
 split
 ·cases fillA (fun i => some (i * n,n)) (repeatCells z.cells len) parts with
  | none => rfl
  | some cs =>
   simp only [Option.bind_some,bsFin]
   cases hf : cs.all AV.flat
   ·rfl
   ·simp only [Bool.true_eq_false,if_false,if_true]
    have : Nat.beq (boundL cs) 0 = decide (boundL cs = 0) := by
     cases boundL cs <;> rfl
    rw [this]
    cases mt <;> by_cases hb : boundL cs = 0 <;> simp [hb]
 ·rfl
@[go_sem] theorem fillA_nil (place : Nat → Option (Nat × Nat)) (cells : List AV) : fillA place cells [] = some cells := rfl
def fill1 (place : Nat → Option (Nat × Nat)) (cells : List AV) (v : AV) (rest : List (Nat × AV)) (p : Option (Nat × Nat)) : Option (List AV) :=
 match p with
 | none => none
 | some (off,size) => if v.cells.length = size ∧ off + size ≤ cells.length then fillA place (splice off v.cells cells) rest else none
@[go_sem] theorem fillA_cons (place : Nat → Option (Nat × Nat)) (cells : List AV) (i : Nat) (v : AV) (rest : List (Nat × AV)) : fillA place cells ((i,v) :: rest) = fill1 place cells v rest (place i) := by
 unfold fill1;simp only [fillA]
 cases place i <;> rfl
@[go_sem] theorem fill1_some (place : Nat → Option (Nat × Nat)) (cells : List AV) (v : AV) (rest : List (Nat × AV)) (off size : Nat) : fill1 place cells v rest (some (off,size)) = if v.cells.length = size ∧ off + size ≤ cells.length then fillA place (splice off v.cells cells) rest else none := rfl
theorem wrap_succ (j : Nat) (h : j + 1 < 2 ^ 63) : IntKind.i64.wrap ((j : Int) + 1) = ((j + 1 : Nat) : Int) := by
 rw [wrap_in _ (by omega) (by omega)];omega
end
end Go.Ev
namespace Go.Ev
@[go_sem] theorem heap_size (l : List (Option AObj)) (k : Nat) : (Heap.mk l k).size = l.length := rfl
@[go_sem] theorem heap_put (l : List (Option AObj)) (k b : Nat) (o : AObj) : (Heap.mk l k).put b o = ⟨setOrPush (some o) b l,k⟩ := rfl
@[go_sem] theorem sop_nil {α : Type} (x : α) (n : Nat) : setOrPush x n [] = [x] := by cases n <;> rfl
@[go_sem] theorem sop_zero {α : Type} (x y : α) (r : List α) : setOrPush x 0 (y :: r) = x :: r := rfl
@[go_sem] theorem sop_succ {α : Type} (x y : α) (n : Nat) (r : List α) : setOrPush x (n + 1) (y :: r) = y :: setOrPush x n r := rfl
def objRow (v : Nat) (o : Option AObj) : Option (Nat × TypeId × Nat × Bool × List AV) := match o with | some (.cells w m e sz g cs) => if w = v then some (m,e,sz,g,cs) else none | _ => none
@[go_sem] theorem objRow_cells (v w m e sz g) (cs : List AV) : objRow v (some (.cells w m e sz g cs)) = if w = v then some (m,e,sz,g,cs) else none := rfl
@[go_sem] theorem heap_row (l : List (Option AObj)) (k b v : Nat) : (Heap.mk l k).row b v = objRow v ((l[b]?).join) := by
 unfold Heap.row Heap.get objRow;rfl
@[go_sem] theorem join_some {α : Type} (x : Option α) : (some x).join = x := rfl
@[go_sem] theorem bound_v (x : Value) : bound (.v x) = 0 := rfl
@[go_sem] theorem bound_vs (s : Nat) (x : List AV) (k : Option Nat) : bound (.vs s x k) = 0 := rfl
@[go_sem] theorem bound_agg (l : List AV) : bound (.agg l) = boundL l := rfl
@[go_sem] theorem boundL_nil : boundL [] = 0 := rfl
@[go_sem] theorem boundL_cons (x : AV) (r : List AV) : boundL (x :: r) = Nat.max (bound x) (boundL r) := rfl
@[go_sem] theorem nmax (a b : Nat) : Nat.max a b = if a ≤ b then b else a := by rw [show Nat.max a b = max a b from rfl,Nat.max_def]
@[go_sem] theorem settle_mk (l : List (Option AObj)) (k n : Nat) : settleH n ⟨l,k⟩ = if (l.drop n).all Option.isNone = true then ⟨l.take n,k⟩ else ⟨l,k⟩ := rfl
@[go_sem] theorem isNone_some' {α : Type} (x : α) : (some x).isNone = false := rfl
@[go_sem] theorem isNone_none' {α : Type} : (none : Option α).isNone = true := rfl
@[go_sem] theorem trim_len (l : List (Option AObj)) (k n : Nat) (vs : List AV) (ms : List Nat) (h : l.length ≤ n) : (Heap.mk l k).trim n vs ms = ⟨l,k⟩ := by
 unfold Heap.trim
 have : l.take n = l := List.take_of_length_le h
 split
 ·simp only [this]
 ·rfl
theorem trim_at (l : List (Option AObj)) (k n : Nat) (vs : List AV) (ms : List Nat) (h : boundL vs ≤ n) (hm : ms = []) (ho : boundsOk n (l.take n) = true) (hk : k ≤ n) : (Heap.mk l k).trim n vs ms = ⟨l.take n,k⟩ := by
 unfold Heap.trim
 subst hm
 rw [if_pos]
 simp only [List.all_nil,Bool.and_true,Bool.and_eq_true]
 exact ⟨⟨Nat.ble_eq_true_of_le h,ho⟩,Nat.ble_eq_true_of_le hk⟩
@[go_sem] theorem freeze_v (H : Heap) (x : Value) : freezeV H 1000000 (.v x) = some (.v x) := rfl
@[go_sem] theorem freeze_vs (H : Heap) (s : Nat) (x : List AV) (k : Option Nat) : freezeV H 1000000 (.vs s x k) = some (.vs s x k) := rfl
@[go_sem] theorem cells_v (x : Value) : AV.cells (.v x) = [.v x] := rfl
@[go_sem] theorem flat_v (x : Value) : AV.flat (.v x) = true := rfl
@[go_sem] theorem cells_vs (s : Nat) (l : List AV) (k : Option Nat) : AV.cells (.vs s l k) = [.vs s l k] := rfl
@[go_sem] theorem flat_vs (s : Nat) (l : List AV) (k : Option Nat) : AV.flat (.vs s l k) = true := rfl
@[go_sem] theorem cells_sl (b v o n : Nat) (k : Option Nat) : AV.cells (.sl b v o n k) = [.sl b v o n k] := rfl
@[go_sem] theorem flat_sl (b v o n : Nat) (k : Option Nat) : AV.flat (.sl b v o n k) = true := rfl
@[go_sem] theorem cells_agg (l : List AV) : AV.cells (.agg l) = l := rfl
def stObj (l : List (Option AObj)) (k b v off : Nat) (xs : List AV) (o : Option AObj) : Option Heap :=
 match o with
 | some (.cells w m e sz g cs) => if w = v ∧ k ≤ b ∧ off + xs.length ≤ cs.length ∧ xs.all AV.flat = true then some ⟨setOrPush (some (.cells w (Nat.max m (boundL xs)) e sz g (splice off xs cs))) b l,k⟩ else none
 | _ => none
@[go_sem] theorem stObj_cells (l : List (Option AObj)) (k b v off : Nat) (xs : List AV) (w m e sz g) (cs : List AV) : stObj l k b v off xs (some (.cells w m e sz g cs)) = if w = v ∧ k ≤ b ∧ off + xs.length ≤ cs.length ∧ xs.all AV.flat = true then some ⟨setOrPush (some (.cells w (Nat.max m (boundL xs)) e sz g (splice off xs cs))) b l,k⟩ else none := rfl
@[go_sem] theorem store_mk (l : List (Option AObj)) (k b v off : Nat) (xs : List AV) : storeCells ⟨l,k⟩ b v off xs = stObj l k b v off xs ((l[b]?).join) := by
 unfold storeCells
 rw [heap_row]
 unfold objRow stObj
 cases (l[b]?).join with
 | none => rfl
 | some o =>
  cases o with
  | cells w m e sz g cs =>
   simp only
   by_cases hw : w = v
   ·subst hw;simp only [if_true,true_and];rfl
   ·simp only [hw,if_false,false_and]
  | _ => rfl
end Go.Ev
namespace Go.Ev
@[go_sem] theorem obeq_tf : ((some true : Option Bool) == some false) = false := rfl
@[go_sem] theorem obeq_ft : ((some false : Option Bool) == some true) = false := rfl
section
variable {C : Cfg} {me : FuncId} {rd : Option Nat}
def loadI (P : Program) (H : Heap) (t : TypeId) (p : AV) : Option AV :=
 match p with
 | .ptr b v k => if b < H.size then loadA P H t (.ptr b v k) else none
 | .ro z k => loadA P H t (.ro z k)
 | _ => none
def lenI (P : Program) (ts : List TypeId) (l : List AV) : Option AV :=
 match l with
 | .mp _ :: _ => none
 | l => lenA P { objs := [],lock := 0 } ts l
open Classical in
noncomputable def callI (C : Cfg) (me f : FuncId) (d : Option Tmp) (args : List AV) : Option AV :=
 if h : ∃ v,(∀ H,callA C (lim C) me f d args H = some (v,H)) ∧ ((standA C f args).isSome = true ∨ callKind C me f d args = 1) then some h.choose else none
noncomputable def callV (C : Cfg) (me : FuncId) (d : Option Tmp) (g : AV) (l : List AV) : Option AV :=
 match g with
 | .fn (.func f) x y => callI C me f d (x ++ l ++ y)
 | _ => none
def sliceI (P : Program) (t : TypeId) (v : AV) (l h m : Option AV) : Option AV :=
 match v with
 | .sl _ _ _ _ _ => none
 | v => sliceA P { objs := [],lock := 0 } t v l h m
def bareO (d : Option Tmp) (op : Op) : Oper := { dst := d,op := op,type := 0,pos := "",after := #[],guard := none }
noncomputable def opI (C : Cfg) (me : FuncId) (H : Heap) (d : Option Tmp) (op : Op) (a : AAct) : Option AV :=
 match op with
 | .load t x => (a.eval x).bind (loadI C.P H t)
 | .slice t x l h m => (a.eval x).bind fun v => (lookO a l).bind fun l => (lookO a h).bind fun h => (lookO a m).bind fun m => sliceI C.P t v l h m
 | .call c =>
  match c.callee with
  | .builtin .len => (evals a c.args.toList).bind (lenI C.P c.argTypes.toList)
  | .builtin .min => (evals a c.args.toList).bind (mmA false)
  | .value g => (evals a c.args.toList).bind fun l => (a.eval g).bind fun v => callV C me d v l
  | _ => none
 | op => if plainO (bareO d op) then (opA C (lim C) me (bareO d op) a H 0).map fun r => r.1.getD undefA else none
theorem callI_of {f : FuncId} {d : Option Tmp} {args : List AV} {v : AV} (h : ∀ H,callA C (lim C) me f d args H = some (v,H)) (hk : (standA C f args).isSome = true ∨ callKind C me f d args = 1) : callI C me f d args = some v := by
 unfold callI
 have hex : ∃ v,(∀ H,callA C (lim C) me f d args H = some (v,H)) ∧ ((standA C f args).isSome = true ∨ callKind C me f d args = 1) := ⟨v,h,hk⟩
 rw [dif_pos hex]
 have h1 := hex.choose_spec.1 { objs := [],lock := 0 }
 rw [h] at h1
 simp only [Option.some.injEq,Prod.mk.injEq] at h1
 rw [← h1.1]
theorem Ans.callI {f : FuncId} {args : List AV} {v : AV} (h : Ans C f args v) {d : Option Tmp} (hx : C.ext f = none) (hp : C.pure me f d = true) (hb : boundL args = 0) (hh : C.exh f = none := by rfl) : callI C me f d args = some v :=
 callI_of (fun H => h.call hx hp hb H hh) (Or.inr (by unfold callKind;rw [hp,hb];rfl))
theorem ext_call {f : FuncId} {g : List AV → Option AV} (hx : C.ext f = some g) {args : List AV} {v : AV} (h : g args = some v) {d : Option Tmp} (H : Heap) : callA C (lim C) me f d args H = some (v,H) := by
 unfold callA standA;rw [hx];simp only [h]
noncomputable def idleA (C : Cfg) (me : FuncId) (arr : Array Oper) (H : Heap) : List Oper → AAct → Option AAct
 | [],a => some a
 | o :: r,a =>
  match wantedA arr a o with
  | some true => match opI C me H o.dst o.op a with | some v => idleA C me arr H r (a.put o.dst v) | none => none
  | some false => idleA C me arr H r (a.put o.dst undefA)
  | none => none
theorem plain_slot {o : Oper} (hp : plainO o = true) (a : AAct) (H : Heap) (s s' : Nat) : opA C (lim C) me o a H s = opA C (lim C) me o a H s' := by
 unfold plainO at hp
 unfold opA
 cases ho : o.op <;> rw [ho] at hp <;> simp only [] at hp <;> first | (cases hp;done) | rfl
def WpI (C : Cfg) (me : FuncId) (arr : Array Oper) (ops : List Oper) (a : AAct) (H : Heap) (K : AAct → Prop) : Prop := bindO (idleA C me arr H ops a) K
@[congr] theorem WpI_congr {arr : Array Oper} {ops : List Oper} {a a' : AAct} {H H' : Heap} {K : AAct → Prop} (ha : a = a') (hH : H = H') : WpI C me arr ops a H K = WpI C me arr ops a' H' K := by rw [ha,hH]
def drawOk (ops : Array Oper) : Bool := apartM (waitsAll ops.toList) 0 [] (rowsM ops ops.toList) && waitsOk (waitsAll ops.toList) ops.toList.length
def WpJ (C : Cfg) (me : FuncId) (d : Option Tmp) (op : Op) (a : AAct) (H : Heap) (K : PostO) : Prop := bindO (opI C me H d op a) fun v => AtO K v H
section
variable (d : Option Tmp) (a : AAct) (H : Heap) (arr : Array Oper) (r : List Oper) (d' : Option Tmp) (a' : AAct) (H2 : Heap) (K : AAct → Prop)
@[go_sem ↓] theorem wpJ_slice (K : PostO) (t x l h m) : WpJ C me d (.slice t x l h m) a H K = bindO (a.eval x) fun v => bindO (lookO a l) fun l => bindO (lookO a h) fun h => bindO (lookO a m) fun m => bindO (sliceI C.P t v l h m) fun v => AtO K v H := by
 unfold WpJ opI;simp only
 cases a.eval x with
 | none => rfl
 | some v =>
  cases lookO a l with
  | none => rfl
  | some l =>
   cases lookO a h with
   | none => rfl
   | some h =>
    cases lookO a m with
    | none => rfl
    | some m => rfl
@[go_sem ↓] theorem wpJ_call (K : PostO) (g args ts) : WpJ C me d (.call ⟨.value g,args,ts⟩) a H K = bindO (evals a args.toList) fun l => bindO (a.eval g) fun v => bindO (callV C me d v l) fun v => AtO K v H := by
 unfold WpJ opI;simp only
 cases evals a args.toList with
 | none => rfl
 | some p =>
  simp only [Option.bind_some,bindO_some]
  cases a.eval g with
  | none => rfl
  | some v => rfl
end
@[go_sem] theorem callV_fn (d : Option Tmp) (f : FuncId) (x y l : List AV) : callV C me d (.fn (.func f) x y) l = callI C me f d (x ++ l ++ y) := rfl
theorem SlOf.slice {P : Program} {t et sz : Nat} (hu : P.underlying t = some (.slice et)) (hs : sizeT P et = some sz) {xs : List AV} {x : AV} (h : SlOf sz xs x) (j : Nat) (hj : j ≤ xs.length) : ∃ y,sliceI P t x none (some (.v (.int .i64 j))) none = some y ∧ SlOf sz (xs.take j) y := by
 rcases h with ⟨rfl,rfl⟩ | ⟨cap,rfl⟩
 ·have : j = 0 := by simpa using hj
  subst this
  refine ⟨.v (.slice none 0 0), ?_,Or.inl ⟨rfl,rfl⟩⟩
  unfold sliceI sliceA
  simp [hu,hs,boundA]
 ·refine ⟨.vs sz (xs.take j) (capOf none xs.length 0 cap), ?_,Or.inr ⟨_,rfl⟩⟩
  have h1 : (0 : Int) ≤ (j : Int) ∧ (j : Int) ≤ (xs.length : Int) := by omega
  unfold sliceI sliceA
  simp [hu,hs,boundA,h1]
theorem SlOf.lenI {sz : Nat} {xs : List AV} {x : AV} (h : SlOf sz xs x) (P : Program) (ts : List TypeId) (r : List AV) : lenI P ts (x :: r) = lenA P { objs := [],lock := 0 } ts (x :: r) := by
 rcases h with ⟨rfl,rfl⟩ | ⟨cap,rfl⟩ <;> rfl
end
end Go.Ev
namespace Go.Ev
theorem cmp_bytes : ∀ (a b : List UInt8),Lib.compareBytes a b = if bytesLt a b then -1 else if bytesLt b a then 1 else 0
 | [],[] => by simp [Lib.compareBytes,bytesLt]
 | [],_ :: _ => by simp [Lib.compareBytes,bytesLt]
 | _ :: _,[] => by simp [Lib.compareBytes,bytesLt]
 | x :: a,y :: b => by
  have ih := cmp_bytes a b
  unfold Lib.compareBytes bytesLt
  simp only [UInt8.lt_iff_toNat_lt]
  by_cases h1 : x.toNat < y.toNat
  ·have e1 : Nat.blt x.toNat y.toNat = true := Nat.ble_eq_true_of_le h1
   simp [h1,e1]
  ·have e1 : Nat.blt x.toNat y.toNat = false := by
    cases hb : Nat.blt x.toNat y.toNat
    ·rfl
    ·exact absurd (Nat.le_of_ble_eq_true hb) h1
   by_cases h2 : y.toNat < x.toNat
   ·have e2 : Nat.blt y.toNat x.toNat = true := Nat.ble_eq_true_of_le h2
    have e3 : (x.toNat == y.toNat) = false := by simp;omega
    simp [h1,h2,e1,e2,e3]
   ·have e2 : Nat.blt y.toNat x.toNat = false := by
     cases hb : Nat.blt y.toNat x.toNat
     ·rfl
     ·exact absurd (Nat.le_of_ble_eq_true hb) h2
    have e3 : x.toNat = y.toNat := by omega
    simp [e3,ih]
theorem ext_cmp {P : Program} {f : FuncId} {fn : Func} (hf : P.funcs[f]? = some fn) (hb : fn.body = none) (hn : (fn.name == "runtime.NumGoroutine") = false) (h1 : (Extern.findNext fn).isNone = true) (h2 : Extern.find fn = some Extern.BytealgCompare.compare)
  {args : List AV} {v : AV} (h : cmpStr args = some v) (Z : Fzn) (ρ : Pls) (H : Heap) (w : World) (vals : List Value) (hs : Sim Z ρ H w) (hl : RepL Z ρ args vals) : FnMeets P f vals w (After Z ρ H w v H) := by
 unfold cmpStr at h
 split at h
 ·rename_i a b
  obtain ⟨v1,ws,rfl,hv1,hl⟩ := hl.uncons
  obtain ⟨v2,ws,rfl,hv2,hl⟩ := hl.uncons
  have : ws = [] := by have := hl.1;exact List.length_eq_zero_iff.1 this.symm
  subst this
  obtain ⟨rfl, -⟩ := hv1.v_inv
  obtain ⟨rfl, -⟩ := hv2.v_inv
  simp only [Option.some.injEq] at h
  subst h
  refine Or.inl ⟨.int .i64 (Lib.compareBytes a.data.toList b.data.toList),w, ?_,Z,ρ, ?_,hs,Ext.refl _ _ _ _⟩
  ·have hfn : Extern.findNext fn = none := Option.isNone_iff_eq_none.1 h1
   have := Lib.run_compareString (P := P) a b w
   have hn' : ¬ fn.name = "runtime.NumGoroutine" := by
    intro e;rw [e] at hn;simp at hn
   simp [callFunc,hf,hn',hb,hfn,h2,this]
  ·rw [cmp_bytes];exact .v rfl
 ·cases h
theorem ext_of_ans {C : Cfg} (hgo : NoGo C.P) (hm : C.P.follows .mixedOrders = true) (hext : ExtOK C) {f : FuncId} {args : List AV} {v : AV} (h : Ans C f args v) (hb : boundL args = 0)
  (Z : Fzn) (ρ : Pls) (H : Heap) (w : World) (vals : List Value) (hs : Sim Z ρ H w) (hl : RepL Z ρ args vals) : FnMeets C.P f vals w (After Z ρ H w v H) := by
 obtain ⟨x,H',h1,h2⟩ := Ans.iff.1 h
 obtain ⟨n,hn⟩ := lim_iff.1 h1
 have hrec : RecOK C.P (evT C n) := (ev_sound hgo hext (draw_ok hm hext) n).1
 let D : Cfg := { C with pure := fun _ _ _ => true }
 have hk : callKind D f f none args = 1 := by unfold callKind;rw [hb];rfl
 have hB : callB D (evT C n) f f none args H = some (v,H) := by
  unfold callB;rw [hk];simp only [hn,h2,Option.map_some]
 obtain ⟨hbody,hc⟩ := callB_sound (C := D) hrec hs hl hB
 exact Or.inr ⟨hbody.run _ _,hc⟩
def moreExt (e : FuncId → Option (List AV → Option AV)) (f : FuncId) (g : List AV → Option AV) : FuncId → Option (List AV → Option AV) := fun f' => if Nat.beq f' f then some g else e f'
theorem extOK_more {C C' : Cfg} (hP : C'.P = C.P) {f : FuncId} {g : List AV → Option AV} (hg : ∀ args v,g args = some v → ∀ (Z : Fzn) (ρ : Pls) (H : Heap) (w : World) (vals : List Value),Sim Z ρ H w → RepL Z ρ args vals → FnMeets C.P f vals w (After Z ρ H w v H))
  (hext : ExtOK C) (he : C'.ext = moreExt C.ext f g) (hlay : C'.lay = C.lay := by rfl) (hexh : C'.exh = C.exh := by rfl) : ExtOK C' := by
 refine ⟨fun f' g' hf' args v hv Z ρ H w vals hs hl => ?_,fun f' g' hf' => by rw [hP];rw [hlay] at hf';exact hext.lay f' g' hf',fun f' g' hf' => by rw [hP];rw [hexh] at hf';exact hext.exh f' g' hf'⟩
 rw [hP]
 rw [he] at hf'
 unfold moreExt at hf'
 split at hf'
 ·rename_i hb
  have := Nat.eq_of_beq_eq_true hb
  subst this
  simp only [Option.some.injEq] at hf'
  subst hf'
  exact hg args v hv Z ρ H w vals hs hl
 ·exact hext.ext f' g' hf' args v hv Z ρ H w vals hs hl
def eqV : Value → Value → Bool
 | .int k n,.int k' n' => decide (k = k') && decide (n = n')
 | .bool a,.bool b => a == b
 | .string a,.string b => bytesEq a.data.toList b.data.toList
 | .slice none 0 0,.slice none 0 0 => true
 | _,_ => false
theorem eqV_eq {x y : Value} (h : eqV x y = true) : x = y := by
 unfold eqV at h
 split at h
 ·simp at h;rw [h.1,h.2]
 ·simp at h;rw [h]
 ·rw [bytesEq_iff,decide_eq_true_eq,← str_ext] at h;rw [h]
 ·rfl
 ·cases h
def listEq (f : AV → AV → Bool) : List AV → List AV → Bool
 | [],[] => true
 | x :: r,y :: s => f x y && listEq f r s
 | _,_ => false
theorem listEq_eq {f : AV → AV → Bool} (hf : ∀ x y,f x y = true → x = y) : ∀ {l m : List AV},listEq f l m = true → l = m
 | [],[],_ => rfl
 | [],_ :: _,h => by simp [listEq] at h
 | _ :: _,[],h => by simp [listEq] at h
 | x :: r,y :: s,h => by
  simp only [listEq,Bool.and_eq_true] at h
  rw [hf _ _ h.1,listEq_eq hf h.2]
def capEq : Option Nat → Option Nat → Bool
 | none,none => true
 | some k,some k' => Nat.beq k k'
 | _,_ => false
theorem capEq_eq {c c' : Option Nat} (h : capEq c c' = true) : c = c' := by
 unfold capEq at h
 split at h
 ·rfl
 ·rw [Nat.eq_of_beq_eq_true h]
 ·cases h
def eqStep (rec : AV → AV → Bool) (x y : AV) : Bool :=
 match x,y with
 | .v x,.v y => eqV x y
 | .agg a,.agg b => listEq rec a b
 | .vs s a c,.vs s' a' c' => Nat.beq s s' && listEq rec a a' && capEq c c'
 | _,_ => false
def eqA (n : Nat) : AV → AV → Bool := Nat.rec (fun _ _ => false) (fun _ rec => eqStep rec) n
theorem eqA_eq : ∀ (n : Nat) (x y : AV),eqA n x y = true → x = y
 | 0,_,_,h => by cases h
 | n + 1,x,y,h => by
  have h' : eqStep (eqA n) x y = true := h
  unfold eqStep at h'
  split at h'
  ·rw [eqV_eq h']
  ·rw [listEq_eq (eqA_eq n) h']
  ·simp only [Bool.and_eq_true] at h'
   obtain ⟨⟨h1,h2⟩,h3⟩ := h'
   rw [Nat.eq_of_beq_eq_true h1,listEq_eq (eqA_eq n) h2,capEq_eq h3]
  ·cases h'
def atArgs (K : List AV) (R : AV) : List AV → Option AV := fun args => if listEq (eqA 30) args K then some R else none
theorem atArgs_some {K : List AV} {R : AV} {args : List AV} {v : AV} (h : atArgs K R args = some v) : args = K ∧ v = R := by
 unfold atArgs at h
 split at h
 ·rename_i hq
  exact ⟨listEq_eq (eqA_eq 30) hq,by simpa using h.symm⟩
 ·cases h
end Go.Ev
namespace Go.Ev
def idxB (c : Nat) : Int → List UInt8 → Int
 | _,[] => -1
 | i,b :: r => if Nat.beq b.toNat c then i else idxB c (i + 1) r
theorem idxB_eq (c : UInt8) : ∀ (l : List UInt8) (i : Int),idxB c.toNat i l = if Lib.indexByte l c = -1 then -1 else Lib.indexByte l c + i
 | [],i => by simp [idxB,Lib.indexByte]
 | b :: l,i => by
  unfold idxB Lib.indexByte
  by_cases h : b = c
  ·subst h
   have h1 : Nat.beq b.toNat b.toNat = true := Nat.beq_refl _
   simp
  ·have h1 : Nat.beq b.toNat c.toNat = false := by
    cases hb : Nat.beq b.toNat c.toNat
    ·rfl
    ·exact absurd (UInt8.toNat_inj.1 (Nat.eq_of_beq_eq_true hb)) h
   have hge := Lib.indexByte_ge l c
   rw [h1,idxB_eq c l (i + 1)]
   simp only [Bool.false_eq_true,if_false,beq_iff_eq,h]
   by_cases h2 : Lib.indexByte l c = -1
   ·simp [h2]
   ·simp only [h2,if_false]
    rw [if_neg (by omega)];omega
def idxStr : List AV → Option AV
 | [.v (.string s),.v (.int .u8 c)] => if 0 ≤ c ∧ c < 256 then some (.v (.int .i64 (idxB c.toNat 0 s.data.toList))) else none
 | _ => none
theorem ext_idx {P : Program} {f : FuncId} {fn : Func} (hf : P.funcs[f]? = some fn) (hb : fn.body = none) (hn : (fn.name == "runtime.NumGoroutine") = false) (h1 : (Extern.findNext fn).isNone = true) (h2 : Extern.find fn = some Extern.BytealgIndexByte.indexByte)
  {args : List AV} {v : AV} (h : idxStr args = some v) (Z : Fzn) (ρ : Pls) (H : Heap) (w : World) (vals : List Value) (hs : Sim Z ρ H w) (hl : RepL Z ρ args vals) : FnMeets P f vals w (After Z ρ H w v H) := by
 unfold idxStr at h
 split at h
 ·rename_i s c
  split at h
  ·rename_i hc
   obtain ⟨v1,ws,rfl,hv1,hl⟩ := hl.uncons
   obtain ⟨v2,ws,rfl,hv2,hl⟩ := hl.uncons
   have : ws = [] := List.length_eq_zero_iff.1 hl.1.symm
   subst this
   obtain ⟨rfl, -⟩ := hv1.v_inv
   obtain ⟨rfl, -⟩ := hv2.v_inv
   simp only [Option.some.injEq] at h
   subst h
   refine Or.inl ⟨.int .i64 (Lib.indexByte s.data.toList c.toNat.toUInt8),w, ?_,Z,ρ, ?_,hs,Ext.refl _ _ _ _⟩
   ·have hfn : Extern.findNext fn = none := Option.isNone_iff_eq_none.1 h1
    have := Lib.run_indexByteString (P := P) s c w
    have hn' : ¬ fn.name = "runtime.NumGoroutine" := by
     intro e;rw [e] at hn;simp at hn
    simp [callFunc,hf,hn',hb,hfn,h2,this]
   ·have hcn : c.toNat.toUInt8.toNat = c.toNat := by
     have : c.toNat < 256 := by omega
     simp [Nat.toUInt8,Nat.mod_eq_of_lt this]
    have := idxB_eq c.toNat.toUInt8 s.data.toList 0
    rw [hcn] at this
    have e : idxB c.toNat 0 s.data.toList = Lib.indexByte s.data.toList c.toNat.toUInt8 := by
     rw [this];split
     ·rename_i h;exact h.symm
     ·omega
    rw [e];exact .v rfl
  ·cases h
 ·cases h
end Go.Ev
namespace Go.Ev
open Go.Proofs Go.Shelf Go.RowKit
theorem Sim.below {Z : Fzn} {ρ : Pls} {H : Heap} {w w' : World} (hs : Sim Z ρ H w) (hb : Below w.heap.size w w') : Sim Z ρ H w' :=
 ⟨fun b o h hl => let ⟨pl,obj,h1,h2,h3,h4⟩ := hs.objs b o h hl; ⟨pl,obj,h1,(hb.block _ (Array.getElem?_eq_some_iff.1 h2).1).trans h2,h3,h4⟩,hs.inj,
  fun k o hk => (hb.block k (Array.getElem?_eq_some_iff.1 (hs.zok k o hk)).1).trans (hs.zok k o hk),hs.fresh,hs.lk,hs.lg⟩
theorem Ext.below {Z : Fzn} {ρ : Pls} {H : Heap} {w w' : World} (hb : Below w.heap.size w w') : Ext Z ρ H w Z ρ H w' :=
 ⟨.refl _,.refl _,fun k hk _ => hb.block k hk,fun _ _ h => h,hb.size,hb.os,hb.output,hb.tape,(fun s => nomatch (show true = false from s)),fun _ ha _ => hb.frozen ha,rfl,fun _ _ => rfl,Nat.le_refl _,fun _ _ _ => rfl,fun _ _ _ => rfl,fun _ _ h _ => ⟨h,fun _ => rfl⟩⟩
def strsOf : List AV → Option (List ByteArray)
 | [] => some []
 | .v (.string s) :: r => match strsOf r with | some l => some (s :: l) | none => none
 | _ => none
def joinStr : List AV → Option AV
 | [.v (.slice none 0 0),.v (.string _)] => some (.v (.string ⟨#[]⟩))
 | [.vs _ xs _,.v (.string sep)] =>
  match strsOf xs with
  | some l => if l.length ≤ 100000 ∧ (Lib.join (l.map (·.data.toList)) sep.data.toList).length ≤ 100000 then some (.v (.string ⟨(Lib.join (l.map (·.data.toList)) sep.data.toList).toArray⟩)) else none
  | none => none
 | _ => none
theorem strsOf_some : ∀ {xs : List AV} {l : List ByteArray},strsOf xs = some l → xs = l.map fun s => .v (.string s)
 | [],l,h => by simp [strsOf] at h;subst h;rfl
 | x :: r,l,h => by
  unfold strsOf at h
  split at h
  ·rename_i h';cases h'
  ·rename_i s r' h'
   simp only [List.cons.injEq] at h'
   obtain ⟨rfl,rfl⟩ := h'
   split at h
   ·rename_i l' hl
    simp only [Option.some.injEq] at h
    subst h
    rw [strsOf_some hl];rfl
   ·cases h
  ·cases h
theorem flat_strs : ∀ l : List ByteArray,(l.map fun s => AV.v (.string s)).flatMap AV.cells = l.map fun s => AV.v (.string s)
 | [] => rfl
 | a :: r => by simp only [List.map_cons,List.flatMap_cons,flat_strs r];rfl
theorem ext_join {P : Program} {ρn : Ren} (L : Lays.n156 P ρn) (X : Builder.Extra P ρn) {f : FuncId} (hf : ρn.f 156 = f) (hbody : HasBody P f)
  {args : List AV} {v : AV} (h : joinStr args = some v) (Z : Fzn) (ρ : Pls) (H : Heap) (w : World) (vals : List Value) (hs : Sim Z ρ H w) (hl : RepL Z ρ args vals) : FnMeets P f vals w (After Z ρ H w v H) := by
 subst hf
 unfold joinStr at h
 split at h
 ·rename_i sep
  obtain ⟨v1,ws,rfl,hv1,hl⟩ := hl.uncons
  obtain ⟨v2,ws,rfl,hv2,hl⟩ := hl.uncons
  have : ws = [] := List.length_eq_zero_iff.1 hl.1.symm
  subst this
  obtain ⟨rfl, -⟩ := hv1.v_inv
  obtain ⟨rfl, -⟩ := hv2.v_inv
  simp only [Option.some.injEq] at h
  subst h
  refine Or.inr ⟨hbody.run _ _,Calls.mono' (Any.strings_Join_none L X none 0 sep w) ?_⟩
  rintro e w' ⟨rfl,rfl⟩
  exact ⟨_,rfl,Z,ρ,.v rfl,hs,Ext.refl _ _ _ _⟩
 ·rename_i sz xs cap sep
  obtain ⟨v1,ws,rfl,hv1,hl⟩ := hl.uncons
  obtain ⟨v2,ws,rfl,hv2,hl⟩ := hl.uncons
  have : ws = [] := List.length_eq_zero_iff.1 hl.1.symm
  subst this
  obtain ⟨rfl, -⟩ := hv2.v_inv
  split at h
  ·rename_i l hstr
   split at h
   ·rename_i hc
    simp only [Option.some.injEq] at h
    subst h
    have hxs := strsOf_some hstr
    refine Or.inr ⟨hbody.run _ _, ?_⟩
    cases hv1 with
    | vs hz ha hsz hl' hh hcap hle =>
     rename_i c blk arr e fz pre vs post
     have hblk := (Array.getElem?_eq_some_iff.1 (hs.zok _ _ hz)).1
     have hlen : xs.length = l.length := by rw [hxs,List.length_map]
     have hcells : (xs.flatMap AV.cells) = l.map fun s => AV.v (.string s) := by
      rw [hxs]
      exact flat_strs l
     have hget : ∀ (j : Nat) (x : ByteArray),l[j]? = some x → w.cell? ⟨blk,pre.length + j,none⟩ = some (.string x) := by
      intro j x hj
      have h1 : (xs.flatMap AV.cells)[j]? = some (.v (.string x)) := by rw [hcells,List.getElem?_map,hj];rfl
      have hlt : j < vs.length := by rw [← hl'];exact (List.getElem?_eq_some_iff.1 h1).1
      have h2 : vs[j]? = some vs[j] := List.getElem?_eq_getElem hlt
      have h3 := (hh j _ _ h1 h2).v_inv.1
      rw [cell_at (hs.zok _ _ hz) ha h2,h3]
     have hcall := Any.strings_Join L X blk pre.length c l sep w hget hblk (by have := hc.1;omega) (by omega) (by have := hc.2;omega)
     rw [← hlen] at hcall
     refine Calls.mono' hcall ?_
     rintro e w' ⟨rfl,hb⟩
     exact ⟨_,rfl,Z,ρ,.v rfl,hs.below hb,Ext.below hb⟩
    | vs0 hcap =>
     have hl0 : l = [] := by
      cases l with
      | nil => rfl
      | cons a r => simp at hxs
     subst hl0
     refine Calls.mono' (Any.strings_Join_none L X _ _ sep w) ?_
     rintro e w' ⟨rfl,rfl⟩
     exact ⟨_,rfl,Z,ρ,.v rfl,hs,Ext.refl _ _ _ _⟩
   ·cases h
  ·cases h
 ·cases h
end Go.Ev
namespace Go.Ev
open Go.Proofs Go.Shelf Go.RowKit
def ccA (tB : TypeId) : List AV → Heap → Option (AV × Heap)
 | [.ptr b v 0],H =>
  match H.row b v with
  | some (_,e,_,false,[.v (.pointer none),_]) => if e = tB then (storeCells H b v 0 [.ptr b v 0]).map fun H' => (.tup [],H') else none
  | some (_,_,_,false,[.ptr b' v' 0,_]) => if b' = b ∧ v' = v then some (.tup [],H) else none
  | _ => none
 | _,_ => none
theorem n240_of {P : Program} {ρn : Ren} (L : Lays.n156 P ρn) : Lays.n240 P ρn := { L with }
theorem lay_cc {P : Program} {ρn : Ren} (L0 : Lays.n156 P ρn) (X0 : Builder.Extra P ρn) {f : FuncId} (hf : ρn.f 240 = f) (hbody : HasBody P f) {args : List AV} {H H' : Heap} {v : AV} (h : ccA (ρn.t 72) args H = some (v,H')) : MeetsCall P f args H v H' := by
 subst hf
 have L := n240_of L0
 have X := X0.toX72
 refine ⟨hbody,fun Z ρ w vals hs hl => ?_⟩
 unfold ccA at h
 split at h
 ·rename_i b ver
  obtain ⟨x,ws,rfl,hx,hl⟩ := hl.uncons
  have : ws = [] := List.length_eq_zero_iff.1 hl.1.symm
  subst this
  cases hx with
  | ptr hp =>
  rename_i pl
  split at h
  ·rename_i m e sz y hrow
   split at h
   ·rename_i he
    subst he
    simp only [Option.map_eq_some_iff,Prod.mk.injEq] at h
    obtain ⟨H2,hst,rfl,rfl⟩ := h
    obtain ⟨pl1,arr,e',h1,h2,h3,h3b,h3c,h4,pre,vs,post,h5,h6,h7,h7b,h8⟩ := hs.row hrow
    rw [hp] at h1;cases h1
    obtain rfl := hs.rowE hrow hp h2
    have hb0 := hs.row0 hrow hp
    have hpre : pre = [] := List.length_eq_zero_iff.1 (h6.trans hb0)
    have hpost := h7b rfl
    subst hpre hpost
    obtain ⟨z0,us,rfl,hz0,h8⟩ := h8.uncons
    obtain ⟨z1,us,rfl,hz1,h8⟩ := h8.uncons
    have : us = [] := List.length_eq_zero_iff.1 h8.1.symm
    subst this
    obtain ⟨rfl, -⟩ := hz0.v_inv
    have harr : arr = #[.pointer none,z1] := by
     apply Array.toList_inj.1
     rw [h5];rfl
    subst harr
    obtain ⟨w1,Z1,ρ1,r1,s1,x1⟩ := cells_does (P := P) hs hp (k := 0) (xs := [.ptr b ver 0]) (ys := [.pointer (some ⟨pl.blk,pl.base + 0,none⟩)]) ⟨rfl,fun i c v hc hv => by
     cases i with
     | zero => simp at hc hv;subst hc hv;exact .ptr hp
     | succ i => simp at hc⟩ hst
    have hfr := Any.Builder_copyCheck_fresh L X pl.blk w (by simp [World.cell?,h2]) (by simp [World.shape?,h2]) (by simp [World.frozen?,h2])
    rw [hb0]
    refine Calls.mono' hfr ?_
    rintro e w' ⟨rfl,rfl⟩
    rw [hb0] at r1
    have hw : w1 = w.setCell ⟨pl.blk,0,none⟩ (.pointer (some ⟨pl.blk,0,none⟩)) := by
     have hrun := run_storeCells_at P pl.blk 0 (ρn.t 72) [.pointer (some ⟨pl.blk,0,none⟩)] 0 #[.pointer none,z1] w h2 (by simp) (fun y hy => by simp at hy;subst hy;rfl)
     rw [show (0 : Nat) + 0 = 0 from rfl] at r1
     rw [r1] at hrun
     simp only [Result.ok.injEq,true_and] at hrun
     rw [hrun]
     unfold World.setRow World.setCell
     congr 1
     refine Array.ext_getElem? fun k => ?_
     rw [Array.getElem?_modify,Array.getElem?_modify]
     split
     ·rename_i hk;subst hk
      rw [h2];rfl
     ·rfl
    rw [← hw]
    exact ⟨_,rfl,Z1,ρ1,.tup (cs := []) (vs := []) rfl (fun i c v h => by simp at h),s1,x1⟩
   ·cases h
  ·rename_i m e sz b' v' y hrow
   split at h
   ·rename_i he
    obtain ⟨rfl,rfl⟩ := he
    simp only [Option.some.injEq,Prod.mk.injEq] at h
    obtain ⟨rfl,rfl⟩ := h
    obtain ⟨pl1,arr,e',h1,h2,h3,h3b,h3c,h4,pre,vs,post,h5,h6,h7,h7b,h8⟩ := hs.row hrow
    rw [hp] at h1;cases h1
    have hb0 := hs.row0 hrow hp
    have hpre : pre = [] := List.length_eq_zero_iff.1 (h6.trans hb0)
    have hpost := h7b rfl
    subst hpre hpost
    obtain ⟨z0,us,rfl,hz0,h8⟩ := h8.uncons
    cases hz0 with
    | ptr hp2 =>
    rename_i pl2
    rw [hp] at hp2;cases hp2
    have hus := Any.Builder_copyCheck_used L X pl.blk w (by
     have := cell_at (w := w) h2 h5 (k := 0) (x := .pointer (some ⟨pl.blk,pl.base + 0,none⟩)) rfl
     rw [hb0] at this
     exact this)
    rw [hb0]
    refine Calls.mono' hus ?_
    rintro e w' ⟨rfl,rfl⟩
    exact ⟨_,rfl,Z,ρ,.tup (cs := []) (vs := []) rfl (fun i c v h => by simp at h),hs,Ext.refl _ _ _ _⟩
   ·cases h
  ·cases h
 ·cases h
theorem extOK_lay {C C' : Cfg} (hP : C'.P = C.P) {f : FuncId} {g : List AV → Heap → Option (AV × Heap)} (hg : ∀ args H v H',g args H = some (v,H') → MeetsCall C.P f args H v H')
  (hext : ExtOK C) (he : C'.ext = C.ext := by rfl) (hexh : C'.exh = C.exh := by rfl) (hlay : C'.lay = fun f' => if Nat.beq f' f then some g else C.lay f') : ExtOK C' := by
 refine ⟨fun f' g' hf' => by rw [hP];rw [he] at hf';exact hext.ext f' g' hf',fun f' g' hf' args H v H' hv => ?_,fun f' g' hf' => by rw [hP];rw [hexh] at hf';exact hext.exh f' g' hf'⟩
 rw [hP]
 rw [hlay] at hf'
 simp only at hf'
 split at hf'
 ·rename_i hb
  have := Nat.eq_of_beq_eq_true hb
  subst this
  simp only [Option.some.injEq] at hf'
  subst hf'
  exact hg args H v H' hv
 ·exact hext.lay f' g' hf' args H v H' hv
end Go.Ev
namespace Go.Ev
open Go.Proofs
def impF : List Nat := [40,43,52,66,100,112,116,120,135,138,143,144,147,150,154,155,157,158,160,166,179,180,182,190,197,198,199,200,201,202,203,204,215,216,217,218,219,224]
def impC : List (Nat × Nat × Nat) := [(93,117,7)]
def altF : List Nat := []
def keepF : Nat → List Nat
 | 2 => []
 | 3 => [0,5,25,7,33,6,10,9,8,58,1,11,74,73,75,17,80,15,14,13,16,12,4]
 | 4 => [0,7,30,9,38,8,46,1,10,53,52,54,11,12,13,82,14,2,100,17,16,15,131,171,6]
 | 5 => [0,5,30,7,38,1,8,50,49,51,9,10,11,6,73,14,13,12,100,119,17,16,15,4]
 | 6 => [0,1,9,33,11,10,51,12,14,13,69,2,3,15,16,17,100,18,20,19,126,8]
 | 7 => [0,1,2,7,33,9,11,8,10,12,13,14,15,6]
 | 8 => [0,1,2,7,35,9,8,55,11,13,15,17,110,14,12,16,10,6]
 | 9 => [0,3,1,2,7,39,9,48,8,76,11,84,10,90,89,91,12,14,16,13,15,116,134,18,17,20,19,21,6]
 | 10 => [0,2,5,25,1,6,8,10,9,7,72,77,76,78,11,13,15,12,14,105,17,4]
 | 11 => [2,1,3,5,4,7,6,8,9,11,10,139,12,13,14,15,16,17,18,19,20,21,0]
 | 12 => [0,2]
 | 13 => [0,4,10,14,13,15,6,5,26,2,3]
 | 14 => [0,9,2,3,11,12,13,6,5,4]
 | 15 => [0,1,10,5,14,25,4]
 | 16 => [0,2,7,16,4,1,8,22,6,28,9,5]
 | 17 => [1,3,0,23,6,4,5]
 | 18 => [0,1,2,20,21,30,6,7]
 | 19 => [1,0,2,6]
 | 20 => [0,1,7,6,24,4,5]
 | 21 => [0,1,2]
 | 22 => [0,1,4,2]
 | 23 => [0,1,12,3,17,26,2]
 | 24 => [0,2,1,7,15,6,4,5]
 | 25 => [0,1,4,5,2,3]
 | 26 => [0,2,1,7,15,4,6,5]
 | 27 => [0,1,2,3,22,5,27,6,7,59,4]
 | 28 => [0,2]
 | 29 => [0]
 | 30 => [0,1,2,3,6,11,4,5]
 | 31 => [0]
 | 32 => [0]
 | 33 => [0,1,4,8,2,3]
 | 34 => [0,1,2,3,6,11,4,5]
 | 35 => [0]
 | 36 => [0,4,11,15,14,16,13,6,31,7,37,2,3]
 | 37 => [0,1,2,6]
 | 38 => [3,0,8,17,4,24,42,2]
 | 39 => [0,5,2]
 | 40 => [0,1,4,5]
 | 41 => [0,1,4]
 | 42 => [0,2]
 | 43 => [0,2]
 | 44 => [0,1,2]
 | 45 => [0,1,4,21,2,5,37,36,38,35,7,44,3]
 | 46 => [0,2,1,20,19,21,18,5,7,4]
 | 47 => [0,1,5,6,4]
 | 48 => [0,1,2]
 | 49 => [0,1,2,6]
 | 50 => [0,8,11,10,12,4,22,28,27,29,5,41,3,2]
 | 51 => [0,1,10,13,12,14,5,24,4]
 | 52 => [0,4,2]
 | 53 => [1,2,5,4,13,23,0,8,31,6,7]
 | 54 => [0,1,4,11,2]
 | 55 => [0,6,3,10,18,2]
 | 56 => [0,2,7,14,4,6,1,25,5]
 | 57 => [0,1,2,3,6,4]
 | 58 => [0,1,18,17,19,16,4,6,3,2]
 | 59 => [0,1,4,2]
 | 60 => [0,1,11,10,12,9,3,5,27,26,28,25,7,2]
 | 61 => [0,1,2,3,6,4]
 | 62 => [0,1,11,10,12,9,3,5,32,31,33,30,7,2]
 | 63 => [0,9,8,10,7,4,6,20,2]
 | 64 => [0,1,9,8,10,7,6,2,22,4]
 | 65 => [0,8,7,9,6,3,5,24,34,2]
 | 66 => [0,6,19]
 | 67 => [1,0,13,12,14,5,6,4]
 | 68 => [7,8,1,3,4,6,19,5,0,30]
 | 69 => [0,6,7,1,29,4,5]
 | 70 => [0,1,2,4]
 | 71 => [1,0,3,4]
 | 72 => [7,0,1,2,25,6]
 | 73 => [0,1,4]
 | 74 => [0,1,4]
 | 75 => [0,1,17,5,27,4,7,6,49,2,3]
 | 76 => [0,1,2,7,14,4,6,3,20,5]
 | 77 => [0,8,7,9,6,5,13,3,2]
 | 78 => [0,8,7,9,6,3,5,2]
 | 79 => [0,1,2]
 | 80 => [0,1,6,2,3]
 | 81 => [0,1,2,6,17,4,3,25,24,26,23,9,33,32,34,31,11,40,39,41,38,7,8,10,12,13,73,5]
 | 82 => [0,1,17,18,3,5,26,4,35,2]
 | 83 => [0,1,2,3,6,12,4,5]
 | 85 => [0,1,4]
 | 86 => [0,11,10,12,9,3,5,20,27,26,28,25,6,8,2]
 | 87 => [0,1,3,2,30,35,36,37,5,7,4]
 | 88 => [0,12,13,15,1,22,29,5,41,40,42,39,7,49,8,65,64,66,63,10,4]
 | 89 => [0,2]
 | 90 => [0,1,11,15,14,16,13,4,3,38,2]
 | 91 => [0,2]
 | 92 => [0,1,10,14,13,15,12,5,7,2,27,4]
 | 93 => [0,1,2,5,4]
 | 94 => [0,1,2]
 | 95 => [0,7,6,8,5,4,26,2]
 | 96 => [0,8,7,9,6,5,3,14,2]
 | 97 => [0,1,4]
 | 98 => [0,1,2,3,4]
 | 99 => [0,1,4]
 | 100 => [1,6,0,16,4]
 | 101 => [0,2]
 | 102 => [0,1,12,11,13,10,2,7,8,5,42,4]
 | 103 => [3,0,9,4,5,38,2]
 | 104 => [0,1,2,15,14,16,13,5,7,29,30,31,8,10,9,3,4]
 | 105 => [0,1,2]
 | 106 => [0,2]
 | 107 => [0,1,7,21]
 | 108 => [0,2]
 | 109 => [0,1,9,8,10,7,6,2,22,4]
 | 110 => [1,0,3,4]
 | 111 => [0,12,15,14,16,4,25,31,30,32,29,6,37,3,2]
 | 112 => [0,1,4]
 | 113 => [0,1,2]
 | 114 => [0,1,2]
 | 115 => [0,1,3,2,4]
 | 116 => [0,5,1,4]
 | 117 => [0,1,2]
 | 118 => [0,1,2,3,4]
 | 119 => [0,1,5,11,6,12,13,16,19,4]
 | 120 => [0,11,10,12,9,3,5,20,21,22,7,31,2]
 | 121 => [0,10,9,11,8,1,6,17,5,7,4]
 | 122 => [1,2,0,4]
 | 123 => [0,2]
 | 124 => [0,5,2,8,10,11,3,14]
 | 125 => [0,1,4]
 | 127 => [0]
 | 128 => [0,1,3,2,13,5,27,4]
 | 129 => [0,1,2,3,4]
 | 130 => [0,1,15,14,16,13,6,8,9,5,4]
 | 131 => [1,0,11,10,12,9,7,8,3,24,5,4]
 | 132 => [1,10,9,11,8,4,18,17,19,0,3,5,31]
 | 133 => [0,1,4]
 | 134 => [1,11,0,17,23,6,7,5,34,9,4]
 | 135 => [0,1,4]
 | 136 => [0,2,1,3]
 | 137 => [0,9,12,11,13,3,24,2]
 | 138 => [0,8,7,9,1,5,16,4]
 | 139 => [0,1,9,8,10,7,6,2,22,4]
 | 140 => [0]
 | 141 => [0,2]
 | 142 => [0]
 | 143 => [0,2]
 | 144 => [0,4,1]
 | 145 => [1,7,6,8,5,0,4,14]
 | 146 => [0,2]
 | 147 => [0,1,2]
 | 148 => [0,1,9,8,10,7,6,2,22,4]
 | 149 => [0,1,12,21,6,34,5,4]
 | 150 => [0,1,4]
 | 152 => [1,3,0,4]
 | 153 => [1,0,4]
 | 154 => [0,2,4]
 | 155 => [0,2,1,4]
 | 156 => [1,0,3,4]
 | 157 => [0,2,1,4]
 | 158 => [0,2,1,4]
 | 159 => [1,3,0,4]
 | 160 => [0,2,1,4]
 | 162 => [0,4,2]
 | 163 => [0,3,2]
 | 164 => [0,4,20,1,5,7,6,9,8,11,10,99,12,13,15,14,139,16,161]
 | 165 => [2,28,3,30,1,34,15,46,13,16,12,14,17,68,18,89,4,94,0,10,11]
 | 166 => [0,8,7,9,1,5,16,4]
 | 167 => [0,1,3,4]
 | 168 => [0,2]
 | 169 => [0,1,2]
 | 170 => [0,2,3,1,6]
 | 171 => [0,1,3,2,4]
 | 172 => [0,1,2,3,4]
 | 173 => [0,2,3,1,5,6]
 | 174 => [0,1,2,3,4]
 | 175 => [0,1,2,3,4]
 | 176 => [0,2,3,5,6]
 | 177 => [0,1,3,4]
 | 178 => [0,2,6]
 | 179 => [0,1,6,7,2,5,4]
 | 180 => [2,1,12,25,0,4,3,32,10,39,14,56,13,11,75,80,97,15,17,16,18,19,125,20]
 | 181 => [0,2]
 | 182 => [1,3,8,0,18]
 | 183 => [0,1,13,4]
 | 184 => [0,1,16,4]
 | 185 => [4,0,9,5,16,2,3]
 | 186 => [0,7,1,12,4]
 | 187 => [0,7,1,15,4]
 | 188 => [0,9,1,5,18,6,4]
 | 189 => [0,9,5,17,1,26,6,4]
 | 190 => [0,1,2,4,3,5,6]
 | 191 => [0,2]
 | 192 => [0,4,8,2,14]
 | 193 => [0,3,2]
 | 194 => [0,2]
 | 195 => [0,2]
 | 196 => [1,0,3,4]
 | 197 => [1,8,2,14,9,3,0,34]
 | 198 => [1,2,10,11,21,0,8,3,12,33,9]
 | 199 => [2,1,8,17,11,35,9,10,12,45,0]
 | 200 => [2,1,10,34,36,0,12,3,11,13,14,55,57,60,8,9]
 | 201 => [1,2,8,9,15,0]
 | 202 => [1,10,16,9,2,3,0,36,41,45,65,11,69,84,104,12,109,124,8]
 | 203 => [0,1,3,2,11,12,4,47,65,70,10]
 | 204 => [0,1,3,2,12,13,4,47,66,71,120,139,144,10,11]
 | 205 => [0,4,8,2]
 | 206 => [0,1,4]
 | 207 => [0,10,2,3]
 | 208 => [0,1,4]
 | 209 => [0,4,10,5,2,18,6,27,33,35,3,48]
 | 210 => [1,11,2,14,0,6,25,7,33,3,8,42]
 | 211 => [0,1,4]
 | 212 => [0,4,2]
 | 213 => [0,4,2]
 | 214 => [1,0,8,7,9,3,5,16,4]
 | 215 => [1,10,11,2,18,4,0,3,40,58]
 | 216 => [0,2]
 | 217 => [0,2]
 | 218 => [0,1,2,3,8]
 | 219 => [0,1,2,4,5,3,12]
 | 220 => [0,4,16,5,6,23,7,8,45,10,9,57,59,11,75,77,12,98,2,3]
 | 221 => [1,160,0,171,175,177,176,6,181,5,183,7,8,9,26,33,11,43,12,51,64,10,98,13,108,124,14,15,139,16,143,156,4]
 | 222 => [0,2]
 | 223 => [1,5,0,16,24,31,36,8,9,59,6,64,11,73,7,93,10,107,12,114,132,13,139,4]
 | 224 => [4,0,2,1,22,3,10,11]
 | 225 => [0,3,10,2]
 | 226 => [0,2]
 | 228 => [1,9,7,20,8,0,5,39,10,44,6,77,4]
 | 229 => [5,0,12,4,8,25,30,6,7,2,3]
 | 256 => []
 | _ => []
def pureF (h g : Nat) (d : Option Nat) : Bool := (Nat.beq g 52 && (Nat.beq h 45 || Nat.beq h 46)) || (!(impF.contains g) && !(Nat.beq g 46 && Nat.beq h 16) && !(impC.contains (h,g,d.getD 100000)))
structure Exts where
 x : FuncId → Option (List AV → Option AV)
def Exts.more (e : Exts) (f : FuncId) (g : List AV → Option AV) : Exts := { e with x := fun h => if Nat.beq h f then some g else e.x h }
def frzF (me : FuncId) (d : Option Tmp) : Bool := match d with | some d => (decide (me = 6) && (decide (d = 38) || decide (d = 111))) || (decide (me = 20) && decide (d = 11)) | none => false
noncomputable def Cx (e : Exts) : Cfg := { P := Tryz.prog,pure := pureF,alter := fun h _ => altF.contains h,keep := keepF,ext := e.x,lay := fun h => if Nat.beq h 66 then some (ccA 88) else none,frz := frzF }
def Quiet (e : Exts) : Prop := ∀ f,f ≠ 11 → f ≠ 151 → f ≠ 88 → f ≠ 126 → e.x f = none
@[go_sem] theorem Cx_P (e : Exts) : (Cx e).P = Tryz.prog := rfl
@[go_sem] theorem frz_none (e : Exts) (me : FuncId) : (Cx e).frz me none = false := rfl
@[go_sem] theorem frz_some (e : Exts) (me : FuncId) (d : Tmp) : (Cx e).frz me (some d) = ((decide (me = 6) && (decide (d = 38) || decide (d = 111))) || (decide (me = 20) && decide (d = 11))) := rfl
theorem size_3 : sizeT Tryz.prog 3 = some 1 := by kernel_rfl
theorem size_9 : sizeT Tryz.prog 9 = some 1 := by kernel_rfl
theorem size_22 : sizeT Tryz.prog 22 = some 1 := by kernel_rfl
theorem size_36 : sizeT Tryz.prog 36 = some 1 := by kernel_rfl
theorem size_38 : sizeT Tryz.prog 38 = some 2 := by kernel_rfl
theorem size_42 : sizeT Tryz.prog 42 = some 3 := by kernel_rfl
theorem size_99 : sizeT Tryz.prog 99 = some 1 := by kernel_rfl
theorem size_101 : sizeT Tryz.prog 101 = some 3 := by kernel_rfl
@[go_sem] theorem zero_3 : zeroT Tryz.prog 3 = some (.v (.int .i64 0)) := by kernel_rfl
@[go_sem] theorem zero_9 : zeroT Tryz.prog 9 = some (.v (.string ⟨#[]⟩)) := by kernel_rfl
@[go_sem] theorem zero_22 : zeroT Tryz.prog 22 = some (.v (.slice none 0 0)) := by kernel_rfl
@[go_sem] theorem zero_38 : zeroT Tryz.prog 38 = some (.agg [.v (.slice none 0 0),.v (.slice none 0 0)]) := by kernel_rfl
@[go_sem] theorem zero_42 : zeroT Tryz.prog 42 = some (.agg [.v (.int .i64 0),.v (.int .i64 0),.v (.slice none 0 0)]) := by kernel_rfl
@[go_sem] theorem zero_101 : zeroT Tryz.prog 101 = some (.agg [.v (.slice none 0 0),.v (.slice none 0 0),.v (.slice none 0 0)]) := by kernel_rfl
@[go_sem] theorem keep_6 (e : Exts) : (Cx e).keep 6 = [0,1,9,33,11,10,51,12,14,13,69,2,3,15,16,17,100,18,20,19,126,8] := rfl
@[go_sem] theorem alter_6 (e : Exts) (d : Option Tmp) : (Cx e).alter 6 d = false := rfl
theorem fn_6 (e : Exts) : (Cx e).P.funcs[6]? = some Tryz.f6 := Tryz.func6
@[go_sem] theorem keep_12 (e : Exts) : (Cx e).keep 12 = [0,2] := rfl
theorem fn_12 (e : Exts) : (Cx e).P.funcs[12]? = some Tryz.f12 := Tryz.func12
theorem ext_12 {e : Exts} (he : Quiet e) : (Cx e).ext 12 = none := he _ (by decide) (by decide) (by decide) (by decide)
theorem pure_12 (e : Exts) (h : FuncId) (d : Option Tmp) : (Cx e).pure h 12 d = true := by simp [Cx,pureF,impF,impC,show Nat.beq 12 46 = false from rfl]
@[go_sem] theorem keep_15 (e : Exts) : (Cx e).keep 15 = [0,1,10,5,14,25,4] := rfl
theorem fn_15 (e : Exts) : (Cx e).P.funcs[15]? = some Tryz.f15 := Tryz.func15
theorem ext_15 {e : Exts} (he : Quiet e) : (Cx e).ext 15 = none := he _ (by decide) (by decide) (by decide) (by decide)
theorem pure_15 (e : Exts) (h : FuncId) (d : Option Tmp) : (Cx e).pure h 15 d = true := by simp [Cx,pureF,impF,impC,show Nat.beq 15 46 = false from rfl]
@[go_sem] theorem keep_16 (e : Exts) : (Cx e).keep 16 = [0,2,7,16,4,1,8,22,6,28,9,5] := rfl
@[go_sem] theorem alter_16 (e : Exts) (d : Option Tmp) : (Cx e).alter 16 d = false := rfl
theorem fn_16 (e : Exts) : (Cx e).P.funcs[16]? = some Tryz.f16 := Tryz.func16
theorem ext_16 {e : Exts} (he : Quiet e) : (Cx e).ext 16 = none := he _ (by decide) (by decide) (by decide) (by decide)
theorem pure_16 (e : Exts) (h : FuncId) (d : Option Tmp) : (Cx e).pure h 16 d = true := by simp [Cx,pureF,impF,impC,show Nat.beq 16 46 = false from rfl]
@[go_sem] theorem keep_17 (e : Exts) : (Cx e).keep 17 = [1,3,0,23,6,4,5] := rfl
theorem fn_17 (e : Exts) : (Cx e).P.funcs[17]? = some Tryz.f17 := Tryz.func17
theorem ext_17 {e : Exts} (he : Quiet e) : (Cx e).ext 17 = none := he _ (by decide) (by decide) (by decide) (by decide)
theorem pure_17 (e : Exts) (h : FuncId) (d : Option Tmp) : (Cx e).pure h 17 d = true := by simp [Cx,pureF,impF,impC,show Nat.beq 17 46 = false from rfl]
@[go_sem] theorem keep_38 (e : Exts) : (Cx e).keep 38 = [3,0,8,17,4,24,42,2] := rfl
theorem fn_38 (e : Exts) : (Cx e).P.funcs[38]? = some Tryz.f38 := Tryz.func38
theorem ext_38 {e : Exts} (he : Quiet e) : (Cx e).ext 38 = none := he _ (by decide) (by decide) (by decide) (by decide)
theorem pure_38 (e : Exts) (h : FuncId) (d : Option Tmp) : (Cx e).pure h 38 d = true := by simp [Cx,pureF,impF,impC,show Nat.beq 38 46 = false from rfl]
@[go_sem] theorem keep_39 (e : Exts) : (Cx e).keep 39 = [0,5,2] := rfl
theorem fn_39 (e : Exts) : (Cx e).P.funcs[39]? = some Tryz.f39 := Tryz.func39
theorem ext_39 {e : Exts} (he : Quiet e) : (Cx e).ext 39 = none := he _ (by decide) (by decide) (by decide) (by decide)
theorem pure_39 (e : Exts) (h : FuncId) (d : Option Tmp) : (Cx e).pure h 39 d = true := by simp [Cx,pureF,impF,impC,show Nat.beq 39 46 = false from rfl]
@[go_sem] theorem keep_45 (e : Exts) : (Cx e).keep 45 = [0,1,4,21,2,5,37,36,38,35,7,44,3] := rfl
@[go_sem] theorem alter_45 (e : Exts) (d : Option Tmp) : (Cx e).alter 45 d = false := rfl
theorem fn_45 (e : Exts) : (Cx e).P.funcs[45]? = some Tryz.f45 := Tryz.func45
theorem ext_45 {e : Exts} (he : Quiet e) : (Cx e).ext 45 = none := he _ (by decide) (by decide) (by decide) (by decide)
theorem pure_45 (e : Exts) (h : FuncId) (d : Option Tmp) : (Cx e).pure h 45 d = true := by simp [Cx,pureF,impF,impC,show Nat.beq 45 46 = false from rfl]
@[go_sem] theorem keep_46 (e : Exts) : (Cx e).keep 46 = [0,2,1,20,19,21,18,5,7,4] := rfl
@[go_sem] theorem alter_46 (e : Exts) (d : Option Tmp) : (Cx e).alter 46 d = false := rfl
theorem fn_46 (e : Exts) : (Cx e).P.funcs[46]? = some Tryz.f46 := Tryz.func46
theorem ext_46 {e : Exts} (he : Quiet e) : (Cx e).ext 46 = none := he _ (by decide) (by decide) (by decide) (by decide)
@[go_sem] theorem keep_47 (e : Exts) : (Cx e).keep 47 = [0,1,5,6,4] := rfl
theorem fn_47 (e : Exts) : (Cx e).P.funcs[47]? = some Tryz.f47 := Tryz.func47
theorem ext_47 {e : Exts} (he : Quiet e) : (Cx e).ext 47 = none := he _ (by decide) (by decide) (by decide) (by decide)
theorem pure_47 (e : Exts) (h : FuncId) (d : Option Tmp) : (Cx e).pure h 47 d = true := by simp [Cx,pureF,impF,impC,show Nat.beq 47 46 = false from rfl]
@[go_sem] theorem keep_48 (e : Exts) : (Cx e).keep 48 = [0,1,2] := rfl
theorem fn_48 (e : Exts) : (Cx e).P.funcs[48]? = some Tryz.f48 := Tryz.func48
theorem ext_48 {e : Exts} (he : Quiet e) : (Cx e).ext 48 = none := he _ (by decide) (by decide) (by decide) (by decide)
theorem pure_48 (e : Exts) (h : FuncId) (d : Option Tmp) : (Cx e).pure h 48 d = true := by simp [Cx,pureF,impF,impC,show Nat.beq 48 46 = false from rfl]
@[go_sem] theorem keep_49 (e : Exts) : (Cx e).keep 49 = [0,1,2,6] := rfl
theorem fn_49 (e : Exts) : (Cx e).P.funcs[49]? = some Tryz.f49 := Tryz.func49
theorem ext_49 {e : Exts} (he : Quiet e) : (Cx e).ext 49 = none := he _ (by decide) (by decide) (by decide) (by decide)
theorem pure_49 (e : Exts) (h : FuncId) (d : Option Tmp) : (Cx e).pure h 49 d = true := by simp [Cx,pureF,impF,impC,show Nat.beq 49 46 = false from rfl]
@[go_sem] theorem keep_50 (e : Exts) : (Cx e).keep 50 = [0,8,11,10,12,4,22,28,27,29,5,41,3,2] := rfl
@[go_sem] theorem alter_50 (e : Exts) (d : Option Tmp) : (Cx e).alter 50 d = false := rfl
theorem fn_50 (e : Exts) : (Cx e).P.funcs[50]? = some Tryz.f50 := Tryz.func50
theorem ext_50 {e : Exts} (he : Quiet e) : (Cx e).ext 50 = none := he _ (by decide) (by decide) (by decide) (by decide)
theorem pure_50 (e : Exts) (h : FuncId) (d : Option Tmp) : (Cx e).pure h 50 d = true := by simp [Cx,pureF,impF,impC,show Nat.beq 50 46 = false from rfl]
@[go_sem] theorem keep_52 (e : Exts) : (Cx e).keep 52 = [0,4,2] := rfl
@[go_sem] theorem alter_52 (e : Exts) (d : Option Tmp) : (Cx e).alter 52 d = false := rfl
theorem fn_52 (e : Exts) : (Cx e).P.funcs[52]? = some Tryz.f52 := Tryz.func52
theorem ext_52 {e : Exts} (he : Quiet e) : (Cx e).ext 52 = none := he _ (by decide) (by decide) (by decide) (by decide)
@[go_sem] theorem keep_64 (e : Exts) : (Cx e).keep 64 = [0,1,9,8,10,7,6,2,22,4] := rfl
theorem fn_64 (e : Exts) : (Cx e).P.funcs[64]? = some Tryz.f64 := Tryz.func64
theorem ext_64 {e : Exts} (he : Quiet e) : (Cx e).ext 64 = none := he _ (by decide) (by decide) (by decide) (by decide)
theorem pure_64 (e : Exts) (h : FuncId) (d : Option Tmp) : (Cx e).pure h 64 d = true := by simp [Cx,pureF,impF,impC,show Nat.beq 64 46 = false from rfl]
@[go_sem] theorem keep_70 (e : Exts) : (Cx e).keep 70 = [0,1,2,4] := rfl
@[go_sem] theorem alter_70 (e : Exts) (d : Option Tmp) : (Cx e).alter 70 d = false := rfl
theorem fn_70 (e : Exts) : (Cx e).P.funcs[70]? = some Tryz.f70 := Tryz.func70
theorem ext_70 {e : Exts} (he : Quiet e) : (Cx e).ext 70 = none := he _ (by decide) (by decide) (by decide) (by decide)
theorem pure_70 (e : Exts) (h : FuncId) (d : Option Tmp) : (Cx e).pure h 70 d = true := by simp [Cx,pureF,impF,impC,show Nat.beq 70 46 = false from rfl]
@[go_sem] theorem keep_71 (e : Exts) : (Cx e).keep 71 = [1,0,3,4] := rfl
@[go_sem] theorem alter_71 (e : Exts) (d : Option Tmp) : (Cx e).alter 71 d = false := rfl
theorem fn_71 (e : Exts) : (Cx e).P.funcs[71]? = some Tryz.f71 := Tryz.func71
theorem ext_71 {e : Exts} (he : Quiet e) : (Cx e).ext 71 = none := he _ (by decide) (by decide) (by decide) (by decide)
theorem pure_71 (e : Exts) (h : FuncId) (d : Option Tmp) : (Cx e).pure h 71 d = true := by simp [Cx,pureF,impF,impC,show Nat.beq 71 46 = false from rfl]
@[go_sem] theorem keep_72 (e : Exts) : (Cx e).keep 72 = [7,0,1,2,25,6] := rfl
theorem fn_72 (e : Exts) : (Cx e).P.funcs[72]? = some Tryz.f72 := Tryz.func72
theorem ext_72 {e : Exts} (he : Quiet e) : (Cx e).ext 72 = none := he _ (by decide) (by decide) (by decide) (by decide)
theorem pure_72 (e : Exts) (h : FuncId) (d : Option Tmp) : (Cx e).pure h 72 d = true := by simp [Cx,pureF,impF,impC,show Nat.beq 72 46 = false from rfl]
@[go_sem] theorem keep_73 (e : Exts) : (Cx e).keep 73 = [0,1,4] := rfl
theorem fn_73 (e : Exts) : (Cx e).P.funcs[73]? = some Tryz.f73 := Tryz.func73
theorem ext_73 {e : Exts} (he : Quiet e) : (Cx e).ext 73 = none := he _ (by decide) (by decide) (by decide) (by decide)
theorem pure_73 (e : Exts) (h : FuncId) (d : Option Tmp) : (Cx e).pure h 73 d = true := by simp [Cx,pureF,impF,impC,show Nat.beq 73 46 = false from rfl]
@[go_sem] theorem keep_74 (e : Exts) : (Cx e).keep 74 = [0,1,4] := rfl
theorem fn_74 (e : Exts) : (Cx e).P.funcs[74]? = some Tryz.f74 := Tryz.func74
theorem ext_74 {e : Exts} (he : Quiet e) : (Cx e).ext 74 = none := he _ (by decide) (by decide) (by decide) (by decide)
theorem pure_74 (e : Exts) (h : FuncId) (d : Option Tmp) : (Cx e).pure h 74 d = true := by simp [Cx,pureF,impF,impC,show Nat.beq 74 46 = false from rfl]
@[go_sem] theorem keep_86 (e : Exts) : (Cx e).keep 86 = [0,11,10,12,9,3,5,20,27,26,28,25,6,8,2] := rfl
theorem fn_86 (e : Exts) : (Cx e).P.funcs[86]? = some Tryz.f86 := Tryz.func86
theorem ext_86 {e : Exts} (he : Quiet e) : (Cx e).ext 86 = none := he _ (by decide) (by decide) (by decide) (by decide)
theorem pure_86 (e : Exts) (h : FuncId) (d : Option Tmp) : (Cx e).pure h 86 d = true := by simp [Cx,pureF,impF,impC,show Nat.beq 86 46 = false from rfl]
@[go_sem] theorem keep_100 (e : Exts) : (Cx e).keep 100 = [1,6,0,16,4] := rfl
theorem fn_100 (e : Exts) : (Cx e).P.funcs[100]? = some Tryz.f100 := Tryz.func100
theorem ext_100 {e : Exts} (he : Quiet e) : (Cx e).ext 100 = none := he _ (by decide) (by decide) (by decide) (by decide)
theorem isagg_3 : isAggT Tryz.prog 3 = some false := by kernel_rfl
@[go_sem] theorem part_3 (cs : List AV) (k : Nat) : partOf Tryz.prog 3 cs k = cs[k]? := partOf_one cs k isagg_3 size_3
theorem isagg_9 : isAggT Tryz.prog 9 = some false := by kernel_rfl
@[go_sem] theorem part_9 (cs : List AV) (k : Nat) : partOf Tryz.prog 9 cs k = cs[k]? := partOf_one cs k isagg_9 size_9
theorem und_9 : Tryz.prog.underlying 9 = some .string := by kernel_rfl
@[go_sem] theorem len_9 (H : Heap) (s : ByteArray) : lenA Tryz.prog H [9] [.v (.string s)] = some (.v (.int .i64 s.size)) := len_str und_9 H s []
@[go_sem] theorem idx_9 (s : ByteArray) (k : IntKind) (n : Int) : indexA Tryz.prog 9 (.v (.string s)) (.v (.int k n)) = if 0 ≤ n then (strAt s n.toNat).map fun b => .v (.int .u8 b.toNat) else none := index_str und_9 s k n
theorem isagg_22 : isAggT Tryz.prog 22 = some false := by kernel_rfl
@[go_sem] theorem part_22 (cs : List AV) (k : Nat) : partOf Tryz.prog 22 cs k = cs[k]? := partOf_one cs k isagg_22 size_22
theorem und_22 : Tryz.prog.underlying 22 = some (.slice 9) := by kernel_rfl
@[go_sem] theorem len_22 (H : Heap) (x : AV) : lenA Tryz.prog H [22] [x] = slLen x := len_sl und_22 H x
@[go_sem] theorem idx_22 (x y : AV) : indexAddrA Tryz.prog 22 x y = slIdx 1 x y := idx_sl und_22 size_9 x y
@[go_sem] theorem bsl_22 (mt : Bool) (H : Heap) (slot len : Nat) (parts : List (Nat × AV)) : buildSliceA Tryz.prog mt H slot 22 len parts = if len * 1 ≤ 65536 then (fillA (fun i => some (i * 1,1)) (repeatCells [.v (.string ⟨#[]⟩)] len) parts).bind (bsFin mt 9 1 H slot len) else none := buildSl_eq und_22 size_9 zero_9 (by decide) rfl mt H slot len parts
theorem isagg_36 : isAggT Tryz.prog 36 = some false := by kernel_rfl
@[go_sem] theorem part_36 (cs : List AV) (k : Nat) : partOf Tryz.prog 36 cs k = cs[k]? := partOf_one cs k isagg_36 size_36
@[go_sem] theorem store_36 (H : Heap) (b v k : Nat) (x : AV) : storeA Tryz.prog H 36 (.ptr b v k) x = if x.cells.length = 1 then storeCells H b v k x.cells else none := by unfold storeA;rw [size_36]
theorem und_36 : Tryz.prog.underlying 36 = some (.slice 42) := by kernel_rfl
@[go_sem] theorem len_36 (H : Heap) (x : AV) : lenA Tryz.prog H [36] [x] = slLen x := len_sl und_36 H x
@[go_sem] theorem idx_36 (x y : AV) : indexAddrA Tryz.prog 36 x y = slIdx 3 x y := idx_sl und_36 size_42 x y
@[go_sem] theorem bsl_36 (mt : Bool) (H : Heap) (slot len : Nat) (parts : List (Nat × AV)) : buildSliceA Tryz.prog mt H slot 36 len parts = if len * 3 ≤ 65536 then (fillA (fun i => some (i * 3,3)) (repeatCells [.v (.int .i64 0),.v (.int .i64 0),.v (.slice none 0 0)] len) parts).bind (bsFin mt 42 3 H slot len) else none := buildSl_eq und_36 size_42 zero_42 (by decide) rfl mt H slot len parts
theorem isagg_38 : isAggT Tryz.prog 38 = some true := by kernel_rfl
@[go_sem] theorem part_38 (cs : List AV) (k : Nat) : partOf Tryz.prog 38 cs k = if k + 2 ≤ cs.length then some (.agg ((cs.drop k).take 2)) else none := partOf_agg cs k isagg_38 size_38
@[go_sem] theorem store_38 (H : Heap) (b v k : Nat) (x : AV) : storeA Tryz.prog H 38 (.ptr b v k) x = if x.cells.length = 2 then storeCells H b v k x.cells else none := by unfold storeA;rw [size_38]
theorem foff_38_0 : fieldOff Tryz.prog 38 0 = some (0,1) := by kernel_rfl
@[go_sem] theorem fptr_38_0 (b v k : Nat) : fieldAddrA Tryz.prog 38 (.ptr b v k) 0 = some (.ptr b v (k + 0)) := fieldAddr_ptr foff_38_0 b v k
theorem foff_38_1 : fieldOff Tryz.prog 38 1 = some (1,1) := by kernel_rfl
@[go_sem] theorem fptr_38_1 (b v k : Nat) : fieldAddrA Tryz.prog 38 (.ptr b v k) 1 = some (.ptr b v (k + 1)) := fieldAddr_ptr foff_38_1 b v k
@[go_sem] theorem build_38 (ps : List (Nat × AV)) : buildA Tryz.prog 38 ps = (fillA (fun i => ([(0,1),(1,1)] : List (Nat × Nat))[i]?) [.v (.slice none 0 0),.v (.slice none 0 0)] ps).map .agg := by kernel_rfl
theorem isagg_42 : isAggT Tryz.prog 42 = some true := by kernel_rfl
@[go_sem] theorem part_42 (cs : List AV) (k : Nat) : partOf Tryz.prog 42 cs k = if k + 3 ≤ cs.length then some (.agg ((cs.drop k).take 3)) else none := partOf_agg cs k isagg_42 size_42
@[go_sem] theorem store_42 (H : Heap) (b v k : Nat) (x : AV) : storeA Tryz.prog H 42 (.ptr b v k) x = if x.cells.length = 3 then storeCells H b v k x.cells else none := by unfold storeA;rw [size_42]
theorem foff_42_0 : fieldOff Tryz.prog 42 0 = some (0,1) := by kernel_rfl
@[go_sem] theorem fptr_42_0 (b v k : Nat) : fieldAddrA Tryz.prog 42 (.ptr b v k) 0 = some (.ptr b v (k + 0)) := fieldAddr_ptr foff_42_0 b v k
theorem foff_42_1 : fieldOff Tryz.prog 42 1 = some (1,1) := by kernel_rfl
@[go_sem] theorem fptr_42_1 (b v k : Nat) : fieldAddrA Tryz.prog 42 (.ptr b v k) 1 = some (.ptr b v (k + 1)) := fieldAddr_ptr foff_42_1 b v k
theorem foff_42_2 : fieldOff Tryz.prog 42 2 = some (2,1) := by kernel_rfl
@[go_sem] theorem fptr_42_2 (b v k : Nat) : fieldAddrA Tryz.prog 42 (.ptr b v k) 2 = some (.ptr b v (k + 2)) := fieldAddr_ptr foff_42_2 b v k
@[go_sem] theorem build_42 (ps : List (Nat × AV)) : buildA Tryz.prog 42 ps = (fillA (fun i => ([(0,1),(1,1),(2,1)] : List (Nat × Nat))[i]?) [.v (.int .i64 0),.v (.int .i64 0),.v (.slice none 0 0)] ps).map .agg := by kernel_rfl
theorem isagg_99 : isAggT Tryz.prog 99 = some false := by kernel_rfl
@[go_sem] theorem part_99 (cs : List AV) (k : Nat) : partOf Tryz.prog 99 cs k = cs[k]? := partOf_one cs k isagg_99 size_99
@[go_sem] theorem store_99 (H : Heap) (b v k : Nat) (x : AV) : storeA Tryz.prog H 99 (.ptr b v k) x = if x.cells.length = 1 then storeCells H b v k x.cells else none := by unfold storeA;rw [size_99]
theorem und_99 : Tryz.prog.underlying 99 = some (.slice 22) := by kernel_rfl
@[go_sem] theorem len_99 (H : Heap) (x : AV) : lenA Tryz.prog H [99] [x] = slLen x := len_sl und_99 H x
@[go_sem] theorem idx_99 (x y : AV) : indexAddrA Tryz.prog 99 x y = slIdx 1 x y := idx_sl und_99 size_22 x y
@[go_sem] theorem bsl_99 (mt : Bool) (H : Heap) (slot len : Nat) (parts : List (Nat × AV)) : buildSliceA Tryz.prog mt H slot 99 len parts = if len * 1 ≤ 65536 then (fillA (fun i => some (i * 1,1)) (repeatCells [.v (.slice none 0 0)] len) parts).bind (bsFin mt 22 1 H slot len) else none := buildSl_eq und_99 size_22 zero_22 (by decide) rfl mt H slot len parts
theorem isagg_101 : isAggT Tryz.prog 101 = some true := by kernel_rfl
@[go_sem] theorem part_101 (cs : List AV) (k : Nat) : partOf Tryz.prog 101 cs k = if k + 3 ≤ cs.length then some (.agg ((cs.drop k).take 3)) else none := partOf_agg cs k isagg_101 size_101
@[go_sem] theorem store_101 (H : Heap) (b v k : Nat) (x : AV) : storeA Tryz.prog H 101 (.ptr b v k) x = if x.cells.length = 3 then storeCells H b v k x.cells else none := by unfold storeA;rw [size_101]
theorem foff_101_0 : fieldOff Tryz.prog 101 0 = some (0,2) := by kernel_rfl
@[go_sem] theorem fptr_101_0 (b v k : Nat) : fieldAddrA Tryz.prog 101 (.ptr b v k) 0 = some (.ptr b v (k + 0)) := fieldAddr_ptr foff_101_0 b v k
theorem foff_101_1 : fieldOff Tryz.prog 101 1 = some (2,1) := by kernel_rfl
@[go_sem] theorem fptr_101_1 (b v k : Nat) : fieldAddrA Tryz.prog 101 (.ptr b v k) 1 = some (.ptr b v (k + 2)) := fieldAddr_ptr foff_101_1 b v k
@[go_sem] theorem build_101 (ps : List (Nat × AV)) : buildA Tryz.prog 101 ps = (fillA (fun i => ([(0,2),(2,1)] : List (Nat × Nat))[i]?) [.v (.slice none 0 0),.v (.slice none 0 0),.v (.slice none 0 0)] ps).map .agg := by kernel_rfl
theorem foff_132_0 : fieldOff Tryz.prog 132 0 = some (0,1) := by kernel_rfl
@[go_sem] theorem fptr_132_0 (b v k : Nat) : fieldAddrA Tryz.prog 132 (.ptr b v k) 0 = some (.ptr b v (k + 0)) := fieldAddr_ptr foff_132_0 b v k
theorem foff_132_1 : fieldOff Tryz.prog 132 1 = some (1,1) := by kernel_rfl
@[go_sem] theorem fptr_132_1 (b v k : Nat) : fieldAddrA Tryz.prog 132 (.ptr b v k) 1 = some (.ptr b v (k + 1)) := fieldAddr_ptr foff_132_1 b v k
@[go_sem] theorem build_132 (ps : List (Nat × AV)) : buildA Tryz.prog 132 ps = (fillA (fun i => ([(0,1),(1,1)] : List (Nat × Nat))[i]?) [.v (.int .i64 0),.v (.int .i64 0)] ps).map .agg := by kernel_rfl
theorem und_161 : Tryz.prog.underlying 161 = some (.slice 3) := by kernel_rfl
@[go_sem] theorem len_161 (H : Heap) (x : AV) : lenA Tryz.prog H [161] [x] = slLen x := len_sl und_161 H x
@[go_sem] theorem idx_161 (x y : AV) : indexAddrA Tryz.prog 161 x y = slIdx 1 x y := idx_sl und_161 size_3 x y
@[go_sem] theorem bsl_161 (mt : Bool) (H : Heap) (slot len : Nat) (parts : List (Nat × AV)) : buildSliceA Tryz.prog mt H slot 161 len parts = if len * 1 ≤ 65536 then (fillA (fun i => some (i * 1,1)) (repeatCells [.v (.int .i64 0)] len) parts).bind (bsFin mt 3 1 H slot len) else none := buildSl_eq und_161 size_3 zero_3 (by decide) rfl mt H slot len parts
attribute [go_sem] repeatCells splice chunk bsFin ne_eq not_true_eq_false not_false_eq_true List.headD_cons Bool.false_eq_true Nat.le_refl Nat.zero_mul Nat.one_mul Nat.mul_one decide_true decide_false Bool.not_true Bool.not_false List.mem_cons List.not_mem_nil true_or or_true false_or or_false and_true true_and and_self List.getElem?_cons_succ List.getElem?_cons_zero Option.bind_some Option.map_some Option.map_none List.map_cons List.map_nil List.length_cons List.length_nil List.filterMap_cons List.filterMap_nil List.cons_append List.nil_append List.append_nil Nat.zero_add Nat.add_zero List.take_succ_cons List.take_zero List.take_nil List.drop_succ_cons List.drop_zero List.drop_nil List.all_cons List.all_nil Bool.and_true Bool.true_and Bool.false_and Bool.and_false Bool.or_false Bool.false_or Bool.true_or Bool.or_true beq_iff_eq beq_self_eq_true
attribute [go_sem_proc] Nat.reduceEqDiff Nat.reduceLT Nat.reduceLeDiff Nat.reduceAdd Nat.reduceSub Nat.reduceMul reduceCtorEq
end Go.Ev
namespace Go.Ev
def Heap.plus (H : Heap) (E : List (Option AObj)) : Heap := { H with objs := H.objs ++ E }
theorem plus_size (H : Heap) (E : List (Option AObj)) : (H.plus E).size = H.size + E.length := by simp [Heap.plus,Heap.size]
theorem plus_nil (H : Heap) : H.plus [] = H := by simp [Heap.plus]
theorem plus_get {H : Heap} {b : Nat} (E : List (Option AObj)) (h : b < H.size) : (H.plus E).get b = H.get b := by
 unfold Heap.get Heap.plus;simp only;rw [List.getElem?_append_left h]
theorem sop_right {α : Type} (x : α) : ∀ (b : Nat) (l E : List α),l.length ≤ b → setOrPush x b (l ++ E) = l ++ setOrPush x (b - l.length) E
 | b,[],E,_ => rfl
 | 0,y :: r,E,h => by simp at h
 | n + 1,y :: r,E,h => by
  simp only [List.cons_append,setOrPush];rw [sop_right x n r E (by simpa using h)];simp
theorem plus_put_hi {H : Heap} {b : Nat} (E : List (Option AObj)) (o : AObj) (h : H.size ≤ b) : (H.plus E).put b o = H.plus (setOrPush (some o) (b - H.size) E) := by
 unfold Heap.put Heap.plus;simp only;rw [sop_right _ _ _ _ h];rfl
theorem put_push {H : Heap} (o : AObj) : H.put H.size o = H.plus [some o] := by
 have h := plus_put_hi (H := H) (b := H.size) [] o (Nat.le_refl _)
 rw [plus_nil] at h
 rw [h,Nat.sub_self];rfl
section
variable {C : Cfg} {me : FuncId}
end
end Go.Ev
namespace Go.Ev
end Go.Ev
namespace Go.Ev
end Go.Ev
namespace Go.Ev
section
variable {C : Cfg}
def wBox (l t : Nat) : AObj := .cells 0 (l + 1) t 1 false [.yld l]
def hq {S : Type} (hp : S → Heap) (E : List (Option AObj)) (l t : Nat) (q : S × ALoop) : Heap := (hp q.1).plus (E ++ [some (wBox l t),some .dfr,some (.loop q.2)])
variable {l t n : Nat} {S : Type} {hp : S → Heap} {stp : S → List AV → Bool × S} {ok : List AV → Prop} {live : S → Prop}
end
end Go.Ev
namespace Go.Ev
section
variable {C : Cfg} {me : FuncId} {S : Type} {hb : S → Heap} {stp : S → List AV → AExit × S} {lv : S → Prop} {ok : List AV → Prop} {n0 : Nat}
end
end Go.Ev
namespace Go.Ev
section
variable {C : Cfg} {me : FuncId} {rd : Option Nat}
abbrev Inv := Nat → AAct → Heap → Prop
def Again (P : Inv) (m : Nat) (a : AAct) (H : Heap) : Prop := ∃ m',m' < m ∧ P m' a H
@[congr] theorem Again_congr {P : Inv} {m : Nat} {a a' : AAct} {H H' : Heap} (ha : a = a') (hH : H = H') : Again P m a H = Again P m a' H' := by rw [ha,hH]
def itK (P : Inv) (m : Nat) (ks : List Tmp) (n : Nat) (K : Post) : Post := fun e a H =>
 match e with
 | .normal => Again P m (a.only ks) (H.trim n ((a.only ks).tmps.map (·.2)) (a.only ks).marks)
 | .exit i => AtK K (.exit i) (a.only ks) (H.trim n ((a.only ks).tmps.map (·.2)) (a.only ks).marks)
 | .ret => AtK K .ret a H
@[go_sem ↓] theorem itK_normal (P : Inv) (m : Nat) (ks : List Tmp) (n : Nat) (K : Post) (s : Nat) (l : List (Tmp × AV)) (ms : List Nat) (H : Heap) : AtK (itK P m ks n K) .normal ⟨s,l,ms⟩ H = bindO (nf (ks.filterMap fun k => (assoc k l).map fun v => (k,v))) fun l' => bindO (nf (H.trim n (l'.map (·.2)) ms)) fun H' => Again P m ⟨s,l',ms⟩ H' := rfl
@[go_sem ↓] theorem itK_exit (P : Inv) (m : Nat) (ks : List Tmp) (n i : Nat) (K : Post) (s : Nat) (l : List (Tmp × AV)) (ms : List Nat) (H : Heap) : AtK (itK P m ks n K) (.exit i) ⟨s,l,ms⟩ H = bindO (nf (ks.filterMap fun k => (assoc k l).map fun v => (k,v))) fun l' => bindO (nf (H.trim n (l'.map (·.2)) ms)) fun H' => AtK K (.exit i) ⟨s,l',ms⟩ H' := rfl
@[go_sem ↓] theorem itK_ret (P : Inv) (m : Nat) (ks : List Tmp) (n : Nat) (K : Post) (a : AAct) (H : Heap) : AtK (itK P m ks n K) .ret a H = AtK K .ret a H := rfl
theorem Lp_rule {ks : List Tmp} {c : Code} {K : Post} (P : Inv) (hstep : ∀ m a H,P m a H → Wp C me rd c a H (itK P m ks H.size K)) : ∀ m a H,P m a H → Lp C me rd ks c a H K := by
 intro m
 induction m using Nat.strongRecOn with
 | _ m ih =>
  intro a H hp
  rw [Lp_step]
  refine Wp_mono (hstep m a H hp) ?_
  intro e a' H' h
  cases e with
  | normal =>
   obtain ⟨m',hm,hp'⟩ := h
   exact ih m' hm _ _ hp'
  | exit i => exact h
  | ret => exact h
theorem Lp_ruleQ {ks : List Tmp} {c : Code} {K : Post} (P : Inv) (hstep : ∀ (Q : Inv) (KK : Post),(∀ m a H,P m a H → Q m a H) → (∀ e a H,AtK K e a H → AtK KK e a H) → ∀ m a H,P m a H → Wp C me rd c a H (itK Q m ks H.size KK)) : ∀ m a H,P m a H → Lp C me rd ks c a H K :=
 Lp_rule P (hstep P K (fun _ _ _ h => h) (fun _ _ _ h => h))
theorem Again.mk' {P : Inv} {m : Nat} {a : AAct} {H : Heap} (m' : Nat) (h : m' < m) (hp : P m' a H) : Again P m a H := ⟨m',h,hp⟩
end
end Go.Ev
namespace Go.Ev
abbrev Fm := List (Nat × AObj)
def Has (m : Fm) (H : Heap) : Prop := ∀ p ∈ m,H.get p.1 = some p.2
def keyIn (b : Nat) (m : Fm) : Prop := ∃ p ∈ m,p.1 = b
def Anch (n0 : Nat) (m : Fm) : Prop := ∀ n,n0 ≤ n → (∃ p ∈ m,n ≤ p.1) → ∃ p ∈ m,p.1 < n ∧ n < p.2.bound
structure Moves (m : Fm) (H : Heap) (m' : Fm) (H' : Heap) : Prop where
 lock : H'.lock = H.lock
 size : H.size ≤ H'.size
 same : ∀ b,b < H.size → ¬ keyIn b m → H'.get b = H.get b
 keys : ∀ p ∈ m',keyIn p.1 m ∨ H.size ≤ p.1
theorem boundsOk_getI {n : Nat} : ∀ {l : List (Option AObj)} {b : Nat} {o : AObj},boundsOk n l = true → l[b]? = some (some o) → o.bound ≤ n
 | [],b,o,_,h => by simp at h
 | none :: r,0,o,_,h => by simp at h
 | none :: r,b + 1,o,hb,h => boundsOk_getI (l := r) (b := b) (by simpa [boundsOk] using hb) (by simpa using h)
 | some x :: r,0,o,hb,h => by
  simp at h;subst h
  simp only [boundsOk,Bool.and_eq_true] at hb
  exact Nat.le_of_ble_eq_true hb.1
 | some x :: r,b + 1,o,hb,h => by
  simp only [boundsOk,Bool.and_eq_true] at hb
  exact boundsOk_getI (l := r) (b := b) hb.2 (by simpa using h)
theorem trim_cases (H : Heap) (n : Nat) (vs : List AV) (ms : List Nat) : H.trim n vs ms = H ∨ (H.trim n vs ms = { H with objs := H.objs.take n } ∧ boundsOk n (H.objs.take n) = true) := by
 unfold Heap.trim
 split
 ·rename_i h
  simp only [Bool.and_eq_true] at h
  exact Or.inr ⟨rfl,h.1.2⟩
 ·exact Or.inl rfl
theorem take_get {H : Heap} {n b : Nat} (h : b < n) : (Heap.mk (H.objs.take n) H.lock).get b = H.get b := by
 unfold Heap.get;simp only;rw [List.getElem?_take,if_pos h]
theorem get_objs {H : Heap} {b : Nat} {o : AObj} (h : H.get b = some o) : H.objs[b]? = some (some o) := by
 unfold Heap.get at h
 cases hb : H.objs[b]? with
 | none => rw [hb] at h;cases h
 | some x => rw [hb] at h;cases x with
  | none => cases h
  | some y => cases h;rfl
theorem Has.trim {m : Fm} {H : Heap} {n0 n : Nat} (h : Has m H) (ha : Anch n0 m) (hn : n0 ≤ n) (vs : List AV) (ms : List Nat) : Has m (H.trim n vs ms) := by
 rcases trim_cases H n vs ms with h1 | ⟨h1,h2⟩
 ·rw [h1];exact h
 ·rw [h1]
  have key : ∀ p ∈ m,p.1 < n := by
   intro p hp
   rcases Nat.lt_or_ge p.1 n with hlt | hge
   ·exact hlt
   ·obtain ⟨q,hq,hq1,hq2⟩ := ha n hn ⟨p,hp,hge⟩
    have := boundsOk_getI h2 (b := q.1) (o := q.2) (by rw [List.getElem?_take,if_pos hq1];exact get_objs (h q hq))
    omega
  intro p hp
  show (Heap.mk (H.objs.take n) H.lock).get p.1 = _
  rw [take_get (key p hp)];exact h p hp
theorem Has.settle {m : Fm} {H : Heap} (h : Has m H) (n : Nat) : Has m (settleH n H) := by
 unfold settleH
 split
 ·rename_i hn
  have key : ∀ p ∈ m,p.1 < n := by
   intro p hp
   rcases Nat.lt_or_ge p.1 n with hlt | hge
   ·exact hlt
   ·have h1 := get_objs (h p hp)
    have h2 : (H.objs.drop n)[p.1 - n]? = some (some p.2) := by rw [List.getElem?_drop,show n + (p.1 - n) = p.1 by omega];exact h1
    have := List.all_eq_true.1 hn _ (List.mem_of_getElem? h2)
    simp at this
  intro p hp
  show (Heap.mk (H.objs.take n) H.lock).get p.1 = _
  rw [take_get (key p hp)];exact h p hp
 ·exact h
theorem Moves.refl (m : Fm) (H : Heap) : Moves m H m H := ⟨rfl,Nat.le_refl _,fun _ _ _ => rfl,fun p hp => Or.inl ⟨p,hp,rfl⟩⟩
theorem Moves.trans {m m' m'' : Fm} {H H' H'' : Heap} (h : Moves m H m' H') (k : Moves m' H' m'' H'') : Moves m H m'' H'' := by
 refine ⟨k.lock.trans h.lock,Nat.le_trans h.size k.size,fun b hb hm => ?_,fun p hp => ?_⟩
 ·have h1 : ¬ keyIn b m' := by
   rintro ⟨p,hp,rfl⟩
   rcases h.keys p hp with h2 | h2
   ·exact hm h2
   ·omega
  rw [k.same b (Nat.lt_of_lt_of_le hb h.size) h1,h.same b hb hm]
 ·rcases k.keys p hp with ⟨q,hq,he⟩ | h2
  ·rcases h.keys q hq with h3 | h3
   ·exact Or.inl (he ▸ h3)
   ·exact Or.inr (he ▸ h3)
  ·exact Or.inr (Nat.le_trans h.size h2)
theorem Moves.trim {m m' : Fm} {H H' : Heap} (h : Moves m H m' H') (vs : List AV) (ms : List Nat) {n : Nat} (hn : n = H.size) : Moves m H m' (H'.trim n vs ms) := by
 subst hn
 rcases trim_cases H' H.size vs ms with h1 | ⟨h1, -⟩
 ·rw [h1];exact h
 ·rw [h1]
  refine ⟨h.lock, ?_,fun b hb hm => ?_,h.keys⟩
  ·show H.size ≤ (H'.objs.take H.size).length
   have := h.size
   rw [List.length_take];unfold Heap.size at *;omega
  ·show (Heap.mk (H'.objs.take H.size) H'.lock).get b = _
   rw [take_get hb];exact h.same b hb hm
theorem Moves.settle {m m' : Fm} {H H' : Heap} (h : Moves m H m' H') {n : Nat} (hn : n = H.size) : Moves m H m' (settleH n H') := by
 subst hn
 unfold settleH
 split
 ·refine ⟨h.lock, ?_,fun b hb hm => ?_,h.keys⟩
  ·show H.size ≤ (H'.objs.take H.size).length
   have := h.size
   rw [List.length_take];unfold Heap.size at *;omega
  ·show (Heap.mk (H'.objs.take H.size) H'.lock).get b = _
   rw [take_get hb];exact h.same b hb hm
 ·exact h
theorem Moves.plus (m : Fm) (H : Heap) (E : List (Option AObj)) : Moves m H m (H.plus E) :=
 ⟨rfl,by rw [plus_size];omega,fun b hb _ => plus_get E hb,fun p hp => Or.inl ⟨p,hp,rfl⟩⟩
theorem Has.plus {m : Fm} {H : Heap} (h : Has m H) (E : List (Option AObj)) : Has m (H.plus E) := fun p hp => by rw [plus_get E (get_ltS (h p hp))];exact h p hp
theorem Moves.put {m m' : Fm} {H H' : Heap} (h : Moves m H m' H') {b : Nat} (o : AObj) (hb : H.size ≤ b) (hb2 : b < H'.size) : Moves m H m' (H'.put b o) := by
 refine ⟨h.lock,by rw [put_sizeI o hb2];exact h.size,fun c hc hm => ?_,h.keys⟩
 rw [put_get_ne o (by omega) (by omega)];exact h.same c hc hm
theorem Has.put {m : Fm} {H : Heap} (h : Has m H) {b : Nat} (o : AObj) (hb : b ≤ H.size) (hm : ¬ keyIn b m) : Has m (H.put b o) := fun p hp => by
 rw [put_get_ne o hb (fun e => hm ⟨p,hp,e⟩)];exact h p hp
end Go.Ev
namespace Go.Ev
section
variable {C : Cfg} {me : FuncId} {rd : Option Nat}
def okFoot (base top w : Nat) (ft : Foot) : Bool := match ft.reads with | some l => l.all fun b => Nat.blt b base || Nat.ble top b || w.testBit (b - base) | none => false
def callFoot : Foot := ⟨some [],some [],[],false,false,0,false,noKept⟩
def idleFoot (C : Cfg) (me : FuncId) (o : Oper) (a : AAct) (slot : Nat) : Foot :=
 match o.op with
 | .call c => match c.callee with | .value _ => callFoot | _ => footA C me o a slot
 | _ => footA C me o a slot
def frOne (o : Option Foot) (f : Foot) : Bool := match o with | some g => !clash g f | none => false
def freeT (feet : List Foot) (u : List Nat) (ft : Foot) : Bool := u.all fun k => frOne (feet[k]?) ft
def ltB (a b : Nat) : Bool := decide (a < b)
def okFootT (base : Nat) (w : List Nat) (ft : Foot) : Bool := match ft.reads with | some l => l.all fun b => ltB b base || w.any fun k => b == base + k | none => false
abbrev Tab := List (List Nat × List Nat × Bool)
noncomputable def callX (C : Cfg) (me : FuncId) (d : Option Tmp) (v : AV) (l : List AV) (H : Heap) : Option (AV × Heap) :=
 match v with
 | .fn (.func f) x y => callA C (lim C) me f d (x ++ l ++ y) H
 | .yld b => (match lim C (.round b l H) with | some (.ret v H') => some (v,H') | _ => none)
 | _ => none
def kind0 (C : Cfg) (me : FuncId) (d : Option Tmp) (v : AV) (l : List AV) : Bool :=
 match v with
 | .fn (.func f) x y => (C.ext f).isNone && Nat.beq (callKind C me f d (x ++ l ++ y)) 0
 | .yld _ => true
 | _ => false
def SameOut (base top : Nat) (G G' : Heap) : Prop := ∀ b,(b < base ∨ top ≤ b) → G'.get b = G.get b
def effV (C : Cfg) (me : FuncId) (base top : Nat) (d : Option Tmp) (v : AV) (l : List AV) (G : Heap) (cont : AV → Heap → Prop) : Prop :=
 kind0 C me d v l = true ∧ ∀ Gh : Heap,Gh.lock = G.lock → Gh.size = G.size → SameOut base top G Gh → ∃ r Y,callX C me d v l Gh = some (r,Y) ∧ G.size ≤ Y.size ∧
  ∀ G' : Heap,G'.lock = G.lock → G'.size = Y.size → SameOut base top Y G' → (∀ b,base ≤ b → b < top → G'.get b = G.get b ∨ G'.get b = Y.get b) → cont r G'
def effO (C : Cfg) (me : FuncId) (base top : Nat) (o : Oper) (a : AAct) (G : Heap) (cont : AV → Heap → Prop) : Prop :=
 match o.op with
 | .call c => (match c.callee with | .value g => bindO (evals a c.args.toList) fun l => bindO (a.eval g) fun v => effV C me base top o.dst v l G cont | _ => False)
 | _ => False
def kind2 (C : Cfg) (me : FuncId) (d : Option Tmp) (v : AV) (l : List AV) : Bool :=
 match v with
 | .fn (.func f) x y => (C.ext f).isNone && Nat.beq (callKind C me f d (x ++ l ++ y)) 2
 | _ => false
def SameVis (base top : Nat) (vl : List Nat) (G G' : Heap) : Prop := ∀ b,(b < base ∨ top ≤ b ∨ (base ≤ b ∧ vl.contains (b - base) = true)) → G'.get b = G.get b
def stillV (C : Cfg) (me : FuncId) (base top : Nat) (vl : List Nat) (d : Option Tmp) (v : AV) (l : List AV) (G : Heap) (cont : AV → Heap → Prop) : Prop :=
 kind2 C me d v l = true ∧ ∃ r,(∀ Gh : Heap,Gh.lock = G.lock → Gh.size = G.size → SameVis base top vl G Gh → ∃ Y,callX C me d v l Gh = some (r,Y)) ∧ cont r G
def stillO (C : Cfg) (me : FuncId) (base top : Nat) (vl : List Nat) (o : Oper) (a : AAct) (G : Heap) (cont : AV → Heap → Prop) : Prop :=
 match o.op with
 | .call c => (match c.callee with | .value g => bindO (evals a c.args.toList) fun l => bindO (a.eval g) fun v => stillV C me base top vl o.dst v l G cont | _ => False)
 | _ => False
def stillFoot : Foot := ⟨none,some [],[],false,false,0,false,noKept⟩
def effFoot : Foot := ⟨none,none,[],false,true,0,false,noKept⟩
def drawP (C : Cfg) (me : FuncId) (arr : Array Oper) (base : Nat) : Tab → List Oper → Nat → List Foot → AAct → Heap → PostS → Prop
 | _,[],_,_,a,G,K => AtS K a G
 | tb,o :: r,i,feet,a,G,K => bindO (wantedA arr a o) fun w => iteB w
   (iteB (plainO o) (WpO C me o.dst o.op a G (base + i) fun v _ => drawP C me arr base tb.tail r (i + 1) (feet ++ [noFoot]) (a.put o.dst v) G K)
    (iteB (locOp o.op) (iteB (okFootT base (tb.headD ([],[],false)).2.1 (footA C me o a (base + i)) && freeT feet (tb.headD ([],[],false)).1 (footA C me o a (base + i)))
      (WpO C me o.dst o.op a G (base + i) fun v G' => drawP C me arr base tb.tail r (i + 1) (feet ++ [footA C me o a (base + i)]) (a.put o.dst v) G' K) False)
     (iteB (tb.headD ([],[],false)).2.2
      (iteB (tb.headD ([],[],false)).1.isEmpty (effO C me base (base + arr.toList.length) o a G fun v G' => drawP C me arr base tb.tail r (i + 1) (feet ++ [effFoot]) (a.put o.dst v) G' K)
       (iteB (freeT feet (tb.headD ([],[],false)).1 stillFoot) (stillO C me base (base + arr.toList.length) (tb.headD ([],[],false)).2.1 o a G fun v G' => drawP C me arr base tb.tail r (i + 1) (feet ++ [stillFoot]) (a.put o.dst v) G' K) False))
      (iteB (freeT feet (tb.headD ([],[],false)).1 (idleFoot C me o a (base + i)))
       (bindO (opI C me { objs := [],lock := 0 } o.dst o.op a) fun v => drawP C me arr base tb.tail r (i + 1) (feet ++ [idleFoot C me o a (base + i)]) (a.put o.dst v) G K) False))))
   (drawP C me arr base tb.tail r (i + 1) (feet ++ [noFoot]) (a.put o.dst undefA) G K)
def plainAt (l : List Oper) (i : Nat) : Bool := match l[i]? with | some o => plainO o | none => false
def rowOk (l : List Oper) (wi : Nat) (i : Nat) (u w : List Nat) : Bool := plainAt l i || ((List.range i).all fun k => wi.testBit k || plainAt l k || u.contains k) && w.all fun k => wi.testBit k
def tabOk (l : List Oper) (ws : List Nat) (tb : Tab) : Bool := (List.range l.length).all fun i => rowOk l (ws.getD i 0) i (tb.getD i ([],[],false)).1 (tb.getD i ([],[],false)).2.1
theorem clash_no (ft : Foot) : clash noFoot ft = false := by
 obtain ⟨rx,wx,fx,px,gx⟩ := ft
 have e1 : ∀ z,meet (some []) z = false := fun _ => rfl
 simp [clash,noFoot,e1]
theorem free_of {l : List Oper} {wi i : Nat} {u w : List Nat} {feet : List Foot} {ft : Foot} (hr : rowOk l wi i u w = true) (hnp : plainAt l i = false) (hp : ∀ k o,k < i → l[k]? = some o → plainO o = true → feet[k]? = some noFoot) (hf : freeT feet u ft = true) : freeOf feet wi ft i = true := by
 unfold rowOk at hr
 rw [hnp,Bool.false_or] at hr
 simp only [Bool.and_eq_true,List.all_eq_true] at hr
 have key : ∀ n,n ≤ i → freeOf feet wi ft n = true := by
  intro n
  induction n with
  | zero => intro _;rfl
  | succ k ih =>
   intro hk
   unfold freeOf
   rw [ih (by omega),Bool.and_true]
   have := hr.1 k (List.mem_range.2 (by omega))
   simp only [Bool.or_eq_true] at this
   rcases this with (h | h) | h
   ·rw [h,Bool.true_or]
   ·unfold plainAt at h
    split at h
    ·rename_i o ho
     rw [hp k o (by omega) ho h]
     simp only [clash_no,Bool.not_false,Bool.or_true]
    ·cases h
   ·have h2 := List.all_eq_true.1 hf k (by simpa using h)
    unfold frOne at h2
    rw [Bool.or_eq_true]
    exact Or.inr h2
 exact key i (Nat.le_refl _)
theorem ok_of {l : List Oper} {wi i base top : Nat} {u w : List Nat} {ft : Foot} (hr : rowOk l wi i u w = true) (hnp : plainAt l i = false) (h : okFootT base w ft = true) : okFoot base top wi ft = true := by
 unfold rowOk at hr
 rw [hnp,Bool.false_or] at hr
 simp only [Bool.and_eq_true,List.all_eq_true] at hr
 unfold okFootT at h
 unfold okFoot
 split at h
 ·rename_i rl hrl
  rw [List.all_eq_true] at h ⊢
  intro b hb
  have := h b hb
  simp only [Bool.or_eq_true] at this ⊢
  rcases this with h1 | h1
  ·left;left;exact Nat.ble_eq_true_of_le (of_decide_eq_true h1)
  ·obtain ⟨k,hk,he⟩ := List.any_eq_true.1 h1
   right
   have : b = base + k := by simpa using he
   rw [this,Nat.add_sub_cancel_left];exact hr.2 k hk
 ·cases h
theorem free_no {feet : List Foot} {w : Nat} : ∀ n,n ≤ feet.length → freeOf feet w noFoot n = true
 | 0,_ => rfl
 | k + 1,hn => by
  unfold freeOf
  rw [free_no k (by omega),Bool.and_true,Bool.or_eq_true]
  right
  cases h : feet[k]? with
  | none => exact absurd (List.getElem?_eq_none_iff.1 h) (by omega)
  | some f =>
   obtain ⟨rx,wx,fx,px,gx⟩ := f
   have e2 : ∀ r : Option (List Nat),meet r (some []) = false := by
    intro r;unfold meet;split <;> simp_all
   simp [clash,noFoot,e2]
theorem vis_of {ft : Foot} {base top w slot : Nat} {l : List Nat} (hr : ft.reads = some l) (h : okFoot base top w ft = true) : (∀ b ∈ l,visB base top w slot ft b = true) ∧ visB base top w slot ft slot = true := by
 unfold okFoot at h
 rw [hr] at h
 simp only [List.all_eq_true] at h
 refine ⟨fun b hb => ?_, ?_⟩
 ·unfold visB
  rw [hr]
  simp only [h b hb,Bool.true_and,Bool.or_eq_true]
  exact Or.inr (List.any_eq_true.2 ⟨b,hb,Nat.beq_refl b⟩)
 ·unfold visB;rw [Nat.beq_refl];rfl
theorem foot_grows {o : Oper} {a : AAct} {slot : Nat} : (footA C me o a slot).grows = false := by
 unfold footA
 split <;> try rfl
 split <;> try rfl
 split <;> try rfl
 split <;> try rfl
 split <;> rfl
theorem opI_any {o : Oper} {a : AAct} {v : AV} (hp : plainO o = false) (hl : locOp o.op = false) (h : opI C me { objs := [],lock := 0 } o.dst o.op a = some v) (slot : Nat) :
  (∀ G : Heap,opA C (lim C) me o a G slot = some (some v,G)) ∧ (footA C me o a slot).idle = true ∧ idleFoot C me o a slot = footA C me o a slot := by
 obtain ⟨dst,op,ty,pos,after,guard⟩ := o
 simp only at hl h hp
 unfold opI at h
 split at h
 ·cases hl
 ·rename_i t x l hh m
  simp only [Option.bind_eq_some_iff] at h
  obtain ⟨u,hu,l',hl',h',hh',m',hm',h⟩ := h
  have hs : ∀ G : Heap,sliceA C.P G t u l' h' m' = some v := by
   intro G
   unfold sliceI at h
   split at h
   ·cases h
   ·rename_i hne
    rw [← h]
    unfold sliceA
    cases C.P.underlying t with
    | none => cases u <;> rfl
    | some d => cases d <;> cases u <;> first | rfl | (exact absurd rfl (hne _ _ _ _ _)) | (rename_i y;cases y <;> first | rfl | (rename_i p n c;cases p <;> first | rfl | (cases n <;> first | rfl | (cases c <;> rfl))))
  refine ⟨fun G => ?_,rfl,rfl⟩
  simp only [opA,hu]
  show (match (some u),lookO a l,lookO a hh,lookO a m with | some v,some l,some h,some m => (sliceA C.P G t v l h m).map fun v => (some v,G) | _,_,_,_ => none) = _
  rw [hl',hh',hm']
  simp only [hs G,Option.map_some]
 ·rename_i c
  obtain ⟨cal,args,ts⟩ := c
  simp only at h
  split at h
  ·obtain ⟨l,hev,h⟩ := Option.bind_eq_some_iff.1 h
   have hs : ∀ G : Heap,lenA C.P G ts.toList l = some v := by
    intro G
    unfold lenI at h
    split at h
    ·cases h
    ·rename_i hne
     rw [← h]
     unfold lenA
     cases ts.toList with
     | nil => rfl
     | cons t r =>
      cases l with
      | nil => rfl
      | cons x s =>
       simp only
       cases C.P.underlying t with
       | none => cases x <;> rfl
       | some d => cases d <;> cases x <;> first | rfl | (exact absurd rfl (hne _ _)) | (rename_i y;cases y <;> first | rfl | (rename_i p;cases p <;> rfl) | (rename_i p n c;cases p <;> first | rfl | (cases n <;> first | rfl | (cases c <;> rfl))))
   refine ⟨fun G => ?_, ?_,rfl⟩
   ·simp only [opA,hev,hs G,Option.map_some]
   ·simp only [footA];rfl
  ·obtain ⟨l,hev,h⟩ := Option.bind_eq_some_iff.1 h
   refine ⟨fun G => ?_,rfl,rfl⟩
   cases l with
   | nil => cases h
   | cons x r =>
    have h : minmaxA false x r = some v := h
    simp only [opA,hev,h,Option.map_some]
  ·rename_i g
   simp only [Option.bind_eq_some_iff] at h
   obtain ⟨l,hev,gv,hg,h⟩ := h
   unfold callV at h
   split at h
   ·rename_i f x y
    unfold callI at h
    split at h
    ·rename_i hex
     cases h
     obtain ⟨h1,h2⟩ := hex.choose_spec
     have hfe : ∀ ty pos after guard,footA C me ⟨dst,.call ⟨.value g,args,ts⟩,ty,pos,after,guard⟩ a slot = callFoot := by
      intro ty pos after guard
      simp only [footA,hg,hev]
      rcases h2 with h2 | h2
      ·rw [if_pos h2];rfl
      ·split
       ·rfl
       ·rw [h2];rfl
     refine ⟨fun G => ?_, ?_, ?_⟩
     ·simp only [opA,hev,hg]
      rw [h1 G];rfl
     ·rw [hfe];rfl
     ·rw [hfe];rfl
    ·cases h
   ·cases h
  ·cases h
 ·rename_i h1 h2 h3
  have : plainO (bareO dst op) = false := hp
  rw [this] at h
  simp at h
theorem drawP_runs {arr : Array Oper} {ops : List Oper} {ws : List Nat} {base n : Nat} {K : PostS} (hnear : ∀ d,C.near me d = false) (hn : arr.toList.length = n) : ∀ (l : List Oper) (tb : Tab) (i : Nat) (feetM feet : List Foot) (a : AAct) (G : Heap),feet.length = i → feetM.length = i → i + l.length ≤ n → base + n ≤ G.size → (∀ (k : Nat) (ft : Foot),frOne (feetM[k]?) ft = true → frOne (feet[k]?) ft = true) → (∀ k,l[k]? = ops[i + k]?) →
  (∀ k,i + k < i + l.length → rowOk ops (ws.getD (i + k) 0) (i + k) (tb.getD k ([],[],false)).1 (tb.getD k ([],[],false)).2.1 = true) → (∀ k o,k < i → ops[k]? = some o → plainO o = true → feet[k]? = some noFoot) → drawP C me arr base tb l i feetM a G K →
  ∃ r,drawA C (lim C) me arr base (base + n) ws l i feet a G = some r ∧ K r.1 r.2
 | [],tb,i,feetM,feet,a,G,_,_,_,_,_,_,_,_,h => ⟨(a,G),rfl,(by unfold drawP at h;exact h)⟩
 | o :: r,tb,i,feetM,feet,a,G,hf,hfM,hi,hs,hle,hops,htb,hpl,h => by
  have hle' : ∀ f f' : Foot,(∀ ft,frOne (some f) ft = true → frOne (some f') ft = true) → ∀ (k : Nat) (ft : Foot),frOne ((feetM ++ [f])[k]?) ft = true → frOne ((feet ++ [f'])[k]?) ft = true := by
   intro f f' hff k ft hk
   rcases Nat.lt_or_ge k i with h1 | h1
   ·rw [List.getElem?_append_left (by omega)] at hk ⊢;exact hle k ft hk
   ·rw [List.getElem?_append_right (by omega)] at hk ⊢
    rw [hfM] at hk;rw [hf]
    cases hki : k - i with
    | zero => rw [hki] at hk;exact hff ft hk
    | succ z => rw [hki] at hk;simp [frOne] at hk
  have hsame : ∀ f : Foot,∀ ft,frOne (some f) ft = true → frOne (some f) ft = true := fun _ _ h => h
  have hfree : ∀ (u : List Nat) (ft : Foot),freeT feetM u ft = true → freeT feet u ft = true := fun u ft h => List.all_eq_true.2 fun k hk => hle k ft (List.all_eq_true.1 h k hk)
  have hrow := htb 0 (by simp)
  have ho0 : ops[i]? = some o := by have := hops 0;simpa using this.symm
  have hops' : ∀ k,r[k]? = ops[i + 1 + k]? := fun k => by have := hops (k + 1);rw [List.getElem?_cons_succ] at this;rw [this,show i + (k + 1) = i + 1 + k by omega]
  have htd : ∀ k,tb.tail.getD k ([],[],false) = tb.getD (k + 1) ([],[],false) := fun k => by cases tb <;> simp
  have htb' : ∀ k,i + 1 + k < i + 1 + r.length → rowOk ops (ws.getD (i + 1 + k) 0) (i + 1 + k) (tb.tail.getD k ([],[],false)).1 (tb.tail.getD k ([],[],false)).2.1 = true := fun k hk => by
   rw [htd,show i + 1 + k = i + (k + 1) by omega];exact htb (k + 1) (by simp;omega)
  have hhd : tb.getD 0 ([],[],false) = tb.headD ([],[],false) := by cases tb <;> rfl
  have hpl' : ∀ (ft : Foot),(plainO o = true → ft = noFoot) → ∀ k o',k < i + 1 → ops[k]? = some o' → plainO o' = true → (feet ++ [ft])[k]? = some noFoot := by
   intro ft hft k o' hk ho' hp
   rcases Nat.lt_or_ge k i with h1 | h1
   ·rw [List.getElem?_append_left (by omega)];exact hpl k o' h1 ho' hp
   ·have : k = i := by omega
    subst this
    rw [ho0] at ho';cases ho'
    rw [List.getElem?_append_right (by omega),hf,Nat.sub_self,hft hp];rfl
  rw [hhd,Nat.add_zero] at hrow
  have hi' : i + (r.length + 1) ≤ n := by simpa using hi
  unfold drawP at h
  rw [bindO_iff] at h
  obtain ⟨w,hw,h⟩ := h
  unfold drawA stepD
  rw [hw]
  cases w
  ·simp only [iteB_false] at h
   simp only
   rw [free_no i (by omega),if_pos rfl]
   exact drawP_runs hnear hn r _ (i + 1) _ _ _ G (by simp [hf]) (by simp [hfM]) (by omega) hs (hle' _ _ (hsame _)) hops' htb' (hpl' noFoot fun _ => rfl) h
  ·simp only [iteB_true] at h
   simp only
   by_cases hp : plainO o = true
   ·rw [hp] at h
    simp only [iteB_true] at h
    rw [if_pos hp]
    unfold WpO at h
    rw [bindO_iff,← opA_same] at h
    obtain ⟨⟨v,G1⟩,hop,h⟩ := h
    rw [hop]
    simp only
    rw [free_no i (by omega),if_pos rfl]
    exact drawP_runs hnear hn r _ (i + 1) _ _ _ G (by simp [hf]) (by simp [hfM]) (by omega) hs (hle' _ _ (hsame _)) hops' htb' (hpl' noFoot fun _ => rfl) h
   ·have hp' : plainO o = false := by simpa using hp
    rw [hp'] at h
    simp only [iteB_false] at h
    rw [if_neg hp]
    have hnp : plainAt ops i = false := by unfold plainAt;rw [ho0];exact hp'
    by_cases hl : locOp o.op = true
    ·rw [hl] at h
     simp only [iteB_true] at h
     generalize hft : footA C me o a (base + i) = ft at h ⊢
     cases hokT : okFootT base (tb.headD ([],[],false)).2.1 ft && freeT feetM (tb.headD ([],[],false)).1 ft
     ·rw [hokT] at h;exact h.elim
     ·rw [hokT] at h
      simp only [iteB_true] at h
      simp only [Bool.and_eq_true] at hokT
      have hok : okFoot base (base + n) (ws.getD i 0) ft = true ∧ freeOf feet (ws.getD i 0) ft i = true := ⟨ok_of hrow hnp hokT.1,free_of hrow hnp hpl (hfree _ _ hokT.2)⟩
      unfold WpO at h
      rw [bindO_iff,← opA_same] at h
      obtain ⟨⟨v,G1⟩,hop,h⟩ := h
      obtain ⟨reads,hr,eff,he1,he2,he3⟩ := opA_loc hl hop
      rw [hft] at hr
      obtain ⟨hv1,hv2⟩ := vis_of (slot := base + i) hr hok.1
      generalize hvis : visB base (base + n) (ws.getD i 0) (base + i) ft = vis at hv1 hv2 ⊢
      have hrl : ∀ b ∈ reads,b < G.size → (G.hide vis).get b = G.get b := fun b hb hbs => by rw [hide_get,if_pos hbs,if_pos (hv1 b hb)]
      have hrl2 : ∀ b ∈ reads,(G.hide vis).get b = G.get b := fun b hb => by
       rcases Nat.lt_or_ge b G.size with h1 | h1
       ·exact hrl b hb h1
       ·rw [hide_get,if_neg (by omega),get_none (by omega)]
      have hrun := he3 (G.hide vis) rfl hrl2
      simp only at hrun
      rw [hrun]
      simp only
      have heff : ∀ b o',eff = some (b,o') → b < G.size ∧ vis b = true := by
       intro b o' he
       rcases he1 b o' he with ⟨h1,h2⟩ | h1
       ·obtain ⟨o2,ho2⟩ := Option.isSome_iff_exists.1 h2
        exact ⟨get_ltS ho2,hv1 b h1⟩
       ·subst h1;exact ⟨by omega,hv2⟩
      obtain ⟨hm1,hm2,hm3⟩ := merge_putO heff
      have hg : ({ ft with grows := false } : Foot) = ft := by rw [← hft];have := foot_grows (C := C) (me := me) (o := o) (a := a) (slot := base + i);cases hq : footA C me o a (base + i);rw [hq] at this;simp only at this;subst this;rfl
      have hcont := drawP_runs (n := n) (ws := ws) (ops := ops) hnear hn r _ (i + 1) _ (feet ++ [ft]) _ G1 (by simp [hf]) (by simp [hfM]) (by omega) (by rw [he2,hm3];exact hs) (hle' _ _ (hsame _)) hops' htb' (hpl' ft fun h => absurd h hp) h
      by_cases hid : ft.idle = true
      ·rw [if_pos hid]
       have hG1 : G1 = G := by
        have hW : ∃ W,(footA C me o a (base + i)).writes = some W ∧ W ++ (footA C me o a (base + i)).fresh = [] := by
         rw [hft]
         unfold Foot.idle at hid
         split at hid
         ·rename_i hw;exact ⟨[],hw,by simpa using hid⟩
         ·cases hid
        obtain ⟨W,hW1,hW2⟩ := hW
        have := opA_keeps hop (by omega) hW1
        rw [hW2] at this
        exact heap_ext this.1 this.2.1 fun b => this.2.2 b (by simp)
       simp only [footI,hnear,Bool.false_eq_true,if_false]
       simp only [hok.2,if_true]
       rw [hG1] at hcont
       exact hcont
      ·rw [if_neg hid,hm2,Nat.ble_eq_true_of_le (Nat.le_refl _)]
       simp only [footN,hnear,Bool.false_eq_true,if_false]
       simp only [if_true,hm1,Nat.beq_refl,Bool.not_true,hg,hok.2]
       rw [he2] at hcont
       exact hcont
    ·have hl' : locOp o.op = false := by simpa using hl
     rw [hl'] at h
     simp only [iteB_false] at h
     cases hflag : (tb.headD ([],[],false)).2.2
     case false =>
      rw [hflag] at h
      simp only [iteB_false] at h
      generalize hft : idleFoot C me o a (base + i) = ft at h
      cases hokT : freeT feetM (tb.headD ([],[],false)).1 ft
      ·rw [hokT] at h;exact h.elim
      ·rw [hokT] at h
       simp only [iteB_true] at h
       have hok : freeOf feet (ws.getD i 0) ft i = true := free_of hrow hnp hpl (hfree _ _ hokT)
       rw [bindO_iff] at h
       obtain ⟨v,hv,h⟩ := h
       obtain ⟨h1,h2,h3⟩ := opI_any hp' hl' hv (base + i)
       rw [hft] at h3
       rw [← h3] at h2 ⊢
       rw [h1]
       simp only
       rw [if_pos h2]
       simp only [footI,hnear,Bool.false_eq_true,if_false]
       simp only [hok,if_true]
       exact drawP_runs hnear hn r _ (i + 1) _ _ _ G (by simp [hf]) (by simp [hfM]) (by omega) hs (hle' _ _ (hsame _)) hops' htb' (hpl' _ fun h => absurd h hp) h
     case true =>
      rw [hflag] at h
      simp only [iteB_true] at h
      cases hem : (tb.headD ([],[],false)).1.isEmpty
      ·rw [hem] at h
       simp only [iteB_false] at h
       cases hokT : freeT feetM (tb.headD ([],[],false)).1 stillFoot
       ·rw [hokT] at h;exact h.elim
       ·rw [hokT] at h
        simp only [iteB_true] at h
        have hok : freeOf feet (ws.getD i 0) stillFoot i = true := free_of hrow hnp hpl (hfree _ _ hokT)
        obtain ⟨dst,op,ty,pos,after,guard⟩ := o
        unfold stillO at h
        simp only at h
        split at h
        ·rename_i c
         split at h
         ·rename_i g hcal
          rw [bindO_iff] at h
          obtain ⟨l,hev,h⟩ := h
          rw [bindO_iff] at h
          obtain ⟨v,hg,h⟩ := h
          obtain ⟨hk,rv,hrun,h⟩ := h
          obtain ⟨cal,args,ts⟩ := c
          simp only at hcal hev
          subst hcal
          cases v <;> simp only [kind2] at hk <;> try (cases hk;done)
          rename_i f x y
          cases f <;> simp only [Bool.and_eq_true] at hk <;> try (cases hk;done)
          rename_i f
          have hft : footA C me ⟨dst,.call ⟨.value g,args,ts⟩,ty,pos,after,guard⟩ a (base + i) = stillFoot := by
           have h1 : (standA C f (x ++ l ++ y)).isSome = false := by
            have := hk.1
            unfold standA
            cases hx : C.ext f <;> rw [hx] at this <;> simp_all
           have h2 := Nat.eq_of_beq_eq_true hk.2
           simp only [footA,hg,hev,h1,h2,Bool.false_eq_true,if_false,stillFoot]
          rw [hft]
          generalize hvis : visB base (base + n) (ws.getD i 0) (base + i) stillFoot = vis
          have hwl : ∀ k,(tb.headD ([],[],false)).2.1.contains k = true → (ws.getD i 0).testBit k = true := by
           have hr2 := hrow
           unfold rowOk at hr2
           rw [hnp,Bool.false_or,Bool.and_eq_true] at hr2
           exact fun k hk => List.all_eq_true.1 hr2.2 k (List.contains_iff_mem.1 hk)
          have hvo : ∀ b,(b < base ∨ base + n ≤ b ∨ (base ≤ b ∧ (tb.headD ([],[],false)).2.1.contains (b - base) = true)) → vis b = true := by
           intro b hb
           rw [← hvis]
           unfold visB stillFoot
           simp only [Bool.and_true,Bool.or_eq_true]
           right
           rcases hb with hb | hb | hb
           ·left;left;exact Nat.ble_eq_true_of_le hb
           ·left;right;exact Nat.ble_eq_true_of_le hb
           ·right;exact hwl _ hb.2
          obtain ⟨Y,hY⟩ := hrun (G.hide vis) rfl (hide_size G vis) (fun b hb => by
           rcases Nat.lt_or_ge b G.size with h1 | h1
           ·rw [hide_get,if_pos h1,if_pos (hvo b (by rw [hn] at hb;exact hb))]
           ·rw [hide_get,if_neg (by omega),get_none (by omega)])
          have hop : opA C (lim C) me ⟨dst,.call ⟨.value g,args,ts⟩,ty,pos,after,guard⟩ a (G.hide vis) (base + i) = some (some rv,Y) := by
           simp only [opA,hev,hg]
           unfold callX at hY
           simp only at hY ⊢
           rw [hY];rfl
          rw [hop]
          simp only
          rw [if_pos (by rfl)]
          simp only [footI,hnear,Bool.false_eq_true,if_false]
          simp only [hok,if_true]
          exact drawP_runs hnear hn r _ (i + 1) _ _ _ G (by simp [hf]) (by simp [hfM]) (by omega) hs (hle' _ _ (hsame _)) hops' htb' (hpl' _ fun h => absurd h hp) h
         ·exact h.elim
        ·exact h.elim
      ·rw [hem] at h
       simp only [iteB_true] at h
       have hu : (tb.headD ([],[],false)).1 = [] := List.isEmpty_iff.1 hem
       rw [hu] at hrow
       obtain ⟨dst,op,ty,pos,after,guard⟩ := o
       unfold effO at h
       simp only at h
       split at h
       ·rename_i c
        split at h
        ·rename_i g hcal
         rw [bindO_iff] at h
         obtain ⟨l,hev,h⟩ := h
         rw [bindO_iff] at h
         obtain ⟨v,hg,h⟩ := h
         obtain ⟨hk,h⟩ := h
         obtain ⟨cal,args,ts⟩ := c
         simp only at hcal hev
         subst hcal
         have hft : footA C me ⟨dst,.call ⟨.value g,args,ts⟩,ty,pos,after,guard⟩ a (base + i) = ⟨none,none,[],false,false,0,false,noKept⟩ := by
          simp only [footA,hg,hev]
          cases v <;> simp only [kind0] at hk <;> try (cases hk;done)
          ·rename_i f x y
           cases f <;> simp only [Bool.and_eq_true] at hk <;> try (cases hk;done)
           rename_i f
           have h1 : (standA C f (x ++ l ++ y)).isSome = false := by
            have := hk.1
            unfold standA
            cases hx : C.ext f <;> rw [hx] at this <;> simp_all
           have h2 := Nat.eq_of_beq_eq_true hk.2
           simp only [h1,h2,Bool.false_eq_true,if_false]
          ·rfl
         rw [hft]
         generalize hvis : visB base (base + n) (ws.getD i 0) (base + i) ⟨none,none,[],false,false,0,false,noKept⟩ = vis
         have hvo : ∀ b,(b < base ∨ base + n ≤ b) → vis b = true := by
          intro b hb
          rw [← hvis]
          unfold visB
          simp only [Bool.and_true,Bool.or_eq_true]
          right
          rcases hb with hb | hb
          ·left;left;exact Nat.ble_eq_true_of_le hb
          ·left;right;exact Nat.ble_eq_true_of_le hb
         obtain ⟨rv,Y,hY,hYs,hcont⟩ := h (G.hide vis) rfl (hide_size G vis) (fun b hb => by
          rcases Nat.lt_or_ge b G.size with h1 | h1
          ·rw [hide_get,if_pos h1,if_pos (hvo b (by rw [hn] at hb;exact hb))]
          ·rw [hide_get,if_neg (by omega),get_none (by omega)])
         have hop : opA C (lim C) me ⟨dst,.call ⟨.value g,args,ts⟩,ty,pos,after,guard⟩ a (G.hide vis) (base + i) = some (some rv,Y) := by
          simp only [opA,hev,hg]
          unfold callX at hY
          cases v with
          | fn f x y =>
           cases f with
           | func f =>
            simp only at hY ⊢
            rw [hY];rfl
           | _ => simp at hY
          | yld b =>
           simp only at hY ⊢
           split at hY
           ·rename_i hr
            simp only [Option.some.injEq,Prod.mk.injEq] at hY
            obtain ⟨rfl,rfl⟩ := hY
            rw [hr]
           ·cases hY
          | _ => simp at hY
         rw [hop]
         simp only
         rw [if_neg (by simp [Foot.idle]),Nat.ble_eq_true_of_le hYs,if_pos rfl]
         simp only [footN,hnear,Bool.false_eq_true,if_false]
         have hok : ∀ gr : Bool,freeOf feet (ws.getD i 0) ⟨none,none,[],false,gr,0,false,noKept⟩ i = true := fun gr => free_of hrow hnp hpl rfl
         rw [hok,if_pos rfl]
         have hG' := hcont (G.merge vis Y) rfl (merge_size vis hYs) (fun b hb => by
          rw [merge_get _ hYs]
          rcases Nat.lt_or_ge b G.size with h1 | h1
          ·rw [if_pos h1,if_pos (hvo b (by rw [hn] at hb;exact hb))]
          ·rw [if_neg (by omega)]) (fun b h1 h2 => by
          rw [merge_get _ hYs]
          split
          ·split
           ·exact Or.inr rfl
           ·exact Or.inl rfl
          ·exact Or.inr rfl)
         refine drawP_runs hnear hn r _ (i + 1) _ _ _ _ (by simp [hf]) (by simp [hfM]) (by omega) (by rw [merge_size vis hYs];omega) (hle' effFoot _ ?_) hops' htb' (hpl' _ fun h => absurd h hp) hG'
         intro ft hft'
         obtain ⟨r',w',f',p',g'⟩ := ft
         unfold frOne effFoot clash at hft'
         unfold frOne clash
         simp only [Bool.not_eq_true',Bool.or_eq_false_iff,Bool.true_and] at hft' ⊢
         obtain ⟨⟨⟨⟨⟨⟨q1,q2⟩,q3⟩,q4⟩,q5⟩,q6⟩,q7⟩ := hft'
         exact ⟨⟨⟨⟨⟨⟨q1,q2⟩,q3⟩,q4⟩,q5⟩,by rw [q6,Bool.and_false]⟩,q7⟩
        ·exact h.elim
       ·exact h.elim
theorem wp_drawD {id : Nat} {ops : Array Oper} {a : AAct} {H : Heap} {K : Post} (tb : Tab) (hok : drawOk ops = true) (htb : tabOk ops.toList (waitsAll ops.toList) tb = true)
  (h : drawP C me ops H.size tb ops.toList 0 [] a ⟨H.objs ++ List.replicate ops.toList.length none,H.lock⟩ (setK C me H.size K)) (hnear : ∀ d,C.near me d = false := by intro d;rfl) : Wp C me rd (.region id ops true) a H K := by
 obtain ⟨r,h1,h2⟩ := drawP_runs (ops := ops.toList) (ws := waitsAll ops.toList) (n := ops.toList.length) hnear rfl ops.toList tb 0 [] [] a _ rfl rfl (by omega) (by unfold Heap.size;simp) (fun _ _ h => h) (fun k => by rw [Nat.zero_add]) (fun k hk => by rw [Nat.zero_add] at hk ⊢;exact List.all_eq_true.1 htb k (List.mem_range.2 (by omega))) (fun k o hk => by omega) h
 have hreg : regionA C (lim C) me ops true a H = some r := by
  unfold regionA
  unfold drawOk at hok
  simp only [if_true]
  rw [if_pos hok];exact h1
 unfold Wp
 simp only [codeA,hreg,Option.map_some,bindO_some]
 exact h2
@[congr] theorem drawP_congr {arr : Array Oper} {base : Nat} {tb : Tab} {l : List Oper} {i i' : Nat} {feet feet' : List Foot} {a a' : AAct} {G G' : Heap} {K : PostS} (hi : i = i') (hf : feet = feet') (ha : a = a') (hG : G = G') : drawP C me arr base tb l i feet a G K = drawP C me arr base tb l i' feet' a' G' K := by rw [hi,hf,ha,hG]
section eqs
variable {arr : Array Oper} {base : Nat} {tb : Tab}
@[go_sem ↓] theorem drawP_nil (i : Nat) (feet : List Foot) (a : AAct) (G : Heap) (K : PostS) : drawP C me arr base tb [] i feet a G K = AtS K a G := by unfold drawP;rfl
def plainOp (op : Op) : Bool :=
 match op with
 | .move _ | .assign _ | .pick .. | .build .. | .nilCheck _ | .binOp .. | .unOp .. | .convert .. | .makeInterface .. | .makeFunc .. | .fieldAddr .. | .field .. | .indexAddr .. | .index .. | .extract .. => true
 | _ => false
theorem plainOp_eq (o : Oper) : plainO o = plainOp o.op := rfl
def footD (C : Cfg) (me : FuncId) (d : Option Tmp) (op : Op) (a : AAct) (slot : Nat) : Foot := footA C me (bareO d op) a slot
def contP (C : Cfg) (me : FuncId) (arr : Array Oper) (base : Nat) (tb : Tab) (r : List Oper) (i : Nat) (feet : List Foot) (d : Option Tmp) (a : AAct) (K : PostS) : PostO := fun v G => drawP C me arr base tb r i feet (a.put d v) G K
def contQ (C : Cfg) (me : FuncId) (arr : Array Oper) (base : Nat) (tb : Tab) (r : List Oper) (i : Nat) (feet : List Foot) (d : Option Tmp) (a : AAct) (G : Heap) (K : PostS) : PostO := fun v _ => drawP C me arr base tb r i feet (a.put d v) G K
@[go_sem ↓] theorem contP_some (r : List Oper) (i : Nat) (feet : List Foot) (d : Tmp) (s : Nat) (l : List (Tmp × AV)) (m : List Nat) (K : PostS) (v : AV) (G : Heap) : AtO (contP C me arr base tb r i feet (some d) ⟨s,l,m⟩ K) v G = drawP C me arr base tb r i feet ⟨s,putT s d v l,m⟩ G K := by
 unfold AtO contP;simp only [AAct.put,putT];split <;> rfl
@[go_sem ↓] theorem contP_none (r : List Oper) (i : Nat) (feet : List Foot) (a : AAct) (K : PostS) (v : AV) (G : Heap) : AtO (contP C me arr base tb r i feet none a K) v G = drawP C me arr base tb r i feet a G K := rfl
@[go_sem ↓] theorem contQ_some (r : List Oper) (i : Nat) (feet : List Foot) (d : Tmp) (s : Nat) (l : List (Tmp × AV)) (m : List Nat) (G : Heap) (K : PostS) (v : AV) (G' : Heap) : AtO (contQ C me arr base tb r i feet (some d) ⟨s,l,m⟩ G K) v G' = drawP C me arr base tb r i feet ⟨s,putT s d v l,m⟩ G K := by
 unfold AtO contQ;simp only [AAct.put,putT];split <;> rfl
def stepDP (C : Cfg) (me : FuncId) (arr : Array Oper) (base : Nat) (tb : Tab) (d : Option Tmp) (op : Op) (r : List Oper) (i : Nat) (feet : List Foot) (a : AAct) (G : Heap) (K : PostS) : Prop :=
 iteB (plainOp op) (WpO C me d op a G 0 (contQ C me arr base tb.tail r (i + 1) (feet ++ [noFoot]) d a G K))
  (iteB (locOp op) (iteB (okFootT base (tb.headD ([],[],false)).2.1 (footD C me d op a (base + i)) && freeT feet (tb.headD ([],[],false)).1 (footD C me d op a (base + i)))
    (WpO C me d op a G (base + i) (contP C me arr base tb.tail r (i + 1) (feet ++ [footD C me d op a (base + i)]) d a K)) False)
   (iteB (tb.headD ([],[],false)).2.2
    (iteB (tb.headD ([],[],false)).1.isEmpty (effO C me base (base + arr.toList.length) (bareO d op) a G (contP C me arr base tb.tail r (i + 1) (feet ++ [effFoot]) d a K)) (iteB (freeT feet (tb.headD ([],[],false)).1 stillFoot) (stillO C me base (base + arr.toList.length) (tb.headD ([],[],false)).2.1 (bareO d op) a G (contP C me arr base tb.tail r (i + 1) (feet ++ [stillFoot]) d a K)) False))
    (iteB (freeT feet (tb.headD ([],[],false)).1 (idleFoot C me (bareO d op) a (base + i)))
     (WpJ C me d op a { objs := [],lock := 0 } (contQ C me arr base tb.tail r (i + 1) (feet ++ [idleFoot C me (bareO d op) a (base + i)]) d a G K)) False)))
@[congr] theorem stepDP_congr {d : Option Tmp} {op : Op} {r : List Oper} {i i' : Nat} {feet feet' : List Foot} {a a' : AAct} {G G' : Heap} {K : PostS} (hi : i = i') (hf : feet = feet') (ha : a = a') (hG : G = G') : stepDP C me arr base tb d op r i feet a G K = stepDP C me arr base tb d op r i' feet' a' G' K := by rw [hi,hf,ha,hG]
theorem drawP_step (o : Oper) (r : List Oper) (i : Nat) (feet : List Foot) (a : AAct) (G : Heap) (K : PostS) :
  drawP C me arr base tb (o :: r) i feet a G K = bindO (wantedA arr a o) fun w => iteB w (stepDP C me arr base tb o.dst o.op r i feet a G K) (drawP C me arr base tb.tail r (i + 1) (feet ++ [noFoot]) (a.put o.dst undefA) G K) := by
 have e1 : ∀ s,footA C me o a s = footD C me o.dst o.op a s := fun s => rfl
 have e2 : ∀ s,idleFoot C me o a s = idleFoot C me (bareO o.dst o.op) a s := fun s => rfl
 conv => lhs;unfold drawP
 unfold stepDP
 rw [plainOp_eq,e1,e2]
 congr 1
 funext w
 cases w
 ·rfl
 ·simp only [iteB_true]
  cases hp : plainOp o.op
  ·simp only [iteB_false]
   rfl
  ·simp only [iteB_true]
   unfold WpO
   have := plain_slot (C := C) (me := me) (o := bareO o.dst o.op) hp a G (base + i) 0
   show bindO (opA C (lim C) me (bareO o.dst o.op) a G (base + i)) _ = bindO (opA C (lim C) me (bareO o.dst o.op) a G 0) _
   rw [this];rfl
@[go_sem ↓] theorem drawP_op (d : Option Tmp) (op : Op) (ty : TypeId) (p : String) (af : Array Edge) (r : List Oper) (i : Nat) (feet : List Foot) (a : AAct) (G : Heap) (K : PostS) :
  drawP C me arr base tb (⟨d,op,ty,p,af,none⟩ :: r) i feet a G K = stepDP C me arr base tb d op r i feet a G K := by
 rw [drawP_step];rfl
@[go_sem ↓] theorem stepDP_move (d : Option Tmp) (x) (r : List Oper) (i : Nat) (feet : List Foot) (a : AAct) (G : Heap) (K : PostS) : stepDP C me arr base tb d (.move x) r i feet a G K = WpO C me d (.move x) a G 0 (contQ C me arr base tb.tail r (i + 1) (feet ++ [noFoot]) d a G K) := rfl
@[go_sem ↓] theorem stepDP_assign (d : Option Tmp) (x) (r : List Oper) (i : Nat) (feet : List Foot) (a : AAct) (G : Heap) (K : PostS) : stepDP C me arr base tb d (.assign x) r i feet a G K = WpO C me d (.assign x) a G 0 (contQ C me arr base tb.tail r (i + 1) (feet ++ [noFoot]) d a G K) := rfl
@[go_sem ↓] theorem stepDP_build (d : Option Tmp) (t y) (r : List Oper) (i : Nat) (feet : List Foot) (a : AAct) (G : Heap) (K : PostS) : stepDP C me arr base tb d (.build t y) r i feet a G K = WpO C me d (.build t y) a G 0 (contQ C me arr base tb.tail r (i + 1) (feet ++ [noFoot]) d a G K) := rfl
@[go_sem ↓] theorem stepDP_binOp (d : Option Tmp) (o t x y z) (r : List Oper) (i : Nat) (feet : List Foot) (a : AAct) (G : Heap) (K : PostS) : stepDP C me arr base tb d (.binOp o t x y z) r i feet a G K = WpO C me d (.binOp o t x y z) a G 0 (contQ C me arr base tb.tail r (i + 1) (feet ++ [noFoot]) d a G K) := rfl
@[go_sem ↓] theorem stepDP_fieldAddr (d : Option Tmp) (t x j) (r : List Oper) (i : Nat) (feet : List Foot) (a : AAct) (G : Heap) (K : PostS) : stepDP C me arr base tb d (.fieldAddr t x j) r i feet a G K = WpO C me d (.fieldAddr t x j) a G 0 (contQ C me arr base tb.tail r (i + 1) (feet ++ [noFoot]) d a G K) := rfl
@[go_sem ↓] theorem stepDP_indexAddr (d : Option Tmp) (t x y) (r : List Oper) (i : Nat) (feet : List Foot) (a : AAct) (G : Heap) (K : PostS) : stepDP C me arr base tb d (.indexAddr t x y) r i feet a G K = WpO C me d (.indexAddr t x y) a G 0 (contQ C me arr base tb.tail r (i + 1) (feet ++ [noFoot]) d a G K) := rfl
@[go_sem ↓] theorem stepDP_load (d : Option Tmp) (t x) (r : List Oper) (i : Nat) (feet : List Foot) (a : AAct) (G : Heap) (K : PostS) : stepDP C me arr base tb d (.load t x) r i feet a G K = bindO (nf (footD C me d (.load t x) a (base + i))) fun ft => iteB (okFootT base (tb.headD ([],[],false)).2.1 ft && freeT feet (tb.headD ([],[],false)).1 ft) (WpO C me d (.load t x) a G (base + i) (contP C me arr base tb.tail r (i + 1) (feet ++ [ft]) d a K)) False := rfl
@[go_sem ↓] theorem stepDP_store (d : Option Tmp) (t x y) (r : List Oper) (i : Nat) (feet : List Foot) (a : AAct) (G : Heap) (K : PostS) : stepDP C me arr base tb d (.store t x y) r i feet a G K = bindO (nf (footD C me d (.store t x y) a (base + i))) fun ft => iteB (okFootT base (tb.headD ([],[],false)).2.1 ft && freeT feet (tb.headD ([],[],false)).1 ft) (WpO C me d (.store t x y) a G (base + i) (contP C me arr base tb.tail r (i + 1) (feet ++ [ft]) d a K)) False := rfl
@[go_sem ↓] theorem stepDP_buildSlice (d : Option Tmp) (t n x) (r : List Oper) (i : Nat) (feet : List Foot) (a : AAct) (G : Heap) (K : PostS) : stepDP C me arr base tb d (.buildSlice t n x) r i feet a G K = bindO (nf (footD C me d (.buildSlice t n x) a (base + i))) fun ft => iteB (okFootT base (tb.headD ([],[],false)).2.1 ft && freeT feet (tb.headD ([],[],false)).1 ft) (WpO C me d (.buildSlice t n x) a G (base + i) (contP C me arr base tb.tail r (i + 1) (feet ++ [ft]) d a K)) False := rfl
@[go_sem ↓] theorem stepDP_append (d : Option Tmp) (args ts) (r : List Oper) (i : Nat) (feet : List Foot) (a : AAct) (G : Heap) (K : PostS) : stepDP C me arr base tb d (.call ⟨.builtin .append,args,ts⟩) r i feet a G K = bindO (nf (footD C me d (.call ⟨.builtin .append,args,ts⟩) a (base + i))) fun ft => iteB (okFootT base (tb.headD ([],[],false)).2.1 ft && freeT feet (tb.headD ([],[],false)).1 ft) (WpO C me d (.call ⟨.builtin .append,args,ts⟩) a G (base + i) (contP C me arr base tb.tail r (i + 1) (feet ++ [ft]) d a K)) False := rfl
@[go_sem ↓] theorem stepDP_slice (d : Option Tmp) (t x l h m) (r : List Oper) (i : Nat) (feet : List Foot) (a : AAct) (G : Heap) (K : PostS) : stepDP C me arr base tb d (.slice t x l h m) r i feet a G K = iteB (tb.headD ([],[],false)).2.2 (iteB (tb.headD ([],[],false)).1.isEmpty (effO C me base (base + arr.toList.length) (bareO d (.slice t x l h m)) a G (contP C me arr base tb.tail r (i + 1) (feet ++ [effFoot]) d a K)) (iteB (freeT feet (tb.headD ([],[],false)).1 stillFoot) (stillO C me base (base + arr.toList.length) (tb.headD ([],[],false)).2.1 (bareO d (.slice t x l h m)) a G (contP C me arr base tb.tail r (i + 1) (feet ++ [stillFoot]) d a K)) False)) (bindO (nf (idleFoot C me (bareO d (.slice t x l h m)) a (base + i))) fun ft => iteB (freeT feet (tb.headD ([],[],false)).1 ft) (WpJ C me d (.slice t x l h m) a { objs := [],lock := 0 } (contQ C me arr base tb.tail r (i + 1) (feet ++ [ft]) d a G K)) False) := rfl
@[go_sem ↓] theorem stepDP_callv (d : Option Tmp) (g args ts) (r : List Oper) (i : Nat) (feet : List Foot) (a : AAct) (G : Heap) (K : PostS) : stepDP C me arr base tb d (.call ⟨.value g,args,ts⟩) r i feet a G K = iteB (tb.headD ([],[],false)).2.2 (iteB (tb.headD ([],[],false)).1.isEmpty (effO C me base (base + arr.toList.length) (bareO d (.call ⟨.value g,args,ts⟩)) a G (contP C me arr base tb.tail r (i + 1) (feet ++ [effFoot]) d a K)) (iteB (freeT feet (tb.headD ([],[],false)).1 stillFoot) (stillO C me base (base + arr.toList.length) (tb.headD ([],[],false)).2.1 (bareO d (.call ⟨.value g,args,ts⟩)) a G (contP C me arr base tb.tail r (i + 1) (feet ++ [stillFoot]) d a K)) False)) (bindO (nf (idleFoot C me (bareO d (.call ⟨.value g,args,ts⟩)) a (base + i))) fun ft => iteB (freeT feet (tb.headD ([],[],false)).1 ft) (WpJ C me d (.call ⟨.value g,args,ts⟩) a { objs := [],lock := 0 } (contQ C me arr base tb.tail r (i + 1) (feet ++ [ft]) d a G K)) False) := rfl
def objsE (o : Option AV) : List Nat := match o with | some v => objsOf v | none => []
@[go_sem] theorem objsE_some (v : AV) : objsE (some v) = objsOf v := rfl
@[go_sem] theorem objs_ptr (b v k : Nat) : objsOf (.ptr b v k) = [b] := rfl
@[go_sem] theorem objs_sl (b v o n : Nat) (c : Option Nat) : objsOf (.sl b v o n c) = [b] := rfl
@[go_sem] theorem objs_v (x : Value) : objsOf (.v x) = [] := rfl
@[go_sem] theorem objs_vs (s : Nat) (l : List AV) (c : Option Nat) : objsOf (.vs s l c) = [] := rfl
@[go_sem] theorem objs_ro (x : AV) (k : Nat) : objsOf (.ro x k) = [] := rfl
def objsL (a : AAct) : List Operand → List Nat
 | [] => []
 | x :: r => objsE (a.eval x) ++ objsL a r
theorem objsL_eq (a : AAct) : ∀ l : List Operand,l.flatMap (objsO a) = objsL a l
 | [] => rfl
 | x :: r => by rw [List.flatMap_cons,objsL_eq a r];rfl
@[go_sem] theorem objsL_nil (a : AAct) : objsL a [] = [] := rfl
@[go_sem] theorem objsL_cons (a : AAct) (x : Operand) (r : List Operand) : objsL a (x :: r) = objsE (a.eval x) ++ objsL a r := rfl
def objs1 (a : AAct) (l : List Operand) : List Nat := match l with | [] => [] | x :: _ => objsE (a.eval x)
@[go_sem] theorem objs1_cons (a : AAct) (x : Operand) (r : List Operand) : objs1 a (x :: r) = objsE (a.eval x) := rfl
@[go_sem] theorem footD_load (d : Option Tmp) (t x) (a : AAct) (s : Nat) : footD C me d (.load t x) a s = ⟨some (objsE (a.eval x)),some [],[],false,false,0,false,noKept⟩ := rfl
@[go_sem] theorem footD_store (d : Option Tmp) (t x y) (a : AAct) (s : Nat) : footD C me d (.store t x y) a s = ⟨some (objsE (a.eval x)),some (objsE (a.eval x)),[],false,false,0,false,noKept⟩ := rfl
@[go_sem] theorem footD_build (d : Option Tmp) (t n x) (a : AAct) (s : Nat) : footD C me d (.buildSlice t n x) a s = ⟨some [],some [],[s],false,false,0,false,noKept⟩ := rfl
@[go_sem] theorem footD_append (d : Option Tmp) (args ts) (a : AAct) (s : Nat) : footD C me d (.call ⟨.builtin .append,args,ts⟩) a s = ⟨some (objsL a args.toList),some (objs1 a args.toList),[s],false,false,0,false,noKept⟩ := by
 unfold footD footA bareO;simp only
 rw [objsL_eq]
 cases args.toList <;> rfl
@[go_sem] theorem idleFoot_slice (d : Option Tmp) (t x l h m) (a : AAct) (s : Nat) : idleFoot C me (bareO d (.slice t x l h m)) a s = ⟨some (objsE (a.eval x)),some [],[],false,false,0,false,noKept⟩ := rfl
@[go_sem] theorem idleFoot_call (d : Option Tmp) (g args ts) (a : AAct) (s : Nat) : idleFoot C me (bareO d (.call ⟨.value g,args,ts⟩)) a s = ⟨some [],some [],[],false,false,0,false,noKept⟩ := rfl
@[go_sem] theorem okFootT_mk (b : Nat) (w l : List Nat) (x : Option (List Nat)) (f : List Nat) (p g : Bool) (n : Nat) (q : Bool) : okFootT b w ⟨some l,x,f,p,g,n,q,noKept⟩ = l.all fun c => ltB c b || w.any fun k => c == b + k := rfl
@[go_sem] theorem freeT_nil (feet : List Foot) (ft : Foot) : freeT feet [] ft = true := rfl
@[go_sem] theorem freeT_cons (feet : List Foot) (k : Nat) (u : List Nat) (ft : Foot) : freeT feet (k :: u) ft = (frOne (feet[k]?) ft && freeT feet u ft) := rfl
def meetL (l : List Nat) (m : List Nat) : Bool := l.any fun x => m.any fun y => x == y
@[go_sem] theorem meetL_nil (m : List Nat) : meetL [] m = false := rfl
@[go_sem] theorem meetL_nilr (l : List Nat) : meetL l [] = false := by unfold meetL;induction l <;> simp_all
theorem meet_L : ∀ l m : List Nat,meet (some l) (some m) = meetL l m
 | [],_ => rfl
 | x :: l,[] => by rw [meetL_nilr];rfl
 | x :: l,y :: m => by
  show ((x :: l).any (y :: m).contains) = _
  unfold meetL
  congr 1
  funext z
  exact List.contains_eq_any_beq
theorem keptL (r w : Option (List Nat)) (g : List Nat) (p gr q : Bool) (n : Nat) (l m : List Nat) : (meetL l m && !(keptAll ⟨r,w,g,p,gr,n,q,noKept⟩ (some m))) = meetL l m := by
 cases m with
 | nil => rw [meetL_nilr];rfl
 | cons x m => simp [keptAll,noKept]
theorem keptL' (r w : Option (List Nat)) (g : List Nat) (p gr q : Bool) (n : Nat) (l m : List Nat) : (meetL m l && !(keptAll ⟨r,w,g,p,gr,n,q,noKept⟩ (some m))) = meetL m l := by
 cases m with
 | nil => rfl
 | cons x m => simp [keptAll,noKept]
@[go_sem] theorem frOne_mk (r w f : List Nat) (p : Bool) (r' w' f' : List Nat) (p' : Bool) (n n' : Nat) (q q' : Bool) : frOne (some ⟨some r,some w,f,p,false,n,q,noKept⟩) ⟨some r',some w',f',p',false,n',q',noKept⟩ = !(meetL w r' || meetL w w' || meetL r w' || meetL f r' || meetL f w') := by
 unfold frOne clash
 simp only [meet_L,Bool.false_and,Bool.or_false]
 rw [keptL,keptL']
@[go_sem] theorem ltB_zero (n : Nat) : ltB 0 (n + 1) = true := by simp [ltB]
@[go_sem] theorem ltB_succ (a n : Nat) : ltB (a + 1) (n + 1) = ltB a n := by simp [ltB]
@[go_sem] theorem tail_tab (x : List Nat × List Nat × Bool) (tb : Tab) : (x :: tb).tail = tb := rfl
@[congr] theorem stillV_congr {top : Nat} {vl : List Nat} {d : Option Tmp} {v v' : AV} {l l' : List AV} {G G' : Heap} {cont : AV → Heap → Prop} (hv : v = v') (hl : l = l') (hG : G = G') : stillV C me base top vl d v l G cont = stillV C me base top vl d v' l' G' cont := by rw [hv,hl,hG]
@[congr] theorem effV_congr {top : Nat} {d : Option Tmp} {v v' : AV} {l l' : List AV} {G G' : Heap} {cont : AV → Heap → Prop} (hv : v = v') (hl : l = l') (hG : G = G') : effV C me base top d v l G cont = effV C me base top d v' l' G' cont := by rw [hv,hl,hG]
end eqs
end
end Go.Ev
namespace Go.Ev
section
variable {P : Program}
def appTo (e sz by' : Nat) (H : Heap) (slot n : Nat) (new : List AV) (s : AV) : Option (AV × Heap) :=
 match s with
 | .v (.slice none 0 0) => if n = 0 then some (s,H) else (if fitsA by' n && ([] : List AV).all AV.flat then some (.sl slot 0 0 n none,H.put slot (.cells 0 (Nat.max (boundL []) (boundL new)) e sz true ([] ++ new))) else none)
 | .vs z xs cap =>
  if z ≠ sz then none else
  if n = 0 then some (s,H) else
  match cap with
  | some c => if c = xs.length then (if fitsA by' (xs.length + n) && (xs.flatMap AV.cells).all AV.flat then some (.sl slot 0 0 (xs.length + n) none,H.put slot (.cells 0 (Nat.max (boundL (xs.flatMap AV.cells)) (boundL new)) e sz true (xs.flatMap AV.cells ++ new))) else none) else none
  | none => none
 | .sl b v off len cap =>
  if n = 0 then some (s,H) else
  match H.row b v with
  | some (m,e1,z,g,cs) =>
   match cap with
   | some c =>
    if len + n ≤ c then
     (match storeCells H b v (off + len * sz) new with | some H' => some (.sl b v off (len + n) cap,H') | none => none)
    else if off + len * sz ≤ cs.length then (if fitsA by' (len + n) && ((cs.drop off).take (len * sz)).all AV.flat then some (.sl slot 0 0 (len + n) none,H.put slot (.cells 0 (Nat.max (boundL ((cs.drop off).take (len * sz))) (boundL new)) e sz true ((cs.drop off).take (len * sz) ++ new))) else none) else none
   | none =>
    if z ≠ sz then none else
    if off + (len + n) * sz ≤ cs.length then
     (match storeCells H b v (off + len * sz) new with | some H' => some (.sl b v off (len + n) cap,H') | none => none)
    else if g = true ∧ off + len * sz = cs.length ∧ H.lock ≤ b ∧ fitsA by' (len + n) = true ∧ e1 = e then
     some (.sl b (v + 1) 0 (len + n) none,H.put b (.cells (v + 1) (Nat.max m (boundL new)) e sz true (cs.drop off ++ new)))
    else none
  | _ => none
 | _ => none
theorem appTo_eq (e : TypeId) (i : TypeInfo) (H : Heap) (slot n : Nat) (new : List AV) (s : AV) : appendTo H slot e i n new s = appTo e i.size i.bytes H slot n new s := by
 unfold appendTo appTo madeA
 rfl
def appG (e sz by' : Nat) (H : Heap) (slot : Nat) (s : AV) (c : Option (Nat × List AV)) : Option (AV × Heap) :=
 match c with
 | none => none
 | some (n,new) => if new.all AV.flat = false then none else appTo e sz by' H slot n new s
theorem app_eq {t u e : TypeId} {i : TypeInfo} {z : AV} (hi : isIntT P u = false) (hu : P.underlying t = some (.slice e)) (hinf : P.info? e = some i) (hz : zeroT P e = some z) (h1 : i.size ≠ 0) (h2 : i.bytes ≠ 0) (h3 : z.cells.length = i.size) (H : Heap) (slot : Nat) (s x : AV) :
  appendA P H slot [t,u] [s,x] = appG e i.size i.bytes H slot s (cellsFrom H i.size x) := by
 unfold appendA appG
 simp only [hi,hu,hinf,hz,Bool.false_eq_true,if_false]
 cases cellsFrom H i.size x with
 | none => rfl
 | some p =>
  simp only
  by_cases hf : p.2.all AV.flat = false
  ·rw [if_pos (Or.inr (Or.inr (Or.inl hf))),if_pos hf]
  ·rw [if_neg (by rintro (h | h | h | h);exact h1 h;exact h2 h;exact hf h;exact h h3),if_neg hf,appTo_eq]
theorem app_eq2 {t u e sz by' : Nat} (hi : isIntT P u = false) (hu : P.underlying t = some (.slice e)) (hinf : (P.info? e).map (fun i => (i.size,i.bytes)) = some (sz,by')) (hz : (zeroT P e).map (fun z => z.cells.length) = some sz) (h1 : sz ≠ 0) (h2 : by' ≠ 0) (H : Heap) (slot : Nat) (s x : AV) :
  appendA P H slot [t,u] [s,x] = appG e sz by' H slot s (cellsFrom H sz x) := by
 obtain ⟨i,hi1,hi2⟩ := Option.map_eq_some_iff.1 hinf
 obtain ⟨z,hz1,hz2⟩ := Option.map_eq_some_iff.1 hz
 simp only [Prod.mk.injEq] at hi2
 obtain ⟨rfl,rfl⟩ := hi2
 exact app_eq hi hu hi1 hz1 h1 h2 hz2 H slot s x
end
@[go_sem] theorem appG_some (e sz b : Nat) (H : Heap) (slot : Nat) (s : AV) (n : Nat) (new : List AV) : appG e sz b H slot s (some (n,new)) = if new.all AV.flat = false then none else appTo e sz b H slot n new s := rfl
@[go_sem] theorem cells_vs' (H : Heap) (sz z : Nat) (xs : List AV) (c : Option Nat) : cellsFrom H sz (.vs z xs c) = if z = sz then some (xs.length,xs.flatMap AV.cells) else none := rfl
@[go_sem] theorem appTo_nil (e sz b : Nat) (H : Heap) (slot n : Nat) (new : List AV) : appTo e sz b H slot n new (.v (.slice none 0 0)) = if n = 0 then some (.v (.slice none 0 0),H) else if fitsA b n = true then some (.sl slot 0 0 n none,H.put slot (.cells 0 (boundL new) e sz true new)) else none := by
 unfold appTo
 simp only [List.all_nil,Bool.and_true,List.nil_append]
 rw [show Nat.max (boundL []) (boundL new) = boundL new from Nat.zero_max (boundL new)]
theorem appTo_own {e sz b' : Nat} {H : Heap} {slot b v len n : Nat} {new : List AV} {m e' : Nat} {cs : List AV} (hr : H.row b v = some (m,e',sz,true,cs)) (hl : len * sz = cs.length) (hk : H.lock ≤ b) (hf : fitsA b' (len + n) = true) (hn : 0 < n) (hs : 0 < sz) (he : e' = e := by rfl) :
  appTo e sz b' H slot n new (.sl b v 0 len none) = some (.sl b (v + 1) 0 (len + n) none,H.put b (.cells (v + 1) (Nat.max m (boundL new)) e sz true (cs ++ new))) := by
 unfold appTo
 simp only [hr]
 rw [if_neg (by omega),if_neg (by simp),if_neg,if_pos ⟨trivial,by simpa using hl,hk,hf,he⟩]
 ·rfl
 ·have : (len + n) * sz = len * sz + n * sz := Nat.add_mul ..
  have h2 : 0 < n * sz := Nat.mul_pos hn hs
  omega
theorem appTo_none {e sz b' : Nat} {H : Heap} {slot : Nat} {new : List AV} {b v off len : Nat} {c : Option Nat} : appTo e sz b' H slot 0 new (.sl b v off len c) = some (.sl b v off len c,H) := by
 unfold appTo;rfl
@[go_sem] theorem plus_mk (l : List (Option AObj)) (k : Nat) (E : List (Option AObj)) : (Heap.mk l k).plus E = ⟨l ++ E,k⟩ := rfl
section
variable {X : Heap} {N : Nat}
end
section
variable {C : Cfg} {me : FuncId} {rd : Option Nat}
theorem wp_drawX {id : Nat} {ops : Array Oper} {a : AAct} {H : Heap} {K : Post} (tb : Tab) (hok : drawOk ops = true) (htb : tabOk ops.toList (waitsAll ops.toList) tb = true)
  (h : drawP C me ops H.size tb ops.toList 0 [] a (H.plus (List.replicate ops.toList.length none)) (setK C me H.size K)) (hnear : ∀ d,C.near me d = false := by intro d;rfl) : Wp C me rd (.region id ops true) a H K := wp_drawD tb hok htb h hnear
end
end Go.Ev
namespace Go.Ev
section
variable {P : Program}
end
end Go.Ev
namespace Go.Ev
section
variable {C : Cfg} {me : FuncId} {S : Type} {R : S → Fm → Prop} {stp : S → List AV → AExit × S} {lv : S → Prop} {ok : S → List AV → Prop} {n0 k d : Nat}
end
end Go.Ev
namespace Go.Ev
def HasE (rows : Fm) (E : List (Option AObj)) : Prop := ∀ p ∈ rows,E[p.1]? = some (some p.2)
structure MovesE (rows : Fm) (E : List (Option AObj)) (rows' : Fm) (E' : List (Option AObj)) : Prop where
 size : E.length ≤ E'.length
 same : ∀ j,j < E.length → ¬ keyIn j rows → E'[j]? = E[j]?
 keys : ∀ p ∈ rows',keyIn p.1 rows ∨ E.length ≤ p.1
theorem MovesE.refl (rows : Fm) (E : List (Option AObj)) : MovesE rows E rows E := ⟨Nat.le_refl _,fun _ _ _ => rfl,fun p hp => Or.inl ⟨p,hp,rfl⟩⟩
theorem MovesE.append (rows : Fm) (E G : List (Option AObj)) : MovesE rows E rows (E ++ G) := ⟨by simp,fun j hj _ => List.getElem?_append_left hj,fun p hp => Or.inl ⟨p,hp,rfl⟩⟩
theorem HasE.append {rows : Fm} {E : List (Option AObj)} (h : HasE rows E) (G : List (Option AObj)) : HasE rows (E ++ G) := fun p hp => by
 rw [List.getElem?_append_left (List.getElem?_eq_some_iff.1 (h p hp)).1];exact h p hp
section
variable {C : Cfg} {me : FuncId} {S : Type}
end
end Go.Ev
namespace Go.Ev
theorem ltB_n0 (a : Nat) : ltB a 0 = false := by simp [ltB]
attribute [go_sem] ltB_n0 List.any_cons List.any_nil repeatCells splice chunk bsFin ne_eq not_true_eq_false not_false_eq_true List.headD_cons Bool.false_eq_true Nat.le_refl Nat.zero_mul Nat.one_mul Nat.mul_one decide_true decide_false Bool.not_true Bool.not_false List.mem_cons List.not_mem_nil true_or or_true false_or or_false and_true true_and and_self List.getElem?_cons_succ List.getElem?_cons_zero Option.bind_some Option.map_some Option.map_none List.map_cons List.map_nil List.length_cons List.length_nil List.filterMap_cons List.filterMap_nil List.cons_append List.nil_append List.append_nil Nat.zero_add Nat.add_zero List.take_succ_cons List.take_zero List.take_nil List.drop_succ_cons List.drop_zero List.drop_nil List.all_cons List.all_nil Bool.and_true Bool.true_and Bool.false_and Bool.and_false Bool.or_true Bool.true_or Bool.or_false Bool.false_or beq_iff_eq beq_self_eq_true List.zip_cons_cons List.zip_nil_right List.zip_nil_left
end Go.Ev
namespace Go.Ev
open Go.Proofs
@[go_sem] theorem app_22 (H : Heap) (slot : Nat) (s x : AV) : appendA Tryz.prog H slot [22,22] [s,x] = appG 9 1 16 H slot s (cellsFrom H 1 x) := app_eq2 (by kernel_rfl) und_22 (by kernel_rfl) (by kernel_rfl) (by decide) (by decide) H slot s x
@[go_sem] theorem app_36 (H : Heap) (slot : Nat) (s x : AV) : appendA Tryz.prog H slot [36,36] [s,x] = appG 42 3 40 H slot s (cellsFrom H 3 x) := app_eq2 (by kernel_rfl) und_36 (by kernel_rfl) (by kernel_rfl) (by decide) (by decide) H slot s x
@[go_sem] theorem app_99 (H : Heap) (slot : Nat) (s x : AV) : appendA Tryz.prog H slot [99,99] [s,x] = appG 22 1 24 H slot s (cellsFrom H 1 x) := app_eq2 (by kernel_rfl) und_99 (by kernel_rfl) (by kernel_rfl) (by decide) (by decide) H slot s x
end Go.Ev
namespace Go.Ev
section
variable {C : Cfg} {me : FuncId} {S : Type} {R : S → Fm → Prop} {stp : S → List AV → AExit × S} {lv : S → Prop} {ok : S → List AV → Prop} {n0 k d : Nat}
end
end Go.Ev
namespace Go.Ev
open Go.Proofs
attribute [local irreducible] Wp WpS
def intA (n : Int) : AV := .v (.int .i64 n)
def strs (ws : List ByteArray) : List AV := ws.map fun s => .v (.string s)
theorem strs_get {ws : List ByteArray} {i : Nat} {s : ByteArray} (h : ws[i]? = some s) : (strs ws)[i]? = some (.v (.string s)) := by
 unfold strs;rw [List.getElem?_map,h];rfl
theorem strs_len (ws : List ByteArray) : (strs ws).length = ws.length := by simp [strs]
theorem at_lt {α : Type} (l : List α) (j : Nat) (h : j < l.length) : ∃ x,l[j]? = some x := ⟨l[j],List.getElem?_eq_getElem h⟩
theorem bound_sl (b v o n : Nat) (c : Option Nat) : bound (.sl b v o n c) = b + 1 := rfl
theorem drop_eq_cons {α : Type} {l : List α} {j : Nat} {x : α} (h : l[j]? = some x) : l.drop j = x :: l.drop (j + 1) := by
 have hj := (List.getElem?_eq_some_iff.1 h).1
 rw [List.drop_eq_getElem_cons hj,(List.getElem?_eq_some_iff.1 h).2]
theorem conv_u8 (n : Int) (h0 : 0 ≤ n) (h1 : n < 256) : convA Tryz.prog 5 3 (.v (.int .u8 n)) = some (.v (.int .i64 n)) := by
 have : convA Tryz.prog 5 3 (.v (.int .u8 n)) = some (.v (.int .i64 (IntKind.i64.wrap n))) := by kernel_rfl
 rw [this,wrap_in n (by omega) (by omega)]
theorem strAt_get {s : ByteArray} {j : Nat} {b : UInt8} (h : s.data.toList[j]? = some b) : strAt s j = some b := h
theorem strs_bd (ws : List ByteArray) : boundL (strs ws) = 0 := by
 refine Nat.le_zero.1 (boundL_le.2 fun x hx => ?_)
 obtain ⟨s, -,rfl⟩ := List.mem_map.1 hx;exact Nat.le_refl _
theorem setT_nil (n : Nat) (t : List (Tmp × AV)) : setTmps n t [] = t := rfl
theorem setT_cons (n : Nat) (t : List (Tmp × AV)) (d : Tmp) (v : AV) (r : List (Tmp × AV)) : setTmps n t ((d,v) :: r) = setTmps n (if d < n then setAssoc d v t else t) r := rfl
theorem ans64 {e : Exts} (lo hi n : Int) (cap : Option Nat) : Ans (Cx e) 64 [.agg [.v (.int .i64 lo),.v (.int .i64 hi)],.vs 1 [.v (.int .i64 n)] cap] (.v (.bool (decide (lo ≤ n) && decide (n ≤ hi)))) := by
 unfold Ans
 rw [fn_step (fn_64 e) (show Tryz.f64.body = some _ from rfl)]
 have hsl : SlOf 1 [intA n] (.vs 1 [intA n] cap) := Or.inr ⟨cap,rfl⟩
 have hlen := hsl.len
 simp -implicitDefEqProofs only [go_sem,↓reduceIte,Int.reduceEq,Int.reduceLT,Int.reduceLE,List.reduceReplicate,intA,setT_nil,setT_cons,↓boolP_bool,↓iteB_true,↓iteB_false] at hlen
 simp -implicitDefEqProofs only [Tryz.f64,go_sem,↓reduceIte,Int.reduceEq,Int.reduceLT,Int.reduceLE,List.reduceReplicate,intA,setT_nil,setT_cons,hlen,↓boolP_bool,↓iteB_true,↓iteB_false]
 refine Lp_ruleQ (P := fun μ a H => ∃ j,j + μ = 1 ∧ (0 < j → lo ≤ n ∧ n ≤ hi) ∧ a = ⟨24,[(0,.agg [intA lo,intA hi]),(1,.vs 1 [intA n] cap),(2,.ptr 0 0 0),(4,.v (.bool false)),(7,.vs 1 [intA n] cap),(8,intA 1),(9,intA (j : Nat))],[]⟩ ∧ H = ⟨[some (.cells 0 0 132 1 false [intA lo,intA hi])],0⟩) ?_ 1 _ _ ⟨0,by omega,by omega,rfl,rfl⟩
 rintro Q KK hQ hKK μ _ _ ⟨j,hj,hin,rfl,rfl⟩
 cases μ with
 | zero =>
  obtain rfl : j = 1 := by omega
  have hlt : ¬ ((1 : Nat) : Int) < 1 := by omega
  have h := hin (by omega)
  simp -implicitDefEqProofs only [go_sem,↓reduceIte,Int.reduceEq,Int.reduceLT,Int.reduceLE,List.reduceReplicate,intA,setT_nil,setT_cons,hlt,↓boolP_bool,↓iteB_true,↓iteB_false]
  refine hKK _ _ _ ?_
  simp -implicitDefEqProofs only [go_sem,↓reduceIte,Int.reduceEq,Int.reduceLT,Int.reduceLE,List.reduceReplicate,intA,setT_nil,setT_cons,h.1,h.2,decide_true,Bool.and_true,↓boolP_bool,↓iteB_true,↓iteB_false]
 | succ μ =>
  obtain rfl : j = 0 := by omega
  have hlt : ((0 : Nat) : Int) < 1 := by omega
  have hix := hsl.idx (show ([intA n] : List AV)[0]? = some (intA n) from rfl)
  have hw := wrap_succ 0 (by omega)
  simp only [intA] at hix
  by_cases hn1 : n < lo
  ·have hno : ¬ lo ≤ n := by omega
   simp -implicitDefEqProofs only [go_sem,↓reduceIte,Int.reduceEq,Int.reduceLT,Int.reduceLE,List.reduceReplicate,intA,setT_nil,setT_cons,hlt,hn1,hix,hw,decide_true,↓boolP_bool,↓iteB_true,↓iteB_false]
   refine hKK _ _ _ ?_
   simp -implicitDefEqProofs only [go_sem,↓reduceIte,Int.reduceEq,Int.reduceLT,Int.reduceLE,List.reduceReplicate,intA,setT_nil,setT_cons,hno,decide_false,Bool.false_and,↓boolP_bool,↓iteB_true,↓iteB_false]
  ·by_cases hn2 : n > hi
   ·have hno : ¬ n ≤ hi := by omega
    simp -implicitDefEqProofs only [go_sem,↓reduceIte,Int.reduceEq,Int.reduceLT,Int.reduceLE,List.reduceReplicate,intA,setT_nil,setT_cons,hlt,hn1,hn2,hix,hw,decide_true,decide_false,↓boolP_bool,↓iteB_true,↓iteB_false]
    refine hKK _ _ _ ?_
    simp -implicitDefEqProofs only [go_sem,↓reduceIte,Int.reduceEq,Int.reduceLT,Int.reduceLE,List.reduceReplicate,intA,setT_nil,setT_cons,hno,decide_false,Bool.and_false,↓boolP_bool,↓iteB_true,↓iteB_false]
   ·simp -implicitDefEqProofs only [go_sem,↓reduceIte,Int.reduceEq,Int.reduceLT,Int.reduceLE,List.reduceReplicate,intA,setT_nil,setT_cons,hlt,hix,hw,hn1,hn2,decide_false,↓boolP_bool,↓iteB_true,↓iteB_false]
    exact Again.mk' μ (by omega) (hQ _ _ _ ⟨0 + 1,by omega,fun _ => by omega,rfl,rfl⟩)
def byteB (b : UInt8) : Bool := decide ((32 : Int) ≤ b.toNat) && decide ((b.toNat : Int) ≤ 126)
def rowB (r : ByteArray) : Bool := (decide ((1 : Int) ≤ r.size) && decide ((r.size : Int) ≤ 160)) && r.data.toList.all byteB
def rowsB (l : List ByteArray) : Bool := decide (l.length ≤ 200) && l.all rowB
def FitsR (l : List ByteArray) : Prop := l.length < 2 ^ 63 ∧ ∀ r ∈ l,r.size < 2 ^ 63
theorem call64 {e : Exts} (he : Quiet e) (lo hi n : Int) (cap : Option Nat) (me : FuncId) (d : Option Tmp) (H : Heap) : callA (Cx e) (lim (Cx e)) me 64 d [.agg [.v (.int .i64 lo),.v (.int .i64 hi)],.vs 1 [.v (.int .i64 n)] cap] H = some (.v (.bool (decide (lo ≤ n) && decide (n ≤ hi))),H) :=
 (ans64 lo hi n cap).call (ext_64 he) (pure_64 _ _ _) rfl H
end Go.Ev
namespace Go.Ev
open Go.Proofs
attribute [local irreducible] Wp WpS
theorem ans50 {e : Exts} (he : Quiet e) (l : List ByteArray) (hf : FitsR l) (x : AV) (hx : SlOf 1 (strs l) x) : Ans (Cx e) 50 [x] (.v (.bool (rowsB l))) := by
 unfold Ans
 rw [fn_step (fn_50 e) (show Tryz.f50.body = some _ from rfl)]
 have hlx := hx.len
 rw [strs_len] at hlx
 have c64 := fun lo hi n cap me d H => call64 he lo hi n cap me d H
 by_cases hg : (l.length : Int) > 200
 ·have : rowsB l = false := by unfold rowsB;simp;omega
  rw [this]
  simp -implicitDefEqProofs only [Tryz.f50,go_sem,↓reduceIte,Int.reduceEq,Int.reduceLT,Int.reduceLE,List.reduceReplicate,intA,setT_nil,setT_cons,hx.cells,hx.flat,hx.bound,hlx,hg,decide_true,↓boolP_bool,↓iteB_true,↓iteB_false]
 ·simp -implicitDefEqProofs only [Tryz.f50,go_sem,↓reduceIte,Int.reduceEq,Int.reduceLT,Int.reduceLE,List.reduceReplicate,intA,setT_nil,setT_cons,hx.cells,hx.flat,hx.bound,hlx,hg,decide_false,↓boolP_bool,↓iteB_true,↓iteB_false]
  refine Lp_ruleQ (P := fun μ a H => ∃ j c,j + μ = l.length ∧ c = (l.take j).countP rowB ∧ a = ⟨50,[(0,x),(2,.v (.bool false)),(8,.v (.bool false)),(3,intA (c : Nat)),(10,intA l.length),(11,intA (j : Nat))],[]⟩ ∧ H = ⟨[],0⟩) ?_ l.length _ _ ⟨0,0,by omega,rfl,rfl,rfl⟩
  rintro Q KK hQ hKK μ _ _ ⟨j,c,hj,hc,rfl,rfl⟩
  have hcj : c ≤ j := by rw [hc];exact Nat.le_trans List.countP_le_length (by rw [List.length_take];omega)
  cases μ with
  | zero =>
   obtain rfl : j = l.length := by omega
   rw [List.take_length] at hc
   have hlt : ¬ (l.length : Int) < (l.length : Int) := by omega
   have hfin : decide ((c : Int) = (l.length : Int)) = rowsB l := by
    have h1 : decide (l.length ≤ 200) = true := by simp;omega
    unfold rowsB
    rw [h1,Bool.true_and,Bool.eq_iff_iff,decide_eq_true_iff,List.all_eq_true,← List.countP_eq_length,← hc]
    omega
   simp -implicitDefEqProofs only [go_sem,↓reduceIte,Int.reduceEq,Int.reduceLT,Int.reduceLE,List.reduceReplicate,intA,setT_nil,setT_cons,hlt,↓boolP_bool,↓iteB_true,↓iteB_false]
   refine hKK _ _ _ ?_
   simp -implicitDefEqProofs only [go_sem,↓reduceIte,Int.reduceEq,Int.reduceLT,Int.reduceLE,List.reduceReplicate,intA,setT_nil,setT_cons,hx.cells,hx.flat,hx.bound,hlx,hfin,↓boolP_bool,↓iteB_true,↓iteB_false]
  | succ μ =>
   obtain ⟨r,hr⟩ := at_lt l j (by omega)
   have hlt : (j : Int) < (l.length : Int) := by omega
   have hix := hx.idx (strs_get hr)
   have hw := wrap_succ j (by have := hf.1;omega)
   have hwc := wrap_succ c (by have := hf.1;omega)
   have hrs := hf.2 r (List.mem_of_getElem? hr)
   have htk : (l.take (j + 1)).countP rowB = c + if rowB r then 1 else 0 := by
    rw [List.take_add_one,hr,Option.toList_some,List.countP_append,← hc,List.countP_singleton]
   cases hb : (decide ((1 : Int) ≤ r.size) && decide ((r.size : Int) ≤ 160)) with
   | false =>
    have hrow : rowB r = false := by unfold rowB;rw [hb,Bool.false_and]
    simp -implicitDefEqProofs only [go_sem,↓reduceIte,Int.reduceEq,Int.reduceLT,Int.reduceLE,List.reduceReplicate,intA,setT_nil,setT_cons,hlt,hx.cells,hx.flat,hx.bound,hlx,hix,c64,hb,hw,Bool.not_false,↓boolP_bool,↓iteB_true,↓iteB_false]
    exact Again.mk' μ (by omega) (hQ _ _ _ ⟨j + 1,c,by omega,by rw [htk,hrow];rfl,rfl,rfl⟩)
   | true =>
    simp -implicitDefEqProofs only [go_sem,↓reduceIte,Int.reduceEq,Int.reduceLT,Int.reduceLE,List.reduceReplicate,intA,setT_nil,setT_cons,hlt,hx.cells,hx.flat,hx.bound,hlx,hix,c64,hb,hw,Bool.not_true,↓boolP_bool,↓iteB_true,↓iteB_false]
    refine Lp_ruleQ (P := fun μ2 a H => ∃ k,k + μ2 = r.size ∧ r.data.toList.all byteB = (r.data.toList.drop k).all byteB ∧ a = ⟨50,[(0,x),(2,.v (.bool false)),(8,.v (.bool false)),(3,intA (c : Nat)),(10,intA l.length),(11,intA (j : Nat)),(12,.v (.bool true)),(4,intA (j : Nat)),(22,.v (.bool false)),(27,intA r.size),(28,intA (k : Nat))],[]⟩ ∧ H = ⟨[],0⟩) ?_ r.size _ _ ⟨0,by omega,rfl,rfl,rfl⟩
    rintro Q2 K2 hQ2 hK2 μ2 _ _ ⟨k,hk,hall,rfl,rfl⟩
    cases μ2 with
    | zero =>
     have hk : k = r.size := by omega
     have hrow : rowB r = true := by
      unfold rowB
      rw [hb,hall,hk,List.drop_of_length_le (by simp)];rfl
     subst hk
     have hlt2 : ¬ (r.size : Int) < (r.size : Int) := by omega
     simp -implicitDefEqProofs only [go_sem,↓reduceIte,Int.reduceEq,Int.reduceLT,Int.reduceLE,List.reduceReplicate,intA,setT_nil,setT_cons,hlt2,↓boolP_bool,↓iteB_true,↓iteB_false]
     refine hK2 _ _ _ ?_
     simp -implicitDefEqProofs only [go_sem,↓reduceIte,Int.reduceEq,Int.reduceLT,Int.reduceLE,List.reduceReplicate,intA,setT_nil,setT_cons,hw,hwc,↓boolP_bool,↓iteB_true,↓iteB_false]
     exact Again.mk' μ (by omega) (hQ _ _ _ ⟨j + 1,c + 1,by omega,by rw [htk,hrow];rfl,rfl,rfl⟩)
    | succ μ2 =>
     obtain ⟨b,hb2⟩ := at_lt r.data.toList k (by simp;omega)
     have hlt2 : (k : Int) < (r.size : Int) := by omega
     have hsa := strAt_get hb2
     have hw2 := wrap_succ k (by omega)
     have hk0 : (0 : Int) ≤ (k : Int) := by omega
     have hcv := conv_u8 b.toNat (by omega) (by have := b.toNat_lt;omega)
     rw [drop_eq_cons hb2,List.all_cons] at hall
     cases hy : (decide ((32 : Int) ≤ b.toNat) && decide ((b.toNat : Int) ≤ 126)) with
     | false =>
      have hrow : rowB r = false := by unfold rowB;rw [hall,show byteB b = false from hy,Bool.false_and,Bool.and_false]
      simp -implicitDefEqProofs only [go_sem,↓reduceIte,Int.reduceEq,Int.reduceLT,Int.reduceLE,List.reduceReplicate,intA,setT_nil,setT_cons,hlt2,hlt,hx.cells,hx.flat,hx.bound,hlx,hix,hk0,Int.toNat_natCast,hsa,hcv,c64,hy,hw,hw2,Bool.not_false,↓boolP_bool,↓iteB_true,↓iteB_false]
      refine hK2 _ _ _ ?_
      simp -implicitDefEqProofs only [go_sem,↓reduceIte,Int.reduceEq,Int.reduceLT,Int.reduceLE,List.reduceReplicate,intA,setT_nil,setT_cons,hw,↓boolP_bool,↓iteB_true,↓iteB_false]
      exact Again.mk' μ (by omega) (hQ _ _ _ ⟨j + 1,c,by omega,by rw [htk,hrow];rfl,rfl,rfl⟩)
     | true =>
      rw [show byteB b = true from hy,Bool.true_and] at hall
      simp -implicitDefEqProofs only [go_sem,↓reduceIte,Int.reduceEq,Int.reduceLT,Int.reduceLE,List.reduceReplicate,intA,setT_nil,setT_cons,hlt2,hlt,hx.cells,hx.flat,hx.bound,hlx,hix,hk0,Int.toNat_natCast,hsa,hcv,c64,hy,hw,hw2,Bool.not_true,↓boolP_bool,↓iteB_true,↓iteB_false]
      exact Again.mk' μ2 (by omega) (hQ2 _ _ _ ⟨k + 1,by omega,hall,rfl,rfl⟩)
theorem call50 {e : Exts} (he : Quiet e) (l : List ByteArray) (hf : FitsR l) (x : AV) (hx : SlOf 1 (strs l) x) (me : FuncId) (d : Option Tmp) (H : Heap) : callA (Cx e) (lim (Cx e)) me 50 d [x] H = some (.v (.bool (rowsB l)),H) :=
 (ans50 he l hf x hx).call (ext_50 he) (pure_50 _ _ _) (by simp only [boundL_cons,hx.bound,boundL_nil];rfl) H
end Go.Ev
namespace Go.Ev
open Go.Proofs
attribute [local irreducible] Wp WpS
theorem ans49 {e : Exts} (n lo hi : Int) : Ans (Cx e) 49 [.v (.int .i64 n),.v (.int .i64 lo),.v (.int .i64 hi)] (.v (.bool (decide (lo ≤ n) && decide (n ≤ hi)))) := by
 unfold Ans
 rw [fn_step (fn_49 e) (show Tryz.f49.body = some _ from rfl)]
 by_cases h1 : n ≥ lo
 ·have h1' : lo ≤ n := h1
  by_cases h2 : n ≤ hi
  ·simp -implicitDefEqProofs only [Tryz.f49,go_sem,↓reduceIte,Int.reduceEq,Int.reduceLT,Int.reduceLE,List.reduceReplicate,intA,setT_nil,setT_cons,h1,h1',h2,decide_true,decide_false,Bool.and_true,Bool.and_false,↓boolP_bool,↓iteB_true,↓iteB_false]
  ·simp -implicitDefEqProofs only [Tryz.f49,go_sem,↓reduceIte,Int.reduceEq,Int.reduceLT,Int.reduceLE,List.reduceReplicate,intA,setT_nil,setT_cons,h1,h1',h2,decide_true,decide_false,Bool.and_true,Bool.and_false,↓boolP_bool,↓iteB_true,↓iteB_false]
 ·have h1' : ¬ lo ≤ n := h1
  simp -implicitDefEqProofs only [Tryz.f49,go_sem,↓reduceIte,Int.reduceEq,Int.reduceLT,Int.reduceLE,List.reduceReplicate,intA,setT_nil,setT_cons,h1,h1',decide_true,decide_false,Bool.false_and,↓boolP_bool,↓iteB_true,↓iteB_false]
theorem call49 {e : Exts} (he : Quiet e) (n lo hi : Int) (me : FuncId) (d : Option Tmp) (H : Heap) : callA (Cx e) (lim (Cx e)) me 49 d [.v (.int .i64 n),.v (.int .i64 lo),.v (.int .i64 hi)] H = some (.v (.bool (decide (lo ≤ n) && decide (n ≤ hi))),H) :=
 (ans49 n lo hi).call (ext_49 he) (pure_49 _ _ _) rfl H
theorem ans38 {e : Exts} (he : Quiet e) (l : List ByteArray) (hf : FitsR l) (x : AV) (hx : SlOf 1 (strs l) x) : Ans (Cx e) 38 [x] (.v (.bool (rowsB l))) := by
 unfold Ans
 rw [fn_step (fn_38 e) (show Tryz.f38.body = some _ from rfl)]
 have hlx := hx.len
 rw [strs_len] at hlx
 have c49 := fun n lo hi me d H => call49 he n lo hi me d H
 simp -implicitDefEqProofs only [Tryz.f38,go_sem,↓reduceIte,Int.reduceEq,Int.reduceLT,Int.reduceLE,List.reduceReplicate,intA,setT_nil,setT_cons,hx.cells,hx.flat,hx.bound,hlx,↓boolP_bool,↓iteB_true,↓iteB_false]
 refine Lp_ruleQ (P := fun μ a H => ∃ j,j + μ = l.length ∧ l.all rowB = (l.drop j).all rowB ∧ a = ⟨46,[(0,x),(2,.v (.bool false)),(3,intA (j : Nat))],[]⟩ ∧ H = ⟨[],0⟩) ?_ l.length _ _ ⟨0,by omega,rfl,rfl,rfl⟩
 rintro Q KK hQ hKK μ _ _ ⟨j,hj,hall,rfl,rfl⟩
 cases μ with
 | zero =>
  obtain rfl : j = l.length := by omega
  rw [List.drop_length] at hall
  have hlt : ¬ (l.length : Int) < (l.length : Int) := by omega
  have hfin : decide ((l.length : Int) ≤ 200) = rowsB l := by
   unfold rowsB
   rw [hall,List.all_nil,Bool.and_true,Bool.eq_iff_iff,decide_eq_true_iff,decide_eq_true_iff]
   omega
  simp -implicitDefEqProofs only [go_sem,↓reduceIte,Int.reduceEq,Int.reduceLT,Int.reduceLE,List.reduceReplicate,intA,setT_nil,setT_cons,hx.cells,hx.flat,hx.bound,hlx,hlt,↓boolP_bool,↓iteB_true,↓iteB_false]
  refine hKK _ _ _ ?_
  simp -implicitDefEqProofs only [go_sem,↓reduceIte,Int.reduceEq,Int.reduceLT,Int.reduceLE,List.reduceReplicate,intA,setT_nil,setT_cons,hx.cells,hx.flat,hx.bound,hlx,hfin,↓boolP_bool,↓iteB_true,↓iteB_false]
 | succ μ =>
  obtain ⟨r,hr⟩ := at_lt l j (by omega)
  have hlt : (j : Int) < (l.length : Int) := by omega
  have hix := hx.idx (strs_get hr)
  have hw := wrap_succ j (by have := hf.1;omega)
  have hrs := hf.2 r (List.mem_of_getElem? hr)
  rw [drop_eq_cons hr,List.all_cons] at hall
  have hno : rowB r = false → rowsB l = false := fun h => by unfold rowsB;rw [hall,h,Bool.false_and,Bool.and_false]
  cases hb : (decide ((1 : Int) ≤ r.size) && decide ((r.size : Int) ≤ 160)) with
  | false =>
   have hrow : rowB r = false := by unfold rowB;rw [hb,Bool.false_and]
   simp -implicitDefEqProofs only [go_sem,↓reduceIte,Int.reduceEq,Int.reduceLT,Int.reduceLE,List.reduceReplicate,intA,setT_nil,setT_cons,hlt,hx.cells,hx.flat,hx.bound,hlx,hix,c49,hb,hw,Bool.not_false,↓boolP_bool,↓iteB_true,↓iteB_false]
   refine hKK _ _ _ ?_
   simp -implicitDefEqProofs only [go_sem,↓reduceIte,Int.reduceEq,Int.reduceLT,Int.reduceLE,List.reduceReplicate,intA,setT_nil,setT_cons,hno hrow,↓boolP_bool,↓iteB_true,↓iteB_false]
  | true =>
   simp -implicitDefEqProofs only [go_sem,↓reduceIte,Int.reduceEq,Int.reduceLT,Int.reduceLE,List.reduceReplicate,intA,setT_nil,setT_cons,hlt,hx.cells,hx.flat,hx.bound,hlx,hix,c49,hb,hw,Bool.not_true,↓boolP_bool,↓iteB_true,↓iteB_false]
   refine Lp_ruleQ (P := fun μ2 a H => ∃ k,k + μ2 = r.size ∧ r.data.toList.all byteB = (r.data.toList.drop k).all byteB ∧ a = ⟨46,[(0,x),(2,.v (.bool false)),(3,intA (j : Nat)),(8,.v (.bool true)),(17,.v (.bool false)),(4,intA (k : Nat))],[]⟩ ∧ H = ⟨[],0⟩) ?_ r.size _ _ ⟨0,by omega,rfl,rfl,rfl⟩
   rintro Q2 K2 hQ2 hK2 μ2 _ _ ⟨k,hk,hall2,rfl,rfl⟩
   cases μ2 with
   | zero =>
    have hk : k = r.size := by omega
    have hrow : rowB r = true := by
     unfold rowB
     rw [hb,hall2,hk,List.drop_of_length_le (by simp)];rfl
    subst hk
    rw [hrow,Bool.true_and] at hall
    have hlt2 : ¬ (r.size : Int) < (r.size : Int) := by omega
    simp -implicitDefEqProofs only [go_sem,↓reduceIte,Int.reduceEq,Int.reduceLT,Int.reduceLE,List.reduceReplicate,intA,setT_nil,setT_cons,hlt2,hx.cells,hx.flat,hx.bound,hlx,hix,↓boolP_bool,↓iteB_true,↓iteB_false]
    refine hK2 _ _ _ ?_
    simp -implicitDefEqProofs only [go_sem,↓reduceIte,Int.reduceEq,Int.reduceLT,Int.reduceLE,List.reduceReplicate,intA,setT_nil,setT_cons,hw,↓boolP_bool,↓iteB_true,↓iteB_false]
    exact Again.mk' μ (by omega) (hQ _ _ _ ⟨j + 1,by omega,hall,rfl,rfl⟩)
   | succ μ2 =>
    obtain ⟨b,hb2⟩ := at_lt r.data.toList k (by simp;omega)
    have hlt2 : (k : Int) < (r.size : Int) := by omega
    have hsa := strAt_get hb2
    have hw2 := wrap_succ k (by omega)
    have hk0 : (0 : Int) ≤ (k : Int) := by omega
    rw [drop_eq_cons hb2,List.all_cons] at hall2
    have hno2 : byteB b = false → rowsB l = false := fun h => hno (by unfold rowB;rw [hall2,h,Bool.false_and,Bool.and_false])
    by_cases h1 : (b.toNat : Int) < 32
    ·have hf2 := hno2 (by unfold byteB;simp;omega)
     simp -implicitDefEqProofs only [go_sem,↓reduceIte,Int.reduceEq,Int.reduceLT,Int.reduceLE,List.reduceReplicate,intA,setT_nil,setT_cons,hlt2,hlt,hx.cells,hx.flat,hx.bound,hlx,hix,hk0,Int.toNat_natCast,hsa,h1,hw,hw2,decide_true,↓boolP_bool,↓iteB_true,↓iteB_false]
     refine hK2 _ _ _ ?_
     simp -implicitDefEqProofs only [go_sem,↓reduceIte,Int.reduceEq,Int.reduceLT,Int.reduceLE,List.reduceReplicate,intA,setT_nil,setT_cons,↓boolP_bool,↓iteB_true,↓iteB_false]
     refine hKK _ _ _ ?_
     simp -implicitDefEqProofs only [go_sem,↓reduceIte,Int.reduceEq,Int.reduceLT,Int.reduceLE,List.reduceReplicate,intA,setT_nil,setT_cons,hf2,↓boolP_bool,↓iteB_true,↓iteB_false]
    ·by_cases h2 : (b.toNat : Int) > 126
     ·have hf2 := hno2 (by unfold byteB;simp;omega)
      simp -implicitDefEqProofs only [go_sem,↓reduceIte,Int.reduceEq,Int.reduceLT,Int.reduceLE,List.reduceReplicate,intA,setT_nil,setT_cons,hlt2,hlt,hx.cells,hx.flat,hx.bound,hlx,hix,hk0,Int.toNat_natCast,hsa,h1,h2,hw,hw2,decide_true,decide_false,↓boolP_bool,↓iteB_true,↓iteB_false]
      refine hK2 _ _ _ ?_
      simp -implicitDefEqProofs only [go_sem,↓reduceIte,Int.reduceEq,Int.reduceLT,Int.reduceLE,List.reduceReplicate,intA,setT_nil,setT_cons,↓boolP_bool,↓iteB_true,↓iteB_false]
      refine hKK _ _ _ ?_
      simp -implicitDefEqProofs only [go_sem,↓reduceIte,Int.reduceEq,Int.reduceLT,Int.reduceLE,List.reduceReplicate,intA,setT_nil,setT_cons,hf2,↓boolP_bool,↓iteB_true,↓iteB_false]
     ·have hy : byteB b = true := by unfold byteB;simp;omega
      rw [hy,Bool.true_and] at hall2
      simp -implicitDefEqProofs only [go_sem,↓reduceIte,Int.reduceEq,Int.reduceLT,Int.reduceLE,List.reduceReplicate,intA,setT_nil,setT_cons,hlt2,hlt,hx.cells,hx.flat,hx.bound,hlx,hix,hk0,Int.toNat_natCast,hsa,h1,h2,hw,hw2,decide_true,decide_false,↓boolP_bool,↓iteB_true,↓iteB_false]
      exact Again.mk' μ2 (by omega) (hQ2 _ _ _ ⟨k + 1,by omega,hall2,rfl,rfl⟩)
theorem call38 {e : Exts} (he : Quiet e) (l : List ByteArray) (hf : FitsR l) (x : AV) (hx : SlOf 1 (strs l) x) (me : FuncId) (d : Option Tmp) (H : Heap) : callA (Cx e) (lim (Cx e)) me 38 d [x] H = some (.v (.bool (rowsB l)),H) :=
 (ans38 he l hf x hx).call (ext_38 he) (pure_38 _ _ _) (by simp only [boundL_cons,hx.bound,boundL_nil];rfl) H
theorem ans12 {e : Exts} (he : Quiet e) (l : List ByteArray) (hf : FitsR l) (x : AV) (hx : SlOf 1 (strs l) x) : Ans (Cx e) 12 [x] (.v (.bool (rowsB l))) := by
 have c38 := fun me d H => call38 he l hf x hx me d H
 unfold Ans
 rw [fn_step (fn_12 e) (show Tryz.f12.body = some _ from rfl)]
 simp -implicitDefEqProofs only [Tryz.f12,go_sem,↓reduceIte,Int.reduceEq,Int.reduceLT,Int.reduceLE,List.reduceReplicate,intA,setT_nil,setT_cons,hx.cells,hx.flat,hx.bound,c38,↓boolP_bool,↓iteB_true,↓iteB_false]
theorem call12 {e : Exts} (he : Quiet e) (l : List ByteArray) (hf : FitsR l) (x : AV) (hx : SlOf 1 (strs l) x) (me : FuncId) (d : Option Tmp) (H : Heap) : callA (Cx e) (lim (Cx e)) me 12 d [x] H = some (.v (.bool (rowsB l)),H) :=
 (ans12 he l hf x hx).call (ext_12 he) (pure_12 _ _ _) (by simp only [boundL_cons,hx.bound,boundL_nil];rfl) H
end Go.Ev
namespace Go.Ev
open Go.Proofs
attribute [local irreducible] Wp WpS
theorem ans15 {e : Exts} (l m : List ByteArray) (hl : l.length < 2 ^ 63) (x y : AV) (hx : SlOf 1 (strs l) x) (hy : SlOf 1 (strs m) y) : Ans (Cx e) 15 [x,y] (.v (.bool (decide (l = m)))) := by
 unfold Ans
 rw [fn_step (fn_15 e) (show Tryz.f15.body = some _ from rfl)]
 have hlx := hx.len
 have hly := hy.len
 rw [strs_len] at hlx hly
 by_cases hlen : l.length = m.length
 ·have hli : ((l.length : Int) = (m.length : Int)) := by omega
  simp -implicitDefEqProofs only [Tryz.f15,go_sem,↓reduceIte,Int.reduceEq,Int.reduceLT,Int.reduceLE,List.reduceReplicate,intA,setT_nil,setT_cons,hx.cells,hx.flat,hx.bound,hy.cells,hy.flat,hy.bound,hlx,hly,hli,decide_true,Bool.not_true,↓boolP_bool,↓iteB_true,↓iteB_false]
  refine Lp_ruleQ (P := fun μ a H => ∃ j,j + μ = l.length ∧ decide (l = m) = decide (l.drop j = m.drop j) ∧ a = ⟨26,[(0,x),(1,y),(4,.v (.bool false)),(10,.v (.bool false)),(5,intA (j : Nat))],[]⟩ ∧ H = ⟨[],0⟩) ?_ l.length _ _ ⟨0,by omega,rfl,rfl,rfl⟩
  rintro Q KK hQ hKK μ _ _ ⟨j,hj,hall,rfl,rfl⟩
  cases μ with
  | zero =>
   obtain rfl : j = l.length := by omega
   have hlt : ¬ (m.length : Int) < (m.length : Int) := by omega
   have hd : decide (l = m) = true := by rw [hall,List.drop_length,hlen,List.drop_length];rfl
   simp -implicitDefEqProofs only [go_sem,↓reduceIte,Int.reduceEq,Int.reduceLT,Int.reduceLE,List.reduceReplicate,intA,setT_nil,setT_cons,hx.cells,hx.flat,hx.bound,hlx,hli,hlt,↓boolP_bool,↓iteB_true,↓iteB_false]
   refine hKK _ _ _ ?_
   simp -implicitDefEqProofs only [go_sem,↓reduceIte,Int.reduceEq,Int.reduceLT,Int.reduceLE,List.reduceReplicate,intA,setT_nil,setT_cons,hd,↓boolP_bool,↓iteB_true,↓iteB_false]
  | succ μ =>
   obtain ⟨r,hr⟩ := at_lt l j (by omega)
   obtain ⟨s,hs⟩ := at_lt m j (by omega)
   have hlt : (j : Int) < (m.length : Int) := by omega
   have hix := hx.idx (strs_get hr)
   have hiy := hy.idx (strs_get hs)
   have hw := wrap_succ j (by omega)
   rw [drop_eq_cons hr,drop_eq_cons hs] at hall
   simp -implicitDefEqProofs only [go_sem,↓reduceIte,Int.reduceEq,Int.reduceLT,Int.reduceLE,List.reduceReplicate,intA,setT_nil,setT_cons,hx.cells,hx.flat,hx.bound,hlx,hli,hlt,↓boolP_bool,↓iteB_true,↓iteB_false]
   refine wp_drawX [([],[],false),([],[],false),([],[],false),([],[],false),([],[],false),([],[],false),([],[],false),([3],[],false),([],[],false)] (by kernel_rfl) (by kernel_rfl) ?_
   by_cases hd : r = s
   ·subst hd
    simp -implicitDefEqProofs only [go_sem,↓reduceIte,Int.reduceEq,Int.reduceLT,Int.reduceLE,List.reduceReplicate,intA,setT_nil,setT_cons,hix,hiy,hw,decide_true,Bool.not_true,↓boolP_bool,↓iteB_true,↓iteB_false]
    exact Again.mk' μ (by omega) (hQ _ _ _ ⟨j + 1,by omega,by rw [hall];simp,rfl,rfl⟩)
   ·have h0 : decide (l = m) = false := by rw [hall];simp [hd]
    simp -implicitDefEqProofs only [go_sem,↓reduceIte,Int.reduceEq,Int.reduceLT,Int.reduceLE,List.reduceReplicate,intA,setT_nil,setT_cons,hix,hiy,hw,decide_eq_false hd,Bool.not_false,↓boolP_bool,↓iteB_true,↓iteB_false]
    refine hKK _ _ _ ?_
    simp -implicitDefEqProofs only [go_sem,↓reduceIte,Int.reduceEq,Int.reduceLT,Int.reduceLE,List.reduceReplicate,intA,setT_nil,setT_cons,h0,↓boolP_bool,↓iteB_true,↓iteB_false]
 ·have hli : ¬ ((l.length : Int) = (m.length : Int)) := by omega
  have h0 : decide (l = m) = false := decide_eq_false fun h => hlen (congrArg _ h)
  simp -implicitDefEqProofs only [Tryz.f15,go_sem,↓reduceIte,Int.reduceEq,Int.reduceLT,Int.reduceLE,List.reduceReplicate,intA,setT_nil,setT_cons,hx.cells,hx.flat,hx.bound,hy.cells,hy.flat,hy.bound,hlx,hly,hli,h0,decide_false,Bool.not_false,↓boolP_bool,↓iteB_true,↓iteB_false]
theorem call15 {e : Exts} (he : Quiet e) (l m : List ByteArray) (hl : l.length < 2 ^ 63) (x y : AV) (hx : SlOf 1 (strs l) x) (hy : SlOf 1 (strs m) y) (me : FuncId) (d : Option Tmp) (H : Heap) : callA (Cx e) (lim (Cx e)) me 15 d [x,y] H = some (.v (.bool (decide (l = m))),H) :=
 (ans15 l m hl x y hx hy).call (ext_15 he) (pure_15 _ _ _) (by simp only [boundL_cons,hx.bound,hy.bound,boundL_nil];rfl) H
theorem bin_rem (m n : Int) (hn : n ≠ 0) (t : TypeId) (x y : Operand) : binA Tryz.prog .rem t x y (.v (.int .i64 m)) (.v (.int .i64 n)) = some (.v (.int .i64 (m.tmod n))) := by
 show atomA (runPure Tryz.prog (Op.intDiv .rem .i64 m n)) = _
 unfold Op.intDiv
 rw [if_neg hn];rfl
def chkN (n : Nat) : List UInt8 → Nat
 | [] => n
 | b :: r => chkN ((31 * n + b.toNat) % 676) r
def sumR (r : ByteArray) (i : Nat) : Nat := chkN ((17 * i + 5) % 676) r.data.toList
def chkB (r : ByteArray) (i : Nat) : List UInt8 := [(97 + sumR r i / 26).toUInt8,(97 + sumR r i % 26).toUInt8]
def lineB (r : ByteArray) (i : Nat) : ByteArray := r ++ ⟨#[32]⟩ ++ ⟨(chkB r i).toArray⟩ ++ ⟨#[10]⟩
end Go.Ev
namespace Go.Ev
open Go.Proofs
attribute [local irreducible] Wp WpS
theorem ans73 {e : Exts} (l : List ByteArray) (x : AV) (hx : SlOf 1 (strs l) x) (j : Nat) (s : ByteArray) (hj : l[j]? = some s) : Ans (Cx e) 73 [x,.v (.int .i64 j)] (.v (.string s)) := by
 have hix := hx.idx (strs_get hj)
 unfold Ans
 rw [fn_step (fn_73 e) (show Tryz.f73.body = some _ from rfl)]
 simp -implicitDefEqProofs only [Tryz.f73,go_sem,↓reduceIte,Int.reduceEq,Int.reduceLT,Int.reduceLE,List.reduceReplicate,intA,setT_nil,setT_cons,hx.cells,hx.flat,hx.bound,hix,↓boolP_bool,↓iteB_true,↓iteB_false]
theorem ans74 {e : Exts} (l : List ByteArray) (hl : l.length < 2 ^ 63) (x : AV) (hx : SlOf 1 (strs l) x) (j : Nat) (s : ByteArray) (hj : l.reverse[j]? = some s) : Ans (Cx e) 74 [x,.v (.int .i64 j)] (.v (.string s)) := by
 have hjl : j < l.length := by have := (List.getElem?_eq_some_iff.1 hj).1;rw [List.length_reverse] at this;exact this
 rw [List.getElem?_reverse hjl] at hj
 have hix := hx.idx (strs_get hj)
 have hlx := hx.len
 rw [strs_len] at hlx
 have w1 : IntKind.i64.wrap ((l.length : Int) - 1) = ((l.length - 1 : Nat) : Int) := by rw [wrap_in _ (by omega) (by omega)];omega
 have w2 : IntKind.i64.wrap (((l.length - 1 : Nat) : Int) - (j : Int)) = ((l.length - 1 - j : Nat) : Int) := by rw [wrap_in _ (by omega) (by omega)];omega
 unfold Ans
 rw [fn_step (fn_74 e) (show Tryz.f74.body = some _ from rfl)]
 simp -implicitDefEqProofs only [Tryz.f74,go_sem,↓reduceIte,Int.reduceEq,Int.reduceLT,Int.reduceLE,List.reduceReplicate,intA,setT_nil,setT_cons,hx.cells,hx.flat,hx.bound,hlx,w1,w2,hix,↓boolP_bool,↓iteB_true,↓iteB_false]
def comN : List ByteArray → List ByteArray → Nat
 | a :: l,b :: m => if a = b then comN l m + 1 else 0
 | _,_ => 0
theorem comN_le : ∀ (l m : List ByteArray),comN l m ≤ l.length ∧ comN l m ≤ m.length
 | [],_ => by simp [comN]
 | _ :: _,[] => by simp [comN]
 | a :: l,b :: m => by
  have := comN_le l m
  rw [comN]
  split <;> simp only [List.length_cons] <;> omega
theorem min2 (a b : Nat) : minmaxA false (.v (.int .i64 (a : Int))) [.v (.int .i64 (b : Int))] = some (.v (.int .i64 (min a b : Nat))) := by
 show some (AV.v (.int .i64 (if (b : Int) < (a : Int) then (b : Int) else (a : Int)))) = _
 congr 3
 split <;> omega
theorem ans72 {e : Exts} (l m l' m' : List ByteArray) (hl : l.length < 2 ^ 62) (x y : AV) (hx : SlOf 1 (strs l) x) (hy : SlOf 1 (strs m) y) (f : Nat) (hll : l'.length = l.length) (hml : m'.length = m.length)
  (h1 : ∀ j s me d H,l'[j]? = some s → callA (Cx e) (lim (Cx e)) me f d [x,.v (.int .i64 (j : Nat))] H = some (.v (.string s),H))
  (h2 : ∀ j s me d H,m'[j]? = some s → callA (Cx e) (lim (Cx e)) me f d [y,.v (.int .i64 (j : Nat))] H = some (.v (.string s),H)) :
  Ans (Cx e) 72 [x,y,.fn (.func f) [] []] (.v (.int .i64 (comN l' m'))) := by
 unfold Ans
 rw [fn_step (fn_72 e) (show Tryz.f72.body = some _ from rfl)]
 have hlx := hx.len
 have hly := hy.len
 rw [strs_len] at hlx hly
 simp -implicitDefEqProofs only [Tryz.f72,go_sem,↓reduceIte,Int.reduceEq,Int.reduceLT,Int.reduceLE,List.reduceReplicate,intA,setT_nil,setT_cons,hx.cells,hx.flat,hx.bound,hy.cells,hy.flat,hy.bound,hlx,hly,↓boolP_bool,↓iteB_true,↓iteB_false]
 refine Lp_ruleQ (P := fun μ a H => ∃ j,j + μ = min l.length m.length ∧ comN l' m' = comN (l'.drop j) (m'.drop j) + j ∧ a = ⟨29,[(0,x),(1,y),(2,.fn (.func f) [] []),(6,intA 0),(7,intA (j : Nat))],[]⟩ ∧ H = ⟨[],0⟩) ?_ (min l.length m.length) _ _ ⟨0,by omega,rfl,rfl,rfl⟩
 rintro Q KK hQ hKK μ _ _ ⟨j,hj,hall,rfl,rfl⟩
 have hmin := min2 l.length m.length
 cases μ with
 | zero =>
  have hlt : ¬ (j : Int) < ((min l.length m.length : Nat) : Int) := by omega
  have h0 : comN (l'.drop j) (m'.drop j) = 0 := by
   have h := comN_le (l'.drop j) (m'.drop j)
   rw [List.length_drop,List.length_drop] at h;omega
  rw [h0,Nat.zero_add] at hall
  simp -implicitDefEqProofs only [go_sem,↓reduceIte,Int.reduceEq,Int.reduceLT,Int.reduceLE,List.reduceReplicate,intA,setT_nil,setT_cons,hx.cells,hx.flat,hx.bound,hy.cells,hlx,hly,hmin,hlt,decide_false,↓boolP_bool,↓iteB_true,↓iteB_false]
  refine hKK _ _ _ ?_
  simp -implicitDefEqProofs only [go_sem,↓reduceIte,Int.reduceEq,Int.reduceLT,Int.reduceLE,List.reduceReplicate,intA,setT_nil,setT_cons,hall,↓boolP_bool,↓iteB_true,↓iteB_false]
 | succ μ =>
  have hlt : (j : Int) < ((min l.length m.length : Nat) : Int) := by omega
  obtain ⟨r,hr⟩ := at_lt l' j (by omega)
  obtain ⟨s,hs⟩ := at_lt m' j (by omega)
  have hw := wrap_succ j (by omega)
  have c1 := fun me d H => h1 j r me d H hr
  have c2 := fun me d H => h2 j s me d H hs
  rw [drop_eq_cons hr,drop_eq_cons hs,comN] at hall
  by_cases hd : r = s
  ·subst hd
   rw [if_pos rfl] at hall
   simp -implicitDefEqProofs only [go_sem,↓reduceIte,Int.reduceEq,Int.reduceLT,Int.reduceLE,List.reduceReplicate,intA,setT_nil,setT_cons,hx.cells,hx.flat,hx.bound,hy.cells,hlx,hly,hmin,hlt,c1,c2,hw,decide_true,↓boolP_bool,↓iteB_true,↓iteB_false]
   exact Again.mk' μ (by omega) (hQ _ _ _ ⟨j + 1,by omega,by omega,rfl,rfl⟩)
  ·rw [if_neg hd,Nat.zero_add] at hall
   simp -implicitDefEqProofs only [go_sem,↓reduceIte,Int.reduceEq,Int.reduceLT,Int.reduceLE,List.reduceReplicate,intA,setT_nil,setT_cons,hx.cells,hx.flat,hx.bound,hy.cells,hlx,hly,hmin,hlt,c1,c2,hw,decide_true,decide_eq_false hd,↓boolP_bool,↓iteB_true,↓iteB_false]
   refine hKK _ _ _ ?_
   simp -implicitDefEqProofs only [go_sem,↓reduceIte,Int.reduceEq,Int.reduceLT,Int.reduceLE,List.reduceReplicate,intA,setT_nil,setT_cons,hall,↓boolP_bool,↓iteB_true,↓iteB_false]
theorem call72 {e : Exts} (he : Quiet e) (l m : List ByteArray) (hl : l.length < 2 ^ 62) (x y : AV) (hx : SlOf 1 (strs l) x) (hy : SlOf 1 (strs m) y) (me : FuncId) (d : Option Tmp) (H : Heap) : callA (Cx e) (lim (Cx e)) me 72 d [x,y,.fn (.func 73) [] []] H = some (.v (.int .i64 (comN l m)),H) :=
 (ans72 l m l m hl x y hx hy 73 rfl rfl
  (fun j s me d H h => (ans73 l x hx j s h).call (ext_73 he) (pure_73 _ _ _) (by simp only [boundL_cons,hx.bound,boundL_nil];rfl) H)
  (fun j s me d H h => (ans73 m y hy j s h).call (ext_73 he) (pure_73 _ _ _) (by simp only [boundL_cons,hy.bound,boundL_nil];rfl) H)).call (ext_72 he) (pure_72 _ _ _) (by simp only [boundL_cons,hx.bound,hy.bound,boundL_nil];rfl) H
theorem call72B {e : Exts} (he : Quiet e) (l m : List ByteArray) (hl : l.length < 2 ^ 62) (hm : m.length < 2 ^ 62) (x y : AV) (hx : SlOf 1 (strs l) x) (hy : SlOf 1 (strs m) y) (me : FuncId) (d : Option Tmp) (H : Heap) : callA (Cx e) (lim (Cx e)) me 72 d [x,y,.fn (.func 74) [] []] H = some (.v (.int .i64 (comN l.reverse m.reverse)),H) :=
 (ans72 l m l.reverse m.reverse hl x y hx hy 74 (List.length_reverse ..) (List.length_reverse ..)
  (fun j s me d H h => (ans74 l (by omega) x hx j s h).call (ext_74 he) (pure_74 _ _ _) (by simp only [boundL_cons,hx.bound,boundL_nil];rfl) H)
  (fun j s me d H h => (ans74 m (by omega) y hy j s h).call (ext_74 he) (pure_74 _ _ _) (by simp only [boundL_cons,hy.bound,boundL_nil];rfl) H)).call (ext_72 he) (pure_72 _ _ _) (by simp only [boundL_cons,hx.bound,hy.bound,boundL_nil];rfl) H
end Go.Ev
namespace Go.Ev
open Go.Proofs
attribute [local irreducible] Wp WpS
def bytesA (l : List UInt8) : List AV := l.map fun c => .v (.int .u8 c.toNat)
def bldN : Heap := ⟨[some (.cells 0 0 88 1 false [.v (.pointer none),.v (.slice none 0 0)])],0⟩
def bld (v n : Nat) (bs : List UInt8) : Heap := ⟨[some (.cells 0 2 88 1 false [.ptr 0 0 0,.sl 1 v 0 n none]),some (.cells v 0 5 1 true (bytesA bs))],0⟩
theorem call_kept {C : Cfg} {f : FuncId} {args : List AV} {H H' : Heap} {v : AV} {me : FuncId} {d : Option Tmp} (hx : C.ext f = none) (hk : callKind C me f d args = 0) (h : Fn' C f args H (fun x X => x = v ∧ X = H')) (hh : C.exh f = none := by rfl) : callA C (lim C) me f d args H = some (v,H'.trim H.size [v] []) := by
 unfold Fn' at h
 rw [bindO_iff] at h
 obtain ⟨o,h1,h2⟩ := h
 cases o with
 | go => exact h2.elim
 | ret x X =>
  obtain ⟨rfl,rfl⟩ := h2
  unfold callA standA standH
  rw [hx];simp only;rw [hh];simp only
  unfold callB
  rw [hk]
  simp only [h1]
end Go.Ev
namespace Go.Ev
open Go.Proofs
attribute [local irreducible] Wp WpS
end Go.Ev
namespace Go.Ev
open Go.Proofs
attribute [local irreducible] Wp WpS
def linesB : Nat → List ByteArray → List UInt8
 | _,[] => []
 | i,r :: l => (lineB r i).data.toList ++ linesB (i + 1) l
def hB (l : List ByteArray) : Nat → Heap
 | 0 => bldN
 | j + 1 => bld j (linesB 0 (l.take (j + 1))).length (linesB 0 (l.take (j + 1)))
theorem rows_of {l : List ByteArray} (h : rowsB l = true) : l.length ≤ 200 ∧ ∀ r ∈ l,1 ≤ r.size ∧ r.size ≤ 160 ∧ ∀ b ∈ r.data.toList,32 ≤ b.toNat ∧ b.toNat ≤ 126 := by
 unfold rowsB at h
 rw [Bool.and_eq_true,decide_eq_true_iff,List.all_eq_true] at h
 refine ⟨h.1,fun r hr => ?_⟩
 have h2 := h.2 r hr
 unfold rowB at h2
 rw [Bool.and_eq_true,Bool.and_eq_true,decide_eq_true_iff,decide_eq_true_iff,List.all_eq_true] at h2
 refine ⟨by omega,by omega,fun b hb => ?_⟩
 have h3 := h2.2 b hb
 unfold byteB at h3
 rw [Bool.and_eq_true,decide_eq_true_iff,decide_eq_true_iff] at h3
 omega
theorem ans39 {e : Exts} (he : Quiet e) (l : List ByteArray) (hf : FitsR l) (x : AV) (hx : SlOf 1 (strs l) x) : Ans (Cx e) 39 [x] (.v (.int .i64 (if rowsB l then 0 else 110))) := by
 have c50 := fun me d H => call50 he l hf x hx me d H
 unfold Ans
 rw [fn_step (fn_39 e) (show Tryz.f39.body = some _ from rfl)]
 cases h : rowsB l <;> rw [h] at c50
 ·simp -implicitDefEqProofs only [Tryz.f39,go_sem,↓reduceIte,Int.reduceEq,Int.reduceLT,Int.reduceLE,List.reduceReplicate,intA,setT_nil,setT_cons,hx.cells,hx.flat,hx.bound,c50,Bool.not_false,Bool.false_eq_true,if_false,↓boolP_bool,↓iteB_true,↓iteB_false]
 ·simp -implicitDefEqProofs only [Tryz.f39,go_sem,↓reduceIte,Int.reduceEq,Int.reduceLT,Int.reduceLE,List.reduceReplicate,intA,setT_nil,setT_cons,hx.cells,hx.flat,hx.bound,c50,Bool.not_true,if_true,↓boolP_bool,↓iteB_true,↓iteB_false]
theorem call39 {e : Exts} (he : Quiet e) (l : List ByteArray) (hf : FitsR l) (x : AV) (hx : SlOf 1 (strs l) x) (me : FuncId) (d : Option Tmp) (H : Heap) : callA (Cx e) (lim (Cx e)) me 39 d [x] H = some (.v (.int .i64 (if rowsB l then 0 else 110)),H) :=
 (ans39 he l hf x hx).call (ext_39 he) (pure_39 _ _ _) (by simp only [boundL_cons,hx.bound,boundL_nil];rfl) H
end Go.Ev
namespace Go.Ev
open Go.Proofs
attribute [local irreducible] Wp WpS
def nl (s : ByteArray) : Nat := (idxB 10 0 s.data.toList + 1).toNat
def lineOf (s : ByteArray) : ByteArray := s.extract 0 (nl s)
def rowOf (s : ByteArray) : ByteArray := (lineOf s).extract 0 ((lineOf s).size - 4)
def firstR (s : ByteArray) (i : Nat) : Option ByteArray := if rowB (rowOf s) && decide (lineOf s = lineB (rowOf s) i) then some (rowOf s) else none
end Go.Ev
namespace Go.Ev
open Go.Proofs
attribute [local irreducible] Wp WpS
theorem settle_eqN {H : Heap} {N : Nat} (h : H.size = N) : settleH N H = H := by rw [← h];exact settle_same H
def consR (o : Option ByteArray) (k : ByteArray → List ByteArray) : List ByteArray := match o with | none => [] | some r => r :: k r
def readR (s : ByteArray) : Nat → Nat → Nat → List ByteArray
 | 0,_,_ => []
 | m + 1,i,en => consR (firstR (s.extract en s.size) i) fun r => readR s m (i + 1) (en + (r.size + 4))
attribute [local irreducible] firstR
attribute [irreducible] readR
end Go.Ev
namespace Go.Ev
open Go.Proofs
attribute [local irreducible] Wp WpS
theorem get_row {H : Heap} {b v m e sz : Nat} {g : Bool} {cs : List AV} (h : H.get b = some (.cells v m e sz g cs)) : H.row b v = some (m,e,sz,g,cs) := by
 unfold Heap.row;rw [h];simp
theorem settle_live {H : Heap} {n b : Nat} {o : AObj} (hb : n ≤ b) (h : H.get b = some o) : settleH n H = H := by
 unfold settleH
 rw [if_neg]
 intro hall
 have hx : H.objs[b]? = some (some o) := by
  unfold Heap.get at h
  cases hq : H.objs[b]? with
  | none => rw [hq] at h;exact nomatch h
  | some y => rw [hq] at h;cases y with
   | none => exact nomatch h
   | some z => rw [show z = o from Option.some.inj h]
 have hm : some o ∈ H.objs.drop n := by
  refine List.mem_of_getElem? (i := b - n) ?_
  rw [List.getElem?_drop,show n + (b - n) = b by omega,hx]
 have := List.all_eq_true.1 hall _ hm
 exact nomatch this
theorem chunk1 : ∀ l : List AV,chunk 1 l.length l = l
 | [] => rfl
 | x :: r => by
  show (if 1 = 1 then (x :: r).headD undefA else _) :: chunk 1 r.length ((x :: r).drop 1) = _
  rw [if_pos rfl]
  show x :: chunk 1 r.length r = _
  rw [chunk1 r]
end Go.Ev
namespace Go.Ev
open Go.Proofs
attribute [local irreducible] Wp WpS
def rowO (l : List ByteArray) : AObj := .cells 0 0 9 1 true (strs l)
theorem strs_flat (l : List ByteArray) : (strs l).all AV.flat = true := by
 refine List.all_eq_true.2 fun x hx => ?_
 obtain ⟨s, -,rfl⟩ := List.mem_map.1 hx;rfl
theorem strs_cells (l : List ByteArray) : (strs l).flatMap AV.cells = strs l := by
 unfold strs
 induction l with
 | nil => rfl
 | cons a r ih => simp only [List.map_cons,List.flatMap_cons,ih];rfl
theorem nil22 (t : Nat) : binA Tryz.prog .eql 22 (.tmp t) (.const (.slice none 0 0)) (.v (.slice none 0 0)) (.v (.slice none 0 0)) = some (.v (.bool true)) := by kernel_rfl
theorem nil22F (t : Nat) (xs : List AV) (cap : Option Nat) : binA Tryz.prog .eql 22 (.tmp t) (.const (.slice none 0 0)) (.vs 1 xs cap) (.v (.slice none 0 0)) = some (.v (.bool false)) := by kernel_rfl
theorem appE0 (H : Heap) (slot : Nat) : appTo 9 1 16 H slot 0 [] (.vs 1 [] (some 0)) = some (.vs 1 [] (some 0),H) := rfl
theorem appE1 (H : Heap) (slot : Nat) (l : List ByteArray) (h0 : 0 < l.length) (hf : fitsA 16 l.length = true) : appTo 9 1 16 H slot l.length (strs l) (.vs 1 [] (some 0)) = some (.sl slot 0 0 l.length none,H.put slot (rowO l)) := by
 unfold appTo rowO
 simp only [List.length_nil,Nat.zero_add,if_true,hf,List.flatMap_nil,List.all_nil,Bool.and_true,List.nil_append]
 rw [if_neg (by simp),if_neg (by omega),show Nat.max (boundL []) (boundL (strs l)) = 0 by rw [strs_bd];rfl]
theorem fn52N {e : Exts} (_he : Quiet e) {X : Heap} {N : Nat} (hN : X.size = N) : Fn' (Cx e) 52 [.v (.slice none 0 0)] X (fun v Y => v = .v (.slice none 0 0) ∧ Y = X) := by
 rw [fn_step (fn_52 e) (show Tryz.f52.body = some _ from rfl)]
 simp -implicitDefEqProofs only [Tryz.f52,go_sem,↓reduceIte,Int.reduceEq,Int.reduceLT,Int.reduceLE,List.reduceReplicate,intA,setT_nil,setT_cons,hN,settle_eqN hN,nil22,↓boolP_bool,↓iteB_true,↓iteB_false]
 exact ⟨rfl,rfl⟩
theorem fn52E {e : Exts} (_he : Quiet e) {X : Heap} {N : Nat} (hN : X.size = N) (cap : Option Nat) : Fn' (Cx e) 52 [.vs 1 [] cap] X (fun v Y => v = .vs 1 [] (some 0) ∧ Y = X) := by
 rw [fn_step (fn_52 e) (show Tryz.f52.body = some _ from rfl)]
 simp -implicitDefEqProofs only [Tryz.f52,go_sem,↓reduceIte,Int.reduceEq,Int.reduceLT,Int.reduceLE,List.reduceReplicate,intA,setT_nil,setT_cons,hN,settle_eqN hN,nil22F,appE0,List.flatMap_nil,List.all_nil,↓boolP_bool,↓iteB_true,↓iteB_false]
 exact ⟨rfl,rfl⟩
theorem fn52R {e : Exts} (_he : Quiet e) {X : Heap} {N : Nat} (hN : X.size = N) (l : List ByteArray) (h0 : 0 < l.length) (hl : l.length < 100000) (cap : Option Nat) : Fn' (Cx e) 52 [.vs 1 (strs l) cap] X (fun v Y => v = .sl N 0 0 l.length none ∧ Y = X.plus [some (rowO l)]) := by
 rw [fn_step (fn_52 e) (show Tryz.f52.body = some _ from rfl)]
 have hf : fitsA 16 l.length = true := by unfold fitsA;exact decide_eq_true (by omega)
 have hput : X.put N (rowO l) = X.plus [some (rowO l)] := by rw [← hN];exact put_push _
 have hset : settleH N (X.plus [some (rowO l)]) = X.plus [some (rowO l)] := settle_live (b := N) (o := rowO l) (Nat.le_refl _) (by rw [← hput];exact put_get_eq _ (by omega))
 have hap := fun (slot : Nat) => appE1 X slot l h0 hf
 have hls := strs_len l
 simp -implicitDefEqProofs only [Tryz.f52,go_sem,↓reduceIte,Int.reduceEq,Int.reduceLT,Int.reduceLE,List.reduceReplicate,intA,setT_nil,setT_cons,hN,settle_eqN hN,nil22F,strs_cells,strs_flat,hls,hap,hput,hset,↓boolP_bool,↓iteB_true,↓iteB_false]
 exact ⟨rfl,rfl⟩
theorem kind52 (e : Exts) {me : FuncId} {d : Option Tmp} (hm : pureF me 52 d = false) (args : List AV) : callKind (Cx e) me 52 d args = 0 := by
 have h1 : (Cx e).pure me 52 d = false := hm
 unfold callKind
 rw [h1];rfl
theorem call52N {e : Exts} (he : Quiet e) (X : Heap) (me : FuncId) (d : Option Tmp) (hm : pureF me 52 d = false := by rfl) : callA (Cx e) (lim (Cx e)) me 52 d [.v (.slice none 0 0)] X = some (.v (.slice none 0 0),X) := by
 rw [call_kept (ext_52 he) (kind52 e hm _) (fn52N he rfl),trim_size]
theorem call52E {e : Exts} (he : Quiet e) (X : Heap) (cap : Option Nat) (me : FuncId) (d : Option Tmp) (hm : pureF me 52 d = false := by rfl) : callA (Cx e) (lim (Cx e)) me 52 d [.vs 1 [] cap] X = some (.vs 1 [] (some 0),X) := by
 rw [call_kept (ext_52 he) (kind52 e hm _) (fn52E he rfl cap),trim_size]
theorem trim_up {H : Heap} {n : Nat} {vs : List AV} {ms : List Nat} (h : n < boundL vs) : H.trim n vs ms = H := by
 unfold Heap.trim
 rw [if_neg]
 have : Nat.ble (boundL vs) n = false := by
  cases hb : Nat.ble (boundL vs) n with
  | false => rfl
  | true => have := Nat.le_of_ble_eq_true hb;omega
 simp only [this,Bool.false_and,Bool.false_eq_true,not_false_eq_true]
theorem call52R {e : Exts} (he : Quiet e) (X : Heap) (l : List ByteArray) (h0 : 0 < l.length) (hl : l.length < 100000) (cap : Option Nat) (me : FuncId) (d : Option Tmp) (hm : pureF me 52 d = false := by rfl) : callA (Cx e) (lim (Cx e)) me 52 d [.vs 1 (strs l) cap] X = some (.sl X.size 0 0 l.length none,X.plus [some (rowO l)]) := by
 rw [call_kept (ext_52 he) (kind52 e hm _) (fn52R he rfl l h0 hl cap),trim_up]
 rw [boundL_cons,bound_sl]
 exact Nat.lt_of_lt_of_le (Nat.lt_succ_self _) (Nat.le_max_left _ _)
end Go.Ev
namespace Go.Ev
open Go.Proofs
end Go.Ev
namespace Go.Ev
open Go.Proofs
attribute [local irreducible] Wp WpS
theorem und22s : sizeT Tryz.prog 9 = some 1 := by kernel_rfl
theorem slice22 {xs : List AV} {x : AV} (h : SlOf 1 xs x) (H : Heap) (j : Nat) (hj : j ≤ xs.length) : ∃ y,sliceA Tryz.prog H 22 x none (some (.v (.int .i64 (j : Nat)))) none = some y ∧ SlOf 1 (xs.take j) y := by
 rcases h with ⟨rfl,rfl⟩ | ⟨cap,rfl⟩
 ·obtain rfl : j = 0 := by simpa using hj
  refine ⟨.v (.slice none 0 0), ?_,Or.inl ⟨rfl,rfl⟩⟩
  unfold sliceA
  simp only [und_22,und22s]
  rfl
 ·have b1 : boundA (some (.v (.int .i64 (j : Nat)))) xs.length xs.length = some j := by
   unfold boundA
   simp only [Int.toNat_natCast]
   rw [if_pos (by omega)]
  have b2 : boundA none xs.length xs.length = some xs.length := rfl
  have b3 : boundA none 0 j = some 0 := rfl
  refine ⟨.vs 1 (xs.take j) (capOf none xs.length 0 cap), ?_,Or.inr ⟨_,rfl⟩⟩
  unfold sliceA
  simp only [und_22,und22s,b1,b2,b3,List.drop_zero]
  rfl
end Go.Ev
namespace Go.Ev
open Go.Proofs
attribute [local irreducible] Wp WpS
theorem slice22I {xs : List AV} {x : AV} (h : SlOf 1 xs x) (j : Nat) (hj : j ≤ xs.length) : ∃ y,sliceI Tryz.prog 22 x (some (.v (.int .i64 (j : Nat)))) none none = some y ∧ SlOf 1 (xs.drop j) y := by
 rcases h with ⟨rfl,rfl⟩ | ⟨cap,rfl⟩
 ·obtain rfl : j = 0 := by simpa using hj
  refine ⟨.v (.slice none 0 0), ?_,Or.inl ⟨rfl,rfl⟩⟩
  unfold sliceI sliceA
  simp only [und_22,und22s]
  rfl
 ·have b1 : boundA (some (.v (.int .i64 (j : Nat)))) 0 xs.length = some j := by
   unfold boundA
   simp only [Int.toNat_natCast]
   rw [if_pos (by omega)]
  have b2 : boundA none xs.length xs.length = some xs.length := rfl
  refine ⟨.vs 1 (xs.drop j) (capOf none xs.length j cap), ?_,Or.inr ⟨_,rfl⟩⟩
  unfold sliceI sliceA
  simp only [und_22,und22s,b1,b2,List.take_length]
  rfl
theorem slice22Ih {xs : List AV} {x : AV} (h : SlOf 1 xs x) (j : Nat) (hj : j ≤ xs.length) : ∃ y,sliceI Tryz.prog 22 x none (some (.v (.int .i64 (j : Nat)))) none = some y ∧ SlOf 1 (xs.take j) y := by
 obtain ⟨y,h1,h2⟩ := slice22 h ⟨[],0⟩ j hj
 refine ⟨y, ?_,h2⟩
 rcases h with ⟨rfl,rfl⟩ | ⟨cap,rfl⟩ <;> exact h1
theorem strs_drop (l : List ByteArray) (j : Nat) : (strs l).drop j = strs (l.drop j) := by unfold strs;rw [List.map_drop]
theorem strs_take (l : List ByteArray) (j : Nat) : (strs l).take j = strs (l.take j) := by unfold strs;rw [List.map_take]
abbrev Hnk := Nat × Nat × List ByteArray
def hunkL (l m : List ByteArray) : Hnk := (comN l m,(l.drop (comN l m)).length - comN (l.drop (comN l m)).reverse (m.drop (comN l m)).reverse,(m.drop (comN l m)).take ((m.drop (comN l m)).length - comN (l.drop (comN l m)).reverse (m.drop (comN l m)).reverse))
def HunkA (h : Hnk) (v : AV) : Prop := ∃ p,v = .agg [.v (.int .i64 h.1),.v (.int .i64 h.2.1),p] ∧ SlOf 1 (strs h.2.2) p
theorem frzRow {H : Heap} (hk : H.lock = 0) {b v e n : Nat} {cs : List AV} (hr : H.row b v = some (0,e,1,true,cs)) (hn : n = cs.length) (k : Nat) : freezeV H (k + 1) (.sl b v 0 n none) = some (.vs 1 cs none) := by
 subst hn
 unfold freezeV
 simp only [hr]
 rw [if_neg (by omega),if_pos ⟨by omega,by omega⟩,if_pos trivial,List.drop_zero,List.take_of_length_le (by omega),chunk1]
theorem frzHunk {H : Heap} (hk : H.lock = 0) {b v e n : Nat} {cs : List AV} (hr : H.row b v = some (0,e,1,true,cs)) (hn : n = cs.length) (x y : Value) : freezeV H 1000000 (.agg [.v x,.v y,.sl b v 0 n none]) = some (.agg [.v x,.v y,.vs 1 cs none]) := by
 have h1 := frzRow hk hr hn 999995
 have : freezeL H 999999 [.v x,.v y,.sl b v 0 n none] = some [.v x,.v y,.vs 1 cs none] := by
  simp only [freezeL,h1]
  rfl
 show (freezeL H 999999 _).map AV.agg = _
 rw [this];rfl
theorem ans47 {e : Exts} (he : Quiet e) (l m : List ByteArray) (hl : l.length < 100000) (hm : m.length < 100000) (x y : AV) (hx : SlOf 1 (strs l) x) (hy : SlOf 1 (strs m) y) : ∃ v,HunkA (hunkL l m) v ∧ Ans (Cx e) 47 [x,y] v := by
 have c72 := fun me d H => call72 he l m (by omega) x y hx hy me d H
 obtain ⟨k1,k2⟩ := comN_le l m
 obtain ⟨at_,hat⟩ : ∃ n,comN l m = n := ⟨_,rfl⟩
 rw [hat] at c72 k1 k2
 obtain ⟨x1,hx1,hx2⟩ := slice22I hx at_ (by rw [strs_len];omega)
 obtain ⟨y1,hy1,hy2⟩ := slice22I hy at_ (by rw [strs_len];omega)
 rw [strs_drop] at hx2 hy2
 have c72b := fun me d H => call72B he (l.drop at_) (m.drop at_) (by rw [List.length_drop];omega) (by rw [List.length_drop];omega) x1 y1 hx2 hy2 me d H
 obtain ⟨e1,e2⟩ := comN_le (l.drop at_).reverse (m.drop at_).reverse
 rw [List.length_reverse] at e1 e2
 have hh : hunkL l m = (at_,(l.drop at_).length - comN (l.drop at_).reverse (m.drop at_).reverse,(m.drop at_).take ((m.drop at_).length - comN (l.drop at_).reverse (m.drop at_).reverse)) := by unfold hunkL;rw [hat]
 rw [hh]
 have hlx := hx2.len
 have hly := hy2.len
 rw [strs_len] at hlx hly
 have hld : (l.drop at_).length < 100000 := by rw [List.length_drop];omega
 have hmd : (m.drop at_).length < 100000 := by rw [List.length_drop];omega
 obtain ⟨en,hen⟩ : ∃ n,comN (l.drop at_).reverse (m.drop at_).reverse = n := ⟨_,rfl⟩
 rw [hen] at c72b e1 e2 ⊢
 have w1 : IntKind.i64.wrap (((l.drop at_).length : Int) - (en : Int)) = (((l.drop at_).length - en : Nat) : Int) := by rw [wrap_in _ (by omega) (by omega)];omega
 have w2 : IntKind.i64.wrap (((m.drop at_).length : Int) - (en : Int)) = (((m.drop at_).length - en : Nat) : Int) := by rw [wrap_in _ (by omega) (by omega)];omega
 obtain ⟨y2,hy3,hy4⟩ := slice22 hy2 ⟨[some (.cells 0 0 42 1 false [.v (.int .i64 0),.v (.int .i64 0),.v (.slice none 0 0)])],0⟩ ((m.drop at_).length - en) (by rw [strs_len];omega)
 rw [strs_take] at hy4
 generalize hP : (m.drop at_).take ((m.drop at_).length - en) = P at *
 have hPl : P.length < 100000 := by rw [← hP,List.length_take];omega
 generalize (m.drop at_).length - en = pn at *
 generalize (l.drop at_).length - en = dn at *
 simp only [HunkA]
 have key : ∀ p,SlOf 1 (strs P) p → Ans (Cx e) 47 [x,y] (.agg [.v (.int .i64 at_),.v (.int .i64 dn),p]) → ∃ v,(∃ p,v = .agg [.v (.int .i64 at_),.v (.int .i64 dn),p] ∧ SlOf 1 (strs P) p) ∧ Ans (Cx e) 47 [x,y] v := fun p h1 h2 => ⟨_,⟨p,rfl,h1⟩,h2⟩
 rcases hy4 with ⟨rfl,hP0⟩ | ⟨cap,rfl⟩
 ·have c52 := fun X d => call52N he X 47 d
  refine key (.v (.slice none 0 0)) (Or.inl ⟨rfl,hP0⟩) ?_
  unfold Ans
  rw [fn_step (fn_47 e) (show Tryz.f47.body = some _ from rfl)]
  simp -implicitDefEqProofs only [Tryz.f47,go_sem,↓reduceIte,Int.reduceEq,Int.reduceLT,Int.reduceLE,List.reduceReplicate,intA,setT_nil,setT_cons,hx.cells,hx.flat,hx.bound,hy.cells,hy.flat,hy.bound,c72,↓boolP_bool,↓iteB_true,↓iteB_false]
  refine wp_drawX [([],[],false),([],[],false),([],[],false),([],[],false),([],[],false),([2],[],false),([],[],false),([],[],false)] (by kernel_rfl) (by kernel_rfl) ?_
  simp -implicitDefEqProofs only [go_sem,↓reduceIte,Int.reduceEq,Int.reduceLT,Int.reduceLE,List.reduceReplicate,intA,setT_nil,setT_cons,hx1,hy1,hx2.cells,hx2.flat,hx2.bound,hy2.cells,hy2.flat,hy2.bound,hlx,hly,c72b,w1,w2,hy3,c52,↓boolP_bool,↓iteB_true,↓iteB_false]
  rfl
 ·rcases hP0 : P with _ | ⟨p0,P'⟩
  ·have c52 := fun X d => call52E he X cap 47 d
   rw [hP0] at hy3
   rw [← hP0]
   refine key (.vs 1 [] (some 0)) (by rw [hP0];exact Or.inr ⟨_,rfl⟩) ?_
   unfold Ans
   rw [fn_step (fn_47 e) (show Tryz.f47.body = some _ from rfl)]
   simp -implicitDefEqProofs only [Tryz.f47,go_sem,↓reduceIte,Int.reduceEq,Int.reduceLT,Int.reduceLE,List.reduceReplicate,intA,setT_nil,setT_cons,hx.cells,hx.flat,hx.bound,hy.cells,hy.flat,hy.bound,c72,↓boolP_bool,↓iteB_true,↓iteB_false]
   refine wp_drawX [([],[],false),([],[],false),([],[],false),([],[],false),([],[],false),([2],[],false),([],[],false),([],[],false)] (by kernel_rfl) (by kernel_rfl) ?_
   rw [show strs [] = [] from rfl] at hy3
   simp -implicitDefEqProofs only [go_sem,↓reduceIte,Int.reduceEq,Int.reduceLT,Int.reduceLE,List.reduceReplicate,intA,setT_nil,setT_cons,hx1,hy1,hx2.cells,hx2.flat,hx2.bound,hy2.cells,hy2.flat,hy2.bound,hlx,hly,c72b,w1,w2,hy3,c52,↓boolP_bool,↓iteB_true,↓iteB_false]
   rfl
  ·rw [← hP0]
   have hPpos : 0 < P.length := by rw [hP0];simp
   have c52 := fun X d => call52R he X P hPpos hPl cap 47 d
   have hsp : strs P ≠ [] := by rw [hP0];simp [strs]
   refine key (.vs 1 (strs P) none) (Or.inr ⟨_,rfl⟩) ?_
   unfold Ans
   rw [fn_step (fn_47 e) (show Tryz.f47.body = some _ from rfl)]
   simp -implicitDefEqProofs only [Tryz.f47,go_sem,↓reduceIte,Int.reduceEq,Int.reduceLT,Int.reduceLE,List.reduceReplicate,intA,setT_nil,setT_cons,hx.cells,hx.flat,hx.bound,hy.cells,hy.flat,hy.bound,c72,↓boolP_bool,↓iteB_true,↓iteB_false]
   refine wp_drawX [([],[],false),([],[],false),([],[],false),([],[],false),([],[],false),([2],[],false),([],[],false),([],[],false)] (by kernel_rfl) (by kernel_rfl) ?_
   simp -implicitDefEqProofs only [go_sem,↓reduceIte,Int.reduceEq,Int.reduceLT,Int.reduceLE,List.reduceReplicate,intA,setT_nil,setT_cons,hx1,hy1,hx2.cells,hx2.flat,hx2.bound,hy2.cells,hy2.flat,hy2.bound,hlx,hly,c72b,w1,w2,hy3,c52,rowO,bound_sl,↓boolP_bool,↓iteB_true,↓iteB_false]
   exact frzHunk rfl (by unfold Heap.row Heap.get;simp;rfl) (strs_len P).symm _ _
end Go.Ev
namespace Go.Ev
open Go.Proofs
attribute [local irreducible] Wp WpS
theorem cap22 : capA Tryz.prog [22] [.v (.slice none 0 0)] = some (.v (.int .i64 0)) := by kernel_rfl
theorem slLen_none : slLen (.v (.slice none 0 0)) = some (.v (.int .i64 0)) := rfl
theorem sliceN (H : Heap) : sliceA Tryz.prog H 22 (.v (.slice none 0 0)) none (some (.v (.int .i64 0))) none = some (.v (.slice none 0 0)) := by
 unfold sliceA
 simp only [und_22,und22s]
 rfl
theorem repStr : ∀ n : Nat,repeatCells [AV.v (.string ⟨#[]⟩)] n = strs (List.replicate n ⟨#[]⟩)
 | 0 => rfl
 | n + 1 => by
  show AV.v (.string ⟨#[]⟩) :: repeatCells [AV.v (.string ⟨#[]⟩)] n = _
  rw [repStr n];rfl
theorem grow22 (H : Heap) (slot n : Nat) (h0 : 0 < n) (hn : n < 100000) : appendA Tryz.prog H slot [22,3] [.v (.slice none 0 0),.v (.int .i64 n)] = some (.sl slot 0 0 n none,H.put slot (rowO (List.replicate n ⟨#[]⟩))) := by
 have hi : (Tryz.prog.info? 9).map (fun i => (i.size,i.bytes)) = some (1,16) := by kernel_rfl
 obtain ⟨i,hi1,hi2⟩ := Option.map_eq_some_iff.1 hi
 simp only [Prod.mk.injEq] at hi2
 obtain ⟨hs,hb⟩ := hi2
 have hu3 : Tryz.prog.underlying 3 = some (.int .i64) := by kernel_rfl
 have hint : isIntT Tryz.prog 3 = true := by kernel_rfl
 have hf : fitsA 16 n = true := by unfold fitsA;exact decide_eq_true (by omega)
 unfold appendA
 simp only [hint,if_true]
 unfold growA
 simp only [und_22,hu3,hi1,zero_9,hs,hb]
 rw [if_pos ⟨by omega,by omega,by omega,rfl,rfl⟩,Int.toNat_natCast]
 unfold madeA
 rw [hb,hf]
 show some (AV.sl slot 0 0 n none,H.put slot (.cells 0 (Nat.max (boundL []) (boundL (repeatCells [AV.v (.string ⟨#[]⟩)] n))) 9 i.size true ([] ++ repeatCells [AV.v (.string ⟨#[]⟩)] n))) = _
 rw [hs,List.nil_append,repStr,strs_bd]
 rfl
theorem sliceR {X : Heap} {N n : Nat} {l : List ByteArray} (hr : X.row N 0 = some (0,9,1,true,strs l)) (hn : 0 < n) : sliceA Tryz.prog X 22 (.sl N 0 0 n none) none (some (.v (.int .i64 0))) none = some (.sl N 0 0 0 none) := by
 have b1 : boundA (some (.v (.int .i64 0))) n n = some 0 := by
  unfold boundA
  simp only []
  rw [if_pos (by omega)];rfl
 have b2 : boundA none 0 0 = some 0 := rfl
 unfold sliceA
 simp only [und_22,und22s,b1,b2,hr]
 rw [if_neg (by simp),if_neg (by omega)]
 rfl
theorem fn100Z {e : Exts} (_he : Quiet e) {X : Heap} {N : Nat} (hN : X.size = N) : Fn' (Cx e) 100 [.v (.slice none 0 0),.v (.int .i64 0)] X (fun v Y => v = .v (.slice none 0 0) ∧ Y = X) := by
 rw [fn_step (fn_100 e) (show Tryz.f100.body = some _ from rfl)]
 simp -implicitDefEqProofs only [Tryz.f100,go_sem,↓reduceIte,Int.reduceEq,Int.reduceLT,Int.reduceLE,List.reduceReplicate,intA,setT_nil,setT_cons,hN,settle_eqN hN,cap22,slLen_none,Int.sub_zero,show IntKind.i64.wrap 0 = 0 from rfl,↓boolP_bool,↓iteB_true,↓iteB_false]
 exact ⟨rfl,rfl⟩
theorem fn100 {e : Exts} (_he : Quiet e) {X : Heap} {N : Nat} (hN : X.size = N) (n : Nat) (h0 : 0 < n) (hn : n < 100000) : Fn' (Cx e) 100 [.v (.slice none 0 0),.v (.int .i64 n)] X (fun v Y => v = .sl N 0 0 0 none ∧ Y = X.plus [some (rowO (List.replicate n ⟨#[]⟩))]) := by
 rw [fn_step (fn_100 e) (show Tryz.f100.body = some _ from rfl)]
 have h1 : ¬ (n : Int) < 0 := by omega
 have h2 : (n : Int) > 0 := by omega
 have w1 : IntKind.i64.wrap ((n : Int) - 0) = (n : Int) := by rw [Int.sub_zero,wrap_in _ (by omega) (by omega)]
 have hput : X.put N (rowO (List.replicate n ⟨#[]⟩)) = X.plus [some (rowO (List.replicate n ⟨#[]⟩))] := by rw [← hN];exact put_push _
 have hget : (X.plus [some (rowO (List.replicate n ⟨#[]⟩))]).get N = some (rowO (List.replicate n ⟨#[]⟩)) := by rw [← hput];exact put_get_eq _ (by omega)
 have hset := settle_live (Nat.le_refl N) hget
 have hgr := fun slot => grow22 X slot n h0 hn
 have hsl := sliceR (n := n) (get_row hget) h0
 rw [Int.sub_zero] at w1
 simp -implicitDefEqProofs only [Tryz.f100,go_sem,↓reduceIte,Int.reduceEq,Int.reduceLT,Int.reduceLE,List.reduceReplicate,intA,setT_nil,setT_cons,hN,settle_eqN hN,h1,h2,w1,cap22,slLen_none,sliceN,hgr,hput,hsl,hset,Int.sub_zero,show IntKind.i64.wrap 0 = 0 from rfl,decide_true,decide_false,↓boolP_bool,↓iteB_true,↓iteB_false]
 exact ⟨rfl,rfl⟩
theorem call100Z {e : Exts} (he : Quiet e) (X : Heap) (me : FuncId) (d : Option Tmp) : callA (Cx e) (lim (Cx e)) me 100 d [.v (.slice none 0 0),.v (.int .i64 0)] X = some (.v (.slice none 0 0),X) := by
 rw [call_kept (ext_100 he) (by unfold callKind;rfl) (fn100Z he rfl),trim_size]
theorem call100 {e : Exts} (he : Quiet e) (X : Heap) (n : Nat) (h0 : 0 < n) (hn : n < 100000) (me : FuncId) (d : Option Tmp) : callA (Cx e) (lim (Cx e)) me 100 d [.v (.slice none 0 0),.v (.int .i64 n)] X = some (.sl X.size 0 0 0 none,X.plus [some (rowO (List.replicate n ⟨#[]⟩))]) := by
 rw [call_kept (ext_100 he) (by unfold callKind;rfl) (fn100 he rfl n h0 hn),trim_up]
 rw [boundL_cons,bound_sl]
 exact Nat.lt_of_lt_of_le (Nat.lt_succ_self _) (Nat.le_max_left _ _)
end Go.Ev
namespace Go.Ev
open Go.Proofs
attribute [local irreducible] Wp WpS
def lens : List (List ByteArray) → Nat
 | [] => 0
 | p :: r => p.length + lens r
theorem lens_flat : ∀ ps : List (List ByteArray),ps.flatten.length = lens ps
 | [] => rfl
 | p :: r => by rw [List.flatten_cons,List.length_append,lens_flat r];rfl
theorem lens_app : ∀ a b : List (List ByteArray),lens (a ++ b) = lens a + lens b
 | [],b => by simp [lens]
 | p :: a,b => by
  show p.length + lens (a ++ b) = p.length + lens a + lens b
  rw [lens_app a b];omega
theorem take_next {α : Type} {l : List α} {j : Nat} {x : α} (h : l[j]? = some x) : l.take (j + 1) = l.take j ++ [x] := by
 rw [List.take_add_one,h];rfl
theorem lens_take (ps : List (List ByteArray)) (j : Nat) (p : List ByteArray) (h : ps[j]? = some p) : lens (ps.take (j + 1)) = lens (ps.take j) + p.length := by
 rw [take_next h,lens_app];simp [lens]
theorem lens_le (ps : List (List ByteArray)) (j : Nat) : lens (ps.take j) ≤ lens ps := by
 have := lens_app (ps.take j) (ps.drop j)
 rw [List.take_append_drop] at this;omega
theorem cells_SlOf {H : Heap} {p : List ByteArray} {y : AV} (h : SlOf 1 (strs p) y) : cellsFrom H 1 y = some (p.length,strs p) := by
 rcases h with ⟨rfl,hp⟩ | ⟨cap,rfl⟩
 ·have : p = [] := by cases p with
   | nil => rfl
   | cons a r => exact nomatch hp
  subst this;rfl
 ·rw [cells_vs',if_pos rfl,strs_len,strs_cells]
def rowG (A : List ByteArray) (r : Nat) : Heap := ⟨[some (.cells 0 0 9 1 true (strs (A ++ List.replicate r ⟨#[]⟩)))],0⟩
theorem appIn (A p : List ByteArray) (r slot : Nat) (hr : p.length ≤ r) : appTo 9 1 16 (rowG A r) slot p.length (strs p) (.sl 0 0 0 A.length none) = some (.sl 0 0 0 (A.length + p.length) none,rowG (A ++ p) (r - p.length)) := by
 by_cases h0 : p.length = 0
 ·have : p = [] := List.length_eq_zero_iff.1 h0
  subst this
  rw [List.length_nil,appTo_none,List.append_nil];rfl
 ·have hrow : (rowG A r).row 0 0 = some (0,9,1,true,strs (A ++ List.replicate r ⟨#[]⟩)) := by unfold rowG Heap.row Heap.get;simp
  have hlen : (strs (A ++ List.replicate r (⟨#[]⟩ : ByteArray))).length = A.length + r := by rw [strs_len];simp
  have hst : storeCells (rowG A r) 0 0 (0 + A.length * 1) (strs p) = some (rowG (A ++ p) (r - p.length)) := by
   unfold storeCells
   rw [hrow]
   simp only []
   rw [if_pos ⟨Nat.zero_le _,by rw [hlen,strs_len];omega,strs_flat p⟩,strs_bd]
   have hsp : splice (0 + A.length * 1) (strs p) (strs (A ++ List.replicate r (⟨#[]⟩ : ByteArray))) = strs (A ++ p ++ List.replicate (r - p.length) ⟨#[]⟩) := by
    unfold splice
    rw [show 0 + A.length * 1 = A.length by omega,strs_len,strs_take,strs_drop,List.take_left' rfl,← List.drop_drop,List.drop_left' rfl,List.drop_replicate]
    unfold strs
    rw [List.map_append,List.map_append]
   rw [hsp];rfl
  unfold appTo
  simp only [hrow]
  rw [if_neg h0,if_neg (by simp),if_pos (by rw [hlen];omega),hst]
theorem ans86V {e : Exts} (he : Quiet e) (ps : List (List ByteArray)) (hps : ps.length < 1000) (htot : lens ps < 100000) (xs : List AV) (hxl : xs.length = ps.length) (hxs : ∀ (j : Nat) (p : List ByteArray),ps[j]? = some p → ∃ y,xs[j]? = some y ∧ SlOf 1 (strs p) y) (x : AV) (hx : SlOf 1 xs x) (V : AV) (hV : (lens ps = 0 ∧ V = .v (.slice none 0 0)) ∨ (0 < lens ps ∧ V = .vs 1 (strs ps.flatten) none)) : Ans (Cx e) 86 [x] V := by
 have hlx := hx.len
 rw [hxl] at hlx
 unfold Ans
 rw [fn_step (fn_86 e) (show Tryz.f86.body = some _ from rfl)]
 simp -implicitDefEqProofs only [Tryz.f86,go_sem,↓reduceIte,Int.reduceEq,Int.reduceLT,Int.reduceLE,List.reduceReplicate,intA,setT_nil,setT_cons,hx.cells,hx.flat,hx.bound,hlx,↓boolP_bool,↓iteB_true,↓iteB_false]
 refine Lp_ruleQ (P := fun μ a H => ∃ j,j + μ = ps.length ∧ a = ⟨36,[(0,x),(2,.v (.slice none 0 0)),(3,intA (lens (ps.take j) : Nat)),(9,x),(10,intA ps.length),(11,intA (j : Nat))],[]⟩ ∧ H = ⟨[],0⟩) ?_ ps.length _ _ ⟨0,by omega,rfl,rfl⟩
 rintro Q KK hQ hKK μ _ _ ⟨j,hj,rfl,rfl⟩
 cases μ with
 | succ μ =>
  obtain ⟨p,hp⟩ := at_lt ps j (by omega)
  obtain ⟨y,hy1,hy2⟩ := hxs j p hp
  have hlt : (j : Int) < (ps.length : Int) := by omega
  have hix := hx.idx hy1
  have hly := hy2.len
  rw [strs_len] at hly
  have hw := wrap_succ j (by omega)
  have hle := lens_le ps j
  have hle2 := lens_le ps (j + 1)
  have hlt2 := lens_take ps j p hp
  have w1 : IntKind.i64.wrap (((lens (ps.take j) : Nat) : Int) + (p.length : Int)) = ((lens (ps.take (j + 1)) : Nat) : Int) := by rw [wrap_in _ (by omega) (by omega)];omega
  have hneg : ¬ ((lens (ps.take (j + 1)) : Nat) : Int) < 0 := by omega
  simp -implicitDefEqProofs only [go_sem,↓reduceIte,Int.reduceEq,Int.reduceLT,Int.reduceLE,List.reduceReplicate,intA,setT_nil,setT_cons,hlt,hix,hy2.cells,hy2.flat,hly,w1,hneg,hw,hx.cells,hx.flat,hx.bound,↓boolP_bool,↓iteB_true,↓iteB_false]
  exact Again.mk' μ (by omega) (hQ _ _ _ ⟨j + 1,by omega,rfl,rfl⟩)
 | zero =>
  obtain rfl : j = ps.length := by omega
  have hlt : ¬ (ps.length : Int) < (ps.length : Int) := by omega
  rw [List.take_length]
  simp -implicitDefEqProofs only [go_sem,↓reduceIte,Int.reduceEq,Int.reduceLT,Int.reduceLE,List.reduceReplicate,intA,setT_nil,setT_cons,hlt,↓boolP_bool,↓iteB_true,↓iteB_false]
  refine hKK _ _ _ ?_
  rcases hV with ⟨h0,rfl⟩ | ⟨h0,rfl⟩
  ·have c100 := fun X me d => call100Z he X me d
   have hz : ((lens ps : Nat) : Int) = 0 := by omega
   simp -implicitDefEqProofs only [go_sem,↓reduceIte,Int.reduceEq,Int.reduceLT,Int.reduceLE,List.reduceReplicate,intA,setT_nil,setT_cons,hz,c100,hx.cells,hx.flat,hx.bound,hlx,↓boolP_bool,↓iteB_true,↓iteB_false]
   refine Lp_ruleQ (P := fun μ a H => ∃ j,j + μ = ps.length ∧ a = ⟨36,[(0,x),(2,.v (.slice none 0 0)),(3,intA 0),(9,x),(10,intA ps.length),(11,intA ps.length),(6,.v (.slice none 0 0)),(25,x),(26,intA ps.length),(27,intA (j : Nat))],[]⟩ ∧ H = ⟨[],0⟩) ?_ ps.length _ _ ⟨0,by omega,rfl,rfl⟩
   rintro Q2 K2 hQ2 hK2 μ2 _ _ ⟨j,hj,rfl,rfl⟩
   cases μ2 with
   | zero =>
    obtain rfl : j = ps.length := by omega
    simp -implicitDefEqProofs only [go_sem,↓reduceIte,Int.reduceEq,Int.reduceLT,Int.reduceLE,List.reduceReplicate,intA,setT_nil,setT_cons,hlt,↓boolP_bool,↓iteB_true,↓iteB_false]
    refine hK2 _ _ _ ?_
    simp -implicitDefEqProofs only [go_sem,↓reduceIte,Int.reduceEq,Int.reduceLT,Int.reduceLE,List.reduceReplicate,intA,setT_nil,setT_cons,↓boolP_bool,↓iteB_true,↓iteB_false]
   | succ μ2 =>
    obtain ⟨p,hp⟩ := at_lt ps j (by omega)
    obtain ⟨y,hy1,hy2⟩ := hxs j p hp
    have hltj : (j : Int) < (ps.length : Int) := by omega
    have hix := hx.idx hy1
    have hw := wrap_succ j (by omega)
    have hp0 : p = [] := List.length_eq_zero_iff.1 (by
     have h1 := lens_take ps j p hp
     have h2 := lens_le ps (j + 1)
     omega)
    subst hp0
    have hcl := fun H => cells_SlOf (H := H) hy2
    simp only [List.length_nil,show strs [] = [] from rfl] at hcl
    simp -implicitDefEqProofs only [go_sem,↓reduceIte,Int.reduceEq,Int.reduceLT,Int.reduceLE,List.reduceReplicate,intA,setT_nil,setT_cons,hltj,hix,hy2.cells,hy2.flat,hcl,hw,hx.cells,hx.flat,hx.bound,List.all_nil,↓boolP_bool,↓iteB_true,↓iteB_false]
    exact Again.mk' μ2 (by omega) (hQ2 _ _ _ ⟨j + 1,by omega,rfl,rfl⟩)
  ·have c100 := fun X me d => call100 he X (lens ps) h0 htot me d
   simp -implicitDefEqProofs only [go_sem,↓reduceIte,Int.reduceEq,Int.reduceLT,Int.reduceLE,List.reduceReplicate,intA,setT_nil,setT_cons,c100,hx.cells,hx.flat,hx.bound,hlx,↓boolP_bool,↓iteB_true,↓iteB_false]
   refine Lp_ruleQ (P := fun μ a H => ∃ j,j + μ = ps.length ∧ a = ⟨36,[(0,x),(2,.v (.slice none 0 0)),(3,intA (lens ps)),(9,x),(10,intA ps.length),(11,intA ps.length),(6,.sl 0 0 0 (lens (ps.take j)) none),(25,x),(26,intA ps.length),(27,intA (j : Nat))],[]⟩ ∧ H = rowG (ps.take j).flatten (lens ps - lens (ps.take j))) ?_ ps.length _ _ ⟨0,by omega,rfl,rfl⟩
   rintro Q2 K2 hQ2 hK2 μ2 _ _ ⟨j,hj,rfl,rfl⟩
   cases μ2 with
   | zero =>
    obtain rfl : j = ps.length := by omega
    rw [List.take_length,Nat.sub_self]
    have hrg : rowG ps.flatten 0 = ⟨[some (.cells 0 0 9 1 true (strs ps.flatten))],0⟩ := by unfold rowG;simp
    rw [hrg]
    simp -implicitDefEqProofs only [go_sem,↓reduceIte,Int.reduceEq,Int.reduceLT,Int.reduceLE,List.reduceReplicate,intA,setT_nil,setT_cons,hlt,↓boolP_bool,↓iteB_true,↓iteB_false]
    refine hK2 _ _ _ ?_
    simp -implicitDefEqProofs only [go_sem,↓reduceIte,Int.reduceEq,Int.reduceLT,Int.reduceLE,List.reduceReplicate,intA,setT_nil,setT_cons,↓boolP_bool,↓iteB_true,↓iteB_false]
    exact frzRow (k := 999999) rfl (by unfold Heap.row Heap.get;simp;rfl) (by rw [strs_len,lens_flat])
   | succ μ2 =>
    obtain ⟨p,hp⟩ := at_lt ps j (by omega)
    obtain ⟨y,hy1,hy2⟩ := hxs j p hp
    have hltj : (j : Int) < (ps.length : Int) := by omega
    have hix := hx.idx hy1
    have hw := wrap_succ j (by omega)
    have hcl := fun H => cells_SlOf (H := H) hy2
    have h1 := lens_take ps j p hp
    have h2 := lens_le ps (j + 1)
    have hA : (ps.take j).flatten.length = lens (ps.take j) := lens_flat _
    have hap := fun slot => appIn (ps.take j).flatten p (lens ps - lens (ps.take j)) slot (by omega)
    rw [hA] at hap
    have hB : rowG ((ps.take j).flatten ++ p) (lens ps - lens (ps.take j) - p.length) = rowG (ps.take (j + 1)).flatten (lens ps - lens (ps.take (j + 1))) := by
     rw [take_next hp,List.flatten_append,lens_app,show lens [p] = p.length by simp [lens]]
     congr 1
     ·simp
     ·omega
    rw [hB,← h1] at hap
    obtain ⟨c1,hc1⟩ : ∃ c,rowG (ps.take j).flatten (lens ps - lens (ps.take j)) = ⟨[some (.cells 0 0 9 1 true c)],0⟩ := ⟨_,rfl⟩
    obtain ⟨c2,hc2⟩ : ∃ c,rowG (ps.take (j + 1)).flatten (lens ps - lens (ps.take (j + 1))) = ⟨[some (.cells 0 0 9 1 true c)],0⟩ := ⟨_,rfl⟩
    rw [hc1,hc2] at hap
    rw [hc1]
    simp -implicitDefEqProofs only [go_sem,↓reduceIte,Int.reduceEq,Int.reduceLT,Int.reduceLE,List.reduceReplicate,intA,setT_nil,setT_cons,hltj,hix,hy2.cells,hy2.flat,hcl,strs_flat,hap,hw,hx.cells,hx.flat,hx.bound,↓boolP_bool,↓iteB_true,↓iteB_false]
    exact Again.mk' μ2 (by omega) (hQ2 _ _ _ ⟨j + 1,by omega,rfl,hc2.symm⟩)
theorem ans86 {e : Exts} (he : Quiet e) (ps : List (List ByteArray)) (hps : ps.length < 1000) (htot : lens ps < 100000) (xs : List AV) (hxl : xs.length = ps.length) (hxs : ∀ (j : Nat) (p : List ByteArray),ps[j]? = some p → ∃ y,xs[j]? = some y ∧ SlOf 1 (strs p) y) (x : AV) (hx : SlOf 1 xs x) : ∃ v,SlOf 1 (strs ps.flatten) v ∧ Ans (Cx e) 86 [x] v := by
 by_cases h0 : lens ps = 0
 ·refine ⟨.v (.slice none 0 0),Or.inl ⟨rfl, ?_⟩,ans86V he ps hps htot xs hxl hxs x hx _ (Or.inl ⟨h0,rfl⟩)⟩
  have : ps.flatten = [] := List.length_eq_zero_iff.1 (by rw [lens_flat];exact h0)
  rw [this];rfl
 ·exact ⟨_,Or.inr ⟨_,rfl⟩,ans86V he ps hps htot xs hxl hxs x hx _ (Or.inr ⟨by omega,rfl⟩)⟩
end Go.Ev
namespace Go.Ev
open Go.Proofs
attribute [local irreducible] Wp WpS
def chL (l : List ByteArray) (h : Hnk) : List ByteArray := l.take h.1 ++ (h.2.2 ++ l.drop (h.1 + h.2.1))
theorem SlOf.frz {sz : Nat} {xs : List AV} {x : AV} (h : SlOf sz xs x) (H : Heap) : freezeV H 1000000 x = some x := by
 rcases h with ⟨rfl, -⟩ | ⟨cap,rfl⟩
 ·exact freeze_v _ _
 ·exact freeze_vs _ _ _ _
theorem bound_vsL (xs : List AV) (c : Option Nat) : boundL [.vs 1 xs c] = 0 := by rw [boundL_cons,boundL_nil];rfl
theorem ans71 {e : Exts} (he : Quiet e) (l : List ByteArray) (h : Hnk) (hl : l.length < 30000) (hp : h.2.2.length < 30000) (hh : h.1 + h.2.1 ≤ l.length) (x y : AV) (hx : SlOf 1 (strs l) x) (hy : HunkA h y) : ∃ v,SlOf 1 (strs (chL l h)) v ∧ Ans (Cx e) 71 [x,y] v := by
 obtain ⟨a,d,P⟩ := h
 obtain ⟨p,rfl,hp2⟩ := hy
 simp only at hp hh hp2 ⊢
 obtain ⟨x1,hx1,hx2⟩ := slice22Ih hx a (by rw [strs_len];omega)
 obtain ⟨x3,hx3,hx4⟩ := slice22I hx (a + d) (by rw [strs_len];omega)
 rw [strs_take] at hx2
 rw [strs_drop] at hx4
 have w1 : IntKind.i64.wrap ((a : Int) + (d : Int)) = ((a + d : Nat) : Int) := by rw [wrap_in _ (by omega) (by omega)];omega
 obtain ⟨v,hv,hc⟩ := ans86 he [l.take a,P,l.drop (a + d)] (by simp) (by simp [lens];omega) [x1,p,x3] rfl (by
  intro j q hq
  match j,hq with
  | 0,hq => obtain rfl : l.take a = q := by simpa using hq
            exact ⟨_,rfl,hx2⟩
  | 1,hq => obtain rfl : P = q := by simpa using hq
            exact ⟨_,rfl,hp2⟩
  | 2,hq => obtain rfl : l.drop (a + d) = q := by simpa using hq
            exact ⟨_,rfl,hx4⟩
  | j + 3,hq => exact nomatch hq) _ (Or.inr ⟨some 3,rfl⟩)
 have c86 := fun me d => hc.callI (me := me) (d := d) (ext_86 he) (pure_86 _ _ _) (bound_vsL _ _)
 refine ⟨v, ?_, ?_⟩
 ·have : chL l (a,d,P) = [l.take a,P,l.drop (a + d)].flatten := by unfold chL;simp
  rw [this];exact hv
 unfold Ans
 rw [fn_step (fn_71 e) (show Tryz.f71.body = some _ from rfl)]
 simp -implicitDefEqProofs only [Tryz.f71,go_sem,↓reduceIte,Int.reduceEq,Int.reduceLT,Int.reduceLE,List.reduceReplicate,intA,setT_nil,setT_cons,hx.cells,hx.flat,hx.bound,hp2.cells,hp2.flat,hp2.bound,↓boolP_bool,↓iteB_true,↓iteB_false]
 refine wp_drawX [([],[],false),([],[],false),([],[],false),([],[],false),([],[],false),([2,3],[],false),([],[],false),([],[],false),([2,3,5],[],false),([],[],false),([2,3,5,8],[],false),([],[],false),([2,3,5],[],false),([],[],false),([],[13],false),([],[],false)] (by kernel_rfl) (by kernel_rfl) ?_
 simp -implicitDefEqProofs only [go_sem,↓reduceIte,Int.reduceEq,Int.reduceLT,Int.reduceLE,List.reduceReplicate,intA,setT_nil,setT_cons,hx1,hx3,w1,c86,hx2.cells,hx2.flat,hx2.bound,hx4.cells,hx4.flat,hx4.bound,hx.cells,hx.flat,hx.bound,hp2.cells,hp2.flat,hp2.bound,↓boolP_bool,↓iteB_true,↓iteB_false]
 exact hv.frz _
end Go.Ev
namespace Go.Ev
open Go.Proofs
attribute [local irreducible] Wp WpS
def HunkOk (l : List ByteArray) (h : Hnk) : Prop := h.1 + h.2.1 ≤ l.length ∧ h.2.2.length ≤ 200
theorem chL_len (l : List ByteArray) (h : Hnk) (hh : h.1 + h.2.1 ≤ l.length) : (chL l h).length = l.length - h.2.1 + h.2.2.length := by
 unfold chL
 rw [List.length_append,List.length_append,List.length_take,List.length_drop]
 omega
theorem bound_hnk (p : AV) (hp : bound p = 0) {x y : Value} : bound (.agg [.v x,.v y,p]) = 0 := by
 show boundL [.v x,.v y,p] = 0
 simp only [boundL_cons,boundL_nil,hp];rfl
end Go.Ev
namespace Go.Ev
open Go.Proofs
attribute [local irreducible] Wp WpS
theorem hunkL_ok (o a : List ByteArray) (ha : a.length ≤ 200) : HunkOk o (hunkL o a) := by
 obtain ⟨k1,k2⟩ := comN_le o a
 unfold HunkOk hunkL
 simp only [List.length_take,List.length_drop]
 omega
theorem sl3 {l : List ByteArray} {z : AV} (hz : SlOf 1 (strs l) z) : (l = [] ∧ z = .v (.slice none 0 0)) ∨ (l = [] ∧ ∃ cap,z = .vs 1 [] cap) ∨ (0 < l.length ∧ ∃ cap,z = .vs 1 (strs l) cap) := by
 rcases hz with ⟨rfl,hn⟩ | ⟨cap,rfl⟩
 ·refine Or.inl ⟨?_,rfl⟩
  cases l with
  | nil => rfl
  | cons a r => exact nomatch hn
 ·cases l with
  | nil => exact Or.inr (Or.inl ⟨rfl,cap,rfl⟩)
  | cons a r => exact Or.inr (Or.inr ⟨Nat.succ_pos _,cap,rfl⟩)
end Go.Ev
namespace Go.Ev
open Go.Proofs
attribute [local irreducible] Wp WpS
theorem pure_52_45 (e : Exts) (d : Option Tmp) : (Cx e).pure 45 52 d = true := rfl
theorem pure_52_46 (e : Exts) (d : Option Tmp) : (Cx e).pure 46 52 d = true := rfl
theorem fn_mono {C : Cfg} {f : FuncId} {args : List AV} {H : Heap} {K K' : PostO} (h : Fn' C f args H K) (hk : ∀ v X,AtO K v X → AtO K' v X) : Fn' C f args H K' := by
 unfold Fn' at *
 rw [bindO_iff] at *
 obtain ⟨o,h1,h2⟩ := h
 refine ⟨o,h1, ?_⟩
 cases o with
 | go => exact h2.elim
 | ret x X => exact hk x X h2
theorem ans52 {e : Exts} (he : Quiet e) (l : List ByteArray) (hl : l.length < 100000) (x : AV) (hx : SlOf 1 (strs l) x) : ∃ v,SlOf 1 (strs l) v ∧ Ans (Cx e) 52 [x] v := by
 rcases sl3 hx with ⟨h0,rfl⟩ | ⟨h0,cap,rfl⟩ | ⟨h0,cap,rfl⟩
 ·refine ⟨_,Or.inl ⟨rfl,by rw [h0];rfl⟩,fn_mono (fn52N he (X := ⟨[],0⟩) (N := 0) rfl) ?_⟩
  rintro _ _ ⟨rfl,rfl⟩;rfl
 ·refine ⟨.vs 1 [] (some 0),Or.inr ⟨some 0,by rw [h0];rfl⟩,fn_mono (fn52E he (X := ⟨[],0⟩) (N := 0) rfl cap) ?_⟩
  rintro _ _ ⟨rfl,rfl⟩;rfl
 ·refine ⟨.vs 1 (strs l) none,Or.inr ⟨none,rfl⟩,fn_mono (fn52R he (X := ⟨[],0⟩) (N := 0) rfl l h0 hl cap) ?_⟩
  rintro _ _ ⟨rfl,rfl⟩
  exact frzRow (k := 999999) rfl (by unfold Heap.plus Heap.row Heap.get;rfl) (strs_len l).symm
def okH (l : List ByteArray) (h : Hnk) : Prop := h.1 + h.2.1 ≤ l.length ∧ rowsB h.2.2 = true ∧ l.length - h.2.1 + h.2.2.length ≤ 200
theorem ans70 {e : Exts} (he : Quiet e) (l : List ByteArray) (hl : l.length ≤ 200) (h : Hnk) (hh : okH l h) (hf : FitsR h.2.2) (x y : AV) (hx : HunkA h x) (hy : SlOf 1 (strs l) y) : Ans (Cx e) 70 [x,y] (.v (.bool true)) := by
 obtain ⟨a,d,P⟩ := h
 obtain ⟨p,rfl,hp⟩ := hx
 obtain ⟨h1,h2,h3⟩ := hh
 simp only at h1 h2 h3 hf hp
 have c50 := fun me dd H => call50 he P hf p hp me dd H
 rw [h2] at c50
 have hly := hy.len
 have hlp := hp.len
 rw [strs_len] at hly hlp
 have w1 : IntKind.i64.wrap ((l.length : Int) - (a : Int)) = ((l.length - a : Nat) : Int) := by rw [wrap_in _ (by omega) (by omega)];omega
 have w2 : IntKind.i64.wrap ((l.length : Int) - (d : Int)) = ((l.length - d : Nat) : Int) := by rw [wrap_in _ (by omega) (by omega)];omega
 have w3 : IntKind.i64.wrap (((l.length - d : Nat) : Int) + (P.length : Int)) = ((l.length - d + P.length : Nat) : Int) := by rw [wrap_in _ (by omega) (by omega)];omega
 have c1 := fun cap me dd H => call64 he 0 (l.length : Nat) (a : Nat) cap me dd H
 have c2 := fun cap me dd H => call64 he 0 ((l.length - a : Nat) : Int) (d : Nat) cap me dd H
 rw [decide_eq_true (by omega : (0 : Int) ≤ (a : Int)),decide_eq_true (by omega : (a : Int) ≤ (l.length : Int))] at c1
 rw [decide_eq_true (by omega : (0 : Int) ≤ (d : Int)),decide_eq_true (by omega : (d : Int) ≤ ((l.length - a : Nat) : Int))] at c2
 have h4 : ((l.length - d + P.length : Nat) : Int) ≤ 200 := by omega
 unfold Ans
 rw [fn_step (fn_70 e) (show Tryz.f70.body = some _ from rfl)]
 simp -implicitDefEqProofs only [Tryz.f70,go_sem,↓reduceIte,Int.reduceEq,Int.reduceLT,Int.reduceLE,List.reduceReplicate,intA,setT_nil,setT_cons,c50,c1,c2,hly,hlp,w1,w2,w3,h4,hp.cells,hp.flat,hp.bound,hy.cells,hy.flat,hy.bound,Bool.and_true,Bool.true_and,decide_true,↓boolP_bool,↓iteB_true,↓iteB_false]
 done
end Go.Ev
namespace Go.Ev
def tiled (P : Program) : Nat → List Field → Nat → Bool
 | k,[],e => k == e
 | k,f :: r,e => f.offset == k && tiled P (k + P.cellsOf f.type) r e
def plainT (P : Program) : Nat → TypeId → Bool
 | 0,_ => false
 | n + 1,t =>
  match P.underlying t with
  | some .bool => true
  | some (.int _) => true
  | some .string => true
  | some (.slice e) => decide (0 < P.cellsOf e) && plainT P n e
  | some (.struct fs) => tiled P 0 fs.toList (P.cellsOf t) && fs.toList.all fun f => plainT P n f.type
  | _ => false
def elemOf (cs : List AV) : AV := match cs with | [c] => c | cs => .agg cs
def Plain (P : Program) : Nat → TypeId → List AV → Prop
 | 0,_,_ => False
 | n + 1,t,cs =>
  match P.underlying t with
  | some .bool => ∃ b,cs = [.v (.bool b)]
  | some (.int k) => ∃ m,cs = [.v (.int k m)] ∧ (Lit.int k m).wf = true
  | some .string => ∃ s,cs = [.v (.string s)] ∧ s.size ≤ maxLen
  | some (.slice e) => ∃ x xs,cs = [x] ∧ SlOf (P.cellsOf e) xs x ∧ xs.length ≤ maxLen ∧ ∀ y ∈ xs,∃ c,y = elemOf c ∧ c.length = P.cellsOf e ∧ Plain P n e c
  | some (.struct fs) => cs.length = P.cellsOf t ∧ ∀ f ∈ fs.toList,Plain P n f.type ((cs.drop f.offset).take (P.cellsOf f.type))
  | _ => False
theorem elem_cells {cs : List AV} (h : ∀ c ∈ cs,c.flat = true) : (elemOf cs).cells = cs := by
 unfold elemOf
 split
 ·rename_i c
  have := h c (by simp)
  cases c <;> simp_all [AV.cells,AV.flat]
 ·rfl
theorem exists_list {α : Type} {Q : Nat → α → Prop} : ∀ (n : Nat),(∀ i,i < n → ∃ y,Q i y) → ∃ l : List α,l.length = n ∧ ∀ i y,l[i]? = some y → Q i y
 | 0,_ => ⟨[],rfl,fun i y h => by simp at h⟩
 | n + 1,h => by
  obtain ⟨l,hl,hq⟩ := exists_list n fun i hi => h i (by omega)
  obtain ⟨y,hy⟩ := h n (by omega)
  refine ⟨l ++ [y],by simp [hl],fun i z hz => ?_⟩
  by_cases hi : i < l.length
  ·rw [List.getElem?_append_left hi] at hz;exact hq i z hz
  ·have hlt := (List.getElem?_eq_some_iff.1 hz).1
   simp at hlt
   have : i = l.length := by omega
   subst this
   simp at hz;subst hz;rw [hl];exact hy
theorem tile_rep {Z : Fzn} {ρ : Pls} {P : Program} {Q : Field → List AV → Prop} : ∀ (fs : List Field) (k e : Nat) (cs : List Value),tiled P k fs e = true → cs.length = e →
  (∀ f ∈ fs,∃ a,RepL Z ρ a ((cs.drop f.offset).take (P.cellsOf f.type)) ∧ Q f a ∧ ∀ c ∈ a,c.flat = true) →
  k ≤ e → ∃ A,RepL Z ρ A (cs.drop k) ∧ (∀ c ∈ A,c.flat = true) ∧ ∀ f ∈ fs,k ≤ f.offset ∧ f.offset + P.cellsOf f.type ≤ e ∧ Q f ((A.drop (f.offset - k)).take (P.cellsOf f.type))
 | [],k,e,cs,ht,hl,_,_ => by
  have : k = e := by simpa [tiled] using ht
  subst this
  refine ⟨[], ?_,by simp,by simp⟩
  rw [List.drop_of_length_le (by omega)];exact RepL.nil
 | f :: r,k,e,cs,ht,hl,hf,hk => by
  simp only [tiled,Bool.and_eq_true,beq_iff_eq] at ht
  obtain ⟨ho,ht⟩ := ht
  have hle : ∀ (fs : List Field) (k : Nat),tiled P k fs e = true → k ≤ e := by
   intro fs
   induction fs with
   | nil => intro k h;have : k = e := by simpa [tiled] using h
            omega
   | cons g s ih => intro k h;simp only [tiled,Bool.and_eq_true] at h;have := ih _ h.2;omega
  have hle' := hle _ _ ht
  obtain ⟨A,hA,hAf,hAq⟩ := tile_rep r (k + P.cellsOf f.type) e cs ht hl (fun g hg => hf g (List.mem_cons_of_mem _ hg)) hle'
  obtain ⟨a,ha,hq,haf⟩ := hf f List.mem_cons_self
  have hal : a.length = P.cellsOf f.type := by rw [ha.1];simp;omega
  refine ⟨a ++ A, ?_, ?_, ?_⟩
  ·have : cs.drop k = (cs.drop f.offset).take (P.cellsOf f.type) ++ cs.drop (k + P.cellsOf f.type) := by
    rw [ho,← List.drop_drop];exact (List.take_append_drop _ _).symm
   rw [this];exact ha.append hA
  ·intro c hc
   rcases List.mem_append.1 hc with h | h
   ·exact haf c h
   ·exact hAf c h
  ·intro g hg
   rcases List.mem_cons.1 hg with rfl | hg
   ·refine ⟨by omega,by omega, ?_⟩
    rw [ho,Nat.sub_self,List.drop_zero,List.take_append_of_le_length (by omega),List.take_of_length_le (by omega)]
    exact hq
   ·obtain ⟨h1,h2,h3⟩ := hAq g hg
    refine ⟨by omega,h2, ?_⟩
    have : (a ++ A).drop (g.offset - k) = A.drop (g.offset - (k + P.cellsOf f.type)) := by
     rw [List.drop_append,List.drop_of_length_le (by omega),List.nil_append,hal];congr 1;omega
    rw [this];exact h3
section
variable {HH : Type} {enc : TypeId × Value → HH} {P : Program} {w : World}
theorem cells_at {a : Addr} {n : Nat} {cs : List Value} (h : w.cells? 0 a n = some cs) (hn : 0 < n) : a.spot = none ∧ ∃ arr e fr,w.heap[a.block]? = some (.cells arr e fr) ∧ cs.length = n ∧ ∀ j,j < n → arr[a.off + j]? = cs[j]? := by
 obtain ⟨_,hl,hc⟩ := World.cells?_some h
 have h0 := hc 0 hn
 obtain ⟨c0,hc0⟩ : ∃ c0,cs[0]? = some c0 := ⟨cs[0]'(by omega),List.getElem?_eq_getElem _⟩
 have hsp : a.spot = none := by
  have := World.cell?_spot (h0.trans hc0)
  simpa [Addr.add] using this
 have hcell := h0.trans hc0
 have hb : ∀ j,(a.add j).block = a.block := by intro j;unfold Addr.add;split <;> rfl
 have hs : ∀ j,(a.add j).spot = none := by
  intro j;unfold Addr.add;split
  ·exact hsp
  ·rfl
 have ho : ∀ j,(a.add j).off = a.off + j := by
  intro j;unfold Addr.add;split
  ·rename_i hj;subst hj;rfl
  ·rfl
 refine ⟨hsp, ?_⟩
 unfold World.cell? at hcell
 rw [hb] at hcell
 split at hcell
 ·rename_i arr e fr hh
  refine ⟨arr,e,fr,hh,hl,fun j hj => ?_⟩
  have := hc j hj
  unfold World.cell? at this
  rw [hb,hh] at this
  simp only [hs,ho,Option.isSome_none,Bool.false_eq_true,if_false] at this
  exact this
 ·cases hcell
theorem plain_rep : ∀ (N t fuel : Nat) (cs : List Value) (x : DataW HH × List MemPlace),plainT P N t = true → DataW.trod enc P w 0 (fun _ => true) true fuel t cs = some x →
  ∃ A,RepL (allZ w) noPls A cs ∧ Plain P N t A ∧ ∀ c ∈ A,c.flat = true
 | 0,_,_,_,_,hp,_ => by simp [plainT] at hp
 | N + 1,t,fuel,cs,x,hp,h => by
  unfold plainT at hp
  cases hu : P.underlying t with
  | none => rw [hu] at hp;simp at hp
  | some u =>
   rw [hu] at hp
   cases u <;> simp only [Bool.false_eq_true] at hp
   case bool =>
    obtain ⟨b,rfl, -⟩ := DataW.trod_bool hu h
    exact ⟨[.v (.bool b)],RepL.cons (.v rfl) RepL.nil,by unfold Plain;rw [hu];exact ⟨b,rfl⟩,by simp [AV.flat]⟩
   case int k =>
    obtain ⟨n,rfl, -,hw⟩ := DataW.trod_int hu h
    exact ⟨[.v (.int k n)],RepL.cons (.v rfl) RepL.nil,by unfold Plain;rw [hu];exact ⟨n,rfl,hw⟩,by simp [AV.flat]⟩
   case string =>
    obtain ⟨n,rfl, -,hw⟩ := DataW.trod_string hu h
    exact ⟨[.v (.string n)],RepL.cons (.v rfl) RepL.nil,by unfold Plain;rw [hu];exact ⟨n,rfl,hw⟩,by simp [AV.flat]⟩
   case struct fs =>
    rw [Bool.and_eq_true,List.all_eq_true] at hp
    obtain ⟨xs,n, -, -,hl,hlen,hf⟩ := DataW.trod_struct hu h
    have hall : ∀ f ∈ fs.toList,∃ a,RepL (allZ w) noPls a ((cs.drop f.offset).take (P.cellsOf f.type)) ∧ Plain P N f.type a ∧ ∀ c ∈ a,c.flat = true := by
     intro f hfm
     obtain ⟨i,hi⟩ := List.getElem?_of_mem hfm
     have hi' : fs[i]? = some f := by simpa using hi
     have hxi := hf i f hi'
     have hlt : i < xs.length := by
      rw [hlen]
      have := (List.getElem?_eq_some_iff.1 hi).1
      simpa using this
     rw [List.getElem?_eq_getElem hlt] at hxi
     exact plain_rep N f.type n _ _ (hp.2 f hfm) hxi
    obtain ⟨A,hA,hAf,hAq⟩ := tile_rep fs.toList 0 (P.cellsOf t) cs hp.1 hl hall (Nat.zero_le _)
    rw [List.drop_zero] at hA
    refine ⟨A,hA, ?_,hAf⟩
    unfold Plain;rw [hu]
    refine ⟨by rw [hA.1];exact hl,fun f hf => ?_⟩
    have := (hAq f hf).2.2
    rwa [Nat.sub_zero] at this
   case slice e =>
    simp only [Bool.and_eq_true,decide_eq_true_eq] at hp
    rcases DataW.trod_slice hu h with ⟨rfl, -⟩ | ⟨a,len,cap,elems,rest,n, -,rfl, -, -,hlc,hcm,hel,hget, -, -⟩
    ·refine ⟨[.v (.slice none 0 0)],RepL.cons (.v rfl) RepL.nil, ?_,by simp [AV.flat]⟩
     unfold Plain;rw [hu]
     exact ⟨_,[],rfl,Or.inl ⟨rfl,rfl⟩,Nat.zero_le _,by simp⟩
    ·have hone : ∀ i,i < len → ∃ y : AV,∃ A ci,w.cells? 0 (a.add (i * P.cellsOf e)) (P.cellsOf e) = some ci ∧ RepL (allZ w) noPls A ci ∧ Plain P N e A ∧ (∀ c ∈ A,c.flat = true) ∧ y = elemOf A := by
      intro i hi
      have := hget i hi
      rw [List.getElem?_eq_getElem (by omega),Option.bind_eq_some_iff] at this
      obtain ⟨ci,hc1,hc2⟩ := this
      obtain ⟨A,h1,h2,h3⟩ := plain_rep N e n ci _ hp.2 hc2
      exact ⟨_,A,ci,hc1,h1,h2,h3,rfl⟩
     obtain ⟨xs,hxl,hxq⟩ := exists_list len hone
     have hsz : ∀ y ∈ xs,y.cells.length = P.cellsOf e := by
      intro y hy
      obtain ⟨i,hi⟩ := List.getElem?_of_mem hy
      obtain ⟨A,ci,h1,h2,h3,h4,rfl⟩ := hxq i y hi
      rw [elem_cells h4,h2.1]
      exact (World.cells?_some h1).2.1
     have hplain : Plain P (N + 1) t [.vs (P.cellsOf e) xs (some cap)] := by
      unfold Plain;rw [hu]
      refine ⟨_,xs,rfl,Or.inr ⟨_,rfl⟩,by omega,fun y hy => ?_⟩
      obtain ⟨i,hi⟩ := List.getElem?_of_mem hy
      obtain ⟨A,ci,h1,h2,h3,h4,rfl⟩ := hxq i y hi
      exact ⟨A,rfl,by rw [h2.1];exact (World.cells?_some h1).2.1,h3⟩
     by_cases h0 : len = 0
     ·subst h0
      have : xs = [] := List.length_eq_zero_iff.1 hxl
      subst this
      exact ⟨_,RepL.cons (.vs0 (by simp)) RepL.nil,hplain,by simp [AV.flat]⟩
     ·-- the block
      have hpos := hp.1
      obtain ⟨y0,hy0⟩ : ∃ y,xs[0]? = some y := ⟨xs[0]'(by omega),List.getElem?_eq_getElem _⟩
      obtain ⟨A0,c0,hc0, -⟩ := hxq 0 y0 hy0
      obtain ⟨hsp0,arr,et,fr,hh, -, -⟩ := cells_at hc0 hpos
      have hb : ∀ j,(a.add j).block = a.block := by intro j;unfold Addr.add;split <;> rfl
      have ho : ∀ j,(a.add j).off = a.off + j := by
       intro j;unfold Addr.add;split
       ·rename_i hj;subst hj;rfl
       ·rfl
      rw [hb] at hh
      have hsp : a.spot = none := by simpa [Addr.add] using hsp0
      have hall : ∀ i j,i < len → j < P.cellsOf e → ∃ A ci,xs[i]? = some (elemOf A) ∧ (∀ c ∈ A,c.flat = true) ∧ RepL (allZ w) noPls A ci ∧ ci.length = P.cellsOf e ∧ arr[a.off + i * P.cellsOf e + j]? = ci[j]? := by
       intro i j hi hj
       obtain ⟨y,hy⟩ : ∃ y,xs[i]? = some y := ⟨xs[i]'(by omega),List.getElem?_eq_getElem _⟩
       obtain ⟨A,ci,h1,h2,h3,h4,rfl⟩ := hxq i y hy
       obtain ⟨-,arr',et',fr',hh',hl',hg⟩ := cells_at h1 hpos
       rw [hb,hh] at hh'
       obtain ⟨rfl,rfl,rfl⟩ : arr = arr' ∧ et = et' ∧ fr = fr' := by simpa using hh'
       have := hg j hj
       rw [ho] at this
       exact ⟨A,ci,hy,h4,h2,hl',this⟩
      have hfl : (xs.flatMap AV.cells).length = len * P.cellsOf e := by rw [flat_len hsz,hxl]
      have hfit : a.off + len * P.cellsOf e ≤ arr.size := by
       obtain ⟨A,ci, -, -, -,hl',hg⟩ := hall (len - 1) (P.cellsOf e - 1) (by omega) (by omega)
       rw [List.getElem?_eq_getElem (by omega)] at hg
       have := (Array.getElem?_eq_some_iff.1 hg).1
       have e1 : (len - 1) * P.cellsOf e + P.cellsOf e = len * P.cellsOf e := by
        have : len = (len - 1) + 1 := by omega
        conv => rhs;rw [this,Nat.succ_mul]
       omega
      refine ⟨[.vs (P.cellsOf e) xs (some cap)],RepL.cons ?_ RepL.nil,hplain,by simp [AV.flat]⟩
      have hval : (Value.slice (some a) len cap) = .slice (some ⟨a.block,(arr.toList.take a.off).length,none⟩) xs.length cap := by
       have : (arr.toList.take a.off).length = a.off := by simp;omega
       rw [this,hxl];cases a;simp_all
      rw [hval]
      refine .vs (vs := (arr.toList.drop a.off).take (len * P.cellsOf e)) (post := (arr.toList.drop a.off).drop (len * P.cellsOf e)) (pre := arr.toList.take a.off) (e := et) (fz := fr) (arr := arr) hh ?_ hsz ?_ ?_ (by simp) (by omega)
      ·rw [List.append_assoc,List.take_append_drop,List.take_append_drop]
      ·rw [hfl];simp;omega
      ·intro i c v hc hv
       have hi := (List.getElem?_eq_some_iff.1 hc).1
       rw [hfl] at hi
       have hq : i / P.cellsOf e < len := Nat.div_lt_of_lt_mul (by rw [Nat.mul_comm];exact hi)
       have hr : i % P.cellsOf e < P.cellsOf e := Nat.mod_lt _ hpos
       have hdm : i / P.cellsOf e * P.cellsOf e + i % P.cellsOf e = i := by rw [Nat.mul_comm];exact Nat.div_add_mod _ _
       obtain ⟨A,ci,hx,hA,hR,hl',hg⟩ := hall _ _ hq hr
       have hfa := (flat_at hsz hx).1
       rw [elem_cells hA] at hfa
       have hcA : A[i % P.cellsOf e]? = some c := by
        rw [← hfa,List.getElem?_take,if_pos hr,List.getElem?_drop,hdm];exact hc
       have hvA : ci[i % P.cellsOf e]? = some v := by
        rw [← hg]
        rw [List.getElem?_take,if_pos hi,List.getElem?_drop] at hv
        rw [show a.off + i / P.cellsOf e * P.cellsOf e + i % P.cellsOf e = a.off + i by omega]
        simpa using hv
       exact hR.2 _ _ _ hcA hvA
theorem plain_spare {base : Nat} {sp : Nat → Bool} : ∀ (N t fuel : Nat) (cs : List Value) (x : DataW HH × List MemPlace),plainT P N t = true → DataW.trod enc P w base (fun _ => true) true fuel t cs = some x →
  (∀ p ∈ x.2,sp p.block = true) → DataW.trod enc P w base sp true fuel t cs = some x
 | 0,_,_,_,_,hp,_,_ => by simp [plainT] at hp
 | N + 1,t,fuel,cs,x,hp,h,hs => by
  unfold plainT at hp
  cases fuel with
  | zero => simp [DataW.trod] at h
  | succ n =>
   cases hu : P.underlying t with
   | none => rw [hu] at hp;simp at hp
   | some u =>
    rw [hu] at hp
    cases u <;> simp only [Bool.false_eq_true] at hp
    case bool => obtain ⟨b,rfl,rfl⟩ := DataW.trod_bool hu h;rw [DataW.trod_step];unfold DataW.trodStep;rw [hu]
    case int k => obtain ⟨m,rfl,rfl,hw⟩ := DataW.trod_int hu h;rw [DataW.trod_step];unfold DataW.trodStep;rw [hu];simp [hw]
    case string => obtain ⟨m,rfl,rfl,hw⟩ := DataW.trod_string hu h;rw [DataW.trod_step];unfold DataW.trodStep;rw [hu];simp [hw]
    case struct fs =>
     rw [Bool.and_eq_true,List.all_eq_true] at hp
     rw [DataW.trod_step] at h ⊢
     unfold DataW.trodStep at h ⊢
     rw [hu] at h ⊢
     simp only at h ⊢
     split at h
     ·rename_i hl
      rw [if_pos hl]
      simp only [Option.map_eq_some_iff] at h ⊢
      obtain ⟨xs,hxs,rfl⟩ := h
      refine ⟨xs,mapM_carry hxs fun f y hf hy hfy => plain_spare N f.type n _ y (hp.2 f hf) hfy fun p hpm => hs p ?_,rfl⟩
      exact List.mem_flatMap.2 ⟨y,hy,hpm⟩
     ·cases h
    case slice e =>
     simp only [Bool.and_eq_true,decide_eq_true_eq] at hp
     have h0 := h
     rw [DataW.trod_step] at h ⊢
     unfold DataW.trodStep at h ⊢
     rw [hu] at h ⊢
     rcases DataW.trod_slice hu h0 with ⟨rfl,rfl⟩ | ⟨a,len,cap,elems,rest,n',hn',rfl,rfl, -,hlc,hcm,hel,hget,hrest, -⟩
     ·rfl
     ·simp only at h ⊢
      split at h
      ·rename_i hc
       rw [if_pos hc]
       simp only [if_true,Option.bind_eq_some_iff,Option.map_eq_some_iff] at h ⊢
       obtain ⟨es,hes,rs,hrs,heq⟩ := h
       have hin : ∀ y,y ∈ es ++ rs → ∀ p ∈ y.2,sp p.block = true := by
        intro y hy p hpm
        refine hs p ?_
        have := congrArg Prod.snd heq
        simp only at this
        rw [← this]
        exact List.mem_append_right _ (List.mem_flatMap.2 ⟨y,hy,hpm⟩)
       refine ⟨es,mapM_carry hes fun i y _ hy hfy => ?_,rs, ?_,heq⟩
       ·obtain ⟨ci,h1,h2⟩ := Option.bind_eq_some_iff.1 hfy
        rw [h1]
        exact plain_spare N e n ci y hp.2 h2 (hin y (List.mem_append_left _ hy))
       ·have hrl : rs.length = cap - len := by
         have := mapM_some_length hrs
         simpa using this
        by_cases hz : cap - len = 0
        ·have : rs = [] := List.length_eq_zero_iff.1 (by omega)
         subst this
         split
         ·rw [hz] at hrs ⊢;exact hrs
         ·rfl
        ·have hsp : sp a.block = true := by
          have hel' : es.length = len := by
           have := mapM_some_length hes
           simpa using this
          have := congrArg Prod.snd heq
          simp only at this
          have hm : MemPlace.cell a.block (a.off + 0) ∈ MemPlace.row a ((elems.length + rest.length) * P.cellsOf e) ++ (elems ++ rest).flatMap (·.2) := by
           rw [← this]
           refine List.mem_append_left _ (MemPlace.mem_row.2 ⟨0, ?_,rfl⟩)
           exact Nat.mul_pos (by omega) hp.1
          exact hs _ hm
         rw [if_pos hsp]
         refine mapM_carry hrs fun i y _ hy hfy => ?_
         obtain ⟨ci,h1,h2⟩ := Option.bind_eq_some_iff.1 hfy
         rw [h1]
         exact plain_spare N e n ci y hp.2 h2 (hin y (List.mem_append_right _ hy))
      ·cases h
end
end Go.Ev
namespace Go.Ev
open Go.ChangeShapes Go.WideShapes Go.ChangeAt Go.RowKit
def Arg (P : Program) (N : Nat) (t : TypeId) (x : AV) : Prop :=
 match P.underlying t with
 | some (.struct _) => ∃ A,x = .agg A ∧ Plain P N t A
 | _ => Plain P N t [x]
inductive ArgsOf (P : Program) (N : Nat) : List TypeId → List AV → Prop
 | nil : ArgsOf P N [] []
 | cons {t : TypeId} {ts : List TypeId} {x : AV} {xs : List AV} (h : Arg P N t x) (hs : ArgsOf P N ts xs) : ArgsOf P N (t :: ts) (x :: xs)
section
variable {HH : Type} {enc : TypeId × Value → HH} {P : Program} {w : World}
theorem arg_rep {N base : Nat} {t : TypeId} {v : Value} {d : DataW HH} {ps : List MemPlace} (hp : plainT P N t = true) (hok : Value.okWide P w .any base t v) (h : DataW.Trod enc P w 0 (fun _ => true) true t v d ps) :
  ∃ x,Rep (allZ w) noPls x v ∧ Arg P N t x := by
 obtain ⟨fuel,h⟩ := h
 obtain ⟨A,hA,hpl,hfl⟩ := plain_rep N t fuel _ _ hp h
 cases N with
 | zero => simp [plainT] at hp
 | succ N =>
  have one : ∀ (hv : v.cells.toList = [v]),(∃ c,A = [c]) → (∀ fs,P.underlying t ≠ some (.struct fs)) → ∃ x,Rep (allZ w) noPls x v ∧ Arg P (N + 1) t x := by
   rintro hv ⟨c,rfl⟩ hns
   rw [hv] at hA
   obtain ⟨v',ws,e,hr, -⟩ := hA.uncons
   cases e
   refine ⟨c,hr, ?_⟩
   unfold Arg
   split
   ·rename_i fs hu;exact absurd hu (hns fs)
   ·exact hpl
  unfold plainT at hp
  unfold Value.okWide at hok
  have hpl' := hpl
  unfold Plain at hpl'
  cases hu : P.underlying t with
  | none => rw [hu] at hp;simp at hp
  | some u =>
   rw [hu] at hp hok hpl'
   cases u <;> simp only [Bool.false_eq_true] at hp hok hpl'
   case bool =>
    obtain ⟨b,rfl⟩ := hpl'
    refine one ?_ ⟨_,rfl⟩ (by simp [hu])
    unfold Cell.okWide Cell.ok at hok;rw [hu] at hok
    cases v <;> first | rfl | simp at hok
   case int k =>
    obtain ⟨m,rfl, -⟩ := hpl'
    refine one ?_ ⟨_,rfl⟩ (by simp [hu])
    unfold Cell.okWide Cell.ok at hok;rw [hu] at hok
    cases v <;> first | rfl | simp at hok
   case string =>
    obtain ⟨m,rfl, -⟩ := hpl'
    refine one ?_ ⟨_,rfl⟩ (by simp [hu])
    unfold Cell.okWide Cell.ok at hok;rw [hu] at hok
    cases v <;> first | rfl | simp at hok
   case slice e =>
    obtain ⟨x,xs,rfl, -⟩ := hpl'
    refine one ?_ ⟨_,rfl⟩ (by simp [hu])
    unfold Cell.okWide Cell.ok at hok;rw [hu] at hok
    cases v <;> first | rfl | simp at hok
   case struct fs =>
    obtain ⟨cs,rfl, -, -⟩ := hok
    refine ⟨.agg A, ?_, ?_⟩
    ·have := hA.agg
     simpa [Value.cells] using this
    ·unfold Arg;rw [hu];exact ⟨A,rfl,hpl⟩
theorem args_rep {N base : Nat} : ∀ {ts : List TypeId} {vs : List Value} {ds : List (DataW HH)} {ps : List MemPlace},ts.all (plainT P N) = true → (∀ (j : Nat) t v,ts[j]? = some t → vs[j]? = some v → Value.okWide P w .any base t v) →
  DataW.TrodAll enc P w 0 (fun _ => true) true ts vs ds ps → ∃ xs,RepL (allZ w) noPls xs vs ∧ ArgsOf P N ts xs
 | [],vs,ds,ps,_,_,h => by
  cases vs <;> cases ds <;> simp [DataW.TrodAll] at h
  exact ⟨[],RepL.nil,.nil⟩
 | t :: ts,vs,ds,ps,hp,hok,h => by
  obtain ⟨v,vs',d,ds',p,q,rfl,rfl,rfl,h1,h2⟩ := trodAll_cons h
  simp only [List.all_cons,Bool.and_eq_true] at hp
  obtain ⟨x,hx,hax⟩ := arg_rep hp.1 (hok 0 t v rfl rfl) h1
  obtain ⟨xs,hxs,haxs⟩ := args_rep hp.2 (fun j t' v' ht hv => hok (j + 1) t' v' (by simpa using ht) (by simpa using hv)) h2
  exact ⟨x :: xs,RepL.cons hx hxs,.cons hax haxs⟩
theorem trod_after {w' : World} (hh : ∀ k,k < w.heap.size → w'.heap[k]? = w.heap[k]?) {N : Nat} {sp : Nat → Bool} : ∀ {ts : List TypeId} {vs : List Value} {ds : List (DataW HH)} {ps : List MemPlace},ts.all (plainT P N) = true →
  DataW.TrodAll enc P w 0 (fun _ => true) true ts vs ds ps → (∀ p ∈ ps,sp p.block = true) → DataW.TrodAll enc P w' 0 sp true ts vs ds ps
 | [],vs,ds,ps,_,h,_ => by
  cases vs <;> cases ds <;> simp [DataW.TrodAll] at h ⊢
  exact h
 | t :: ts,vs,ds,ps,hp,h,hs => by
  obtain ⟨v,vs',d,ds',p,q,rfl,rfl,rfl,⟨fuel,h1⟩,h2⟩ := trodAll_cons h
  simp only [List.all_cons,Bool.and_eq_true] at hp
  refine ⟨p,q,⟨fuel, ?_⟩,trod_after hh hp.2 h2 fun p hp => hs p (List.mem_append_right _ hp),rfl⟩
  have hlt := DataW.trod_lt _ _ _ _ h1
  refine plain_spare N t fuel _ _ hp.1 (DataW.trod_carry _ _ _ _ h1 fun p hp => ?_) fun p hp => hs p (List.mem_append_left _ hp)
  have := hlt p hp
  cases p with
  | cell b off =>
   have hb : b < w.heap.size := this
   simp only [World.sameAt,World.cell?,hh b hb]
  | map b =>
   have hb : b < w.heap.size := this
   simp only [World.sameAt,hh b hb]
theorem trodAll_len {b : Nat} {sp : Nat → Bool} {hd : Bool} : ∀ {ts : List TypeId} {vs : List Value} {ds : List (DataW HH)} {ps : List MemPlace},DataW.TrodAll enc P w b sp hd ts vs ds ps → ds.length = ts.length
 | [],vs,ds,ps,h => by cases vs <;> cases ds <;> simp [DataW.TrodAll] at h ⊢
 | t :: ts,vs,ds,ps,h => by
  obtain ⟨v,vs',d,ds',p,q,rfl,rfl,rfl,h1,h2⟩ := trodAll_cons h
  simp [trodAll_len h2]
theorem kept_of {w' : World} (hos : w'.os = w.os) (hout : w'.output = w.output) (hh : ∀ k,k < w.heap.size → w'.heap[k]? = w.heap[k]?) : w.keptBut w' (fun _ => False) := by
 refine ⟨hos,hout,fun i hi => ?_⟩
 rw [hh i hi]
 cases h : w.heap[i]? with
 | none => simp
 | some o => cases o <;> simp
theorem post_of_old {f : Func} {s : ChangeSpec} {apart fresh handsOn again : Bool} {W W' : World} {args : Array Value} {v : Value} {ds gs : List (DataW HH)} {before pa pv : List MemPlace}
  (hW : DataW.Whole enc P f.params.toList s.vars apart W args.toList ds gs before)
  (hres : ∀ (b : Nat) (sp : Nat → Bool) (hd : Bool),DataW.TrodAll enc P W' b sp hd f.resultTypes.toList (v.resultList f.resultTypes.size) (s.fn HH (ds ++ gs)).results [])
  (hargs : ∀ sp : Nat → Bool,(∀ p ∈ before,sp p.block = true) → DataW.TrodAll enc P W' 0 sp true f.params.toList args.toList (s.fn HH (ds ++ gs)).args pa)
  (hvars : ∀ sp : Nat → Bool,(∀ p ∈ before,sp p.block = true) → DataW.TrodVars enc P W' sp s.vars (s.fn HH (ds ++ gs)).vars pv)
  (hps : before = pa ++ pv) (hk : W.keptBut W' (· ∈ before)) (hfz : ∀ a : Addr,a.block < W.heap.size → W'.frozen? a = W.frozen? a)
  (hok : ∀ (j : Nat) (t : TypeId) (r : Value),f.resultTypes[j]? = some t → (v.resultList f.resultTypes.size)[j]? = some r → Value.okWide P W' .any 0 t r) :
  s.post enc P f apart fresh handsOn again W args v W' := by
 have hold : ∀ p ∈ before,(fun b => decide (b < W.heap.size)) p.block = true := fun p hp => by simpa using hW.lt p hp
 have hlt := hW.lt
 refine ⟨ds,gs,before,[],pa,pv,hW,hres _ _ _,hargs _ hold,hvars _ hold,World.keptBut_mono (fun p hp => ⟨hp, ?_⟩) hk,fun _ => ?_⟩
 ·rw [hps,List.mem_append] at hp
  exact Or.inr hp
 ·obtain ⟨_,_,_,_,_,hz,hn⟩ := hW
  refine ⟨hok,_,_,([] ++ pa) ++ pv,⟨[] ++ pa,pv,trodAll_append (hargs _ (fun _ _ => rfl)) (hres _ _ _),hvars _ (fun _ _ => rfl),rfl, ?_, ?_⟩, ?_⟩
  ·intro b off hp
   have hp' : MemPlace.cell b off ∈ before := by rw [hps];simpa using hp
   rw [hfz ⟨b,off,none⟩ (hlt _ hp')]
   exact hz b off hp'
  ·intro ha
   have := hn ha
   rw [hps] at this
   simpa using this
  ·intro p hp _
   rw [hps]
   simpa using hp
theorem law_contract {C : Cfg} (hP : C.P = P) (hgo : NoGo P) (hm : P.follows .mixedOrders = true) (hext : ExtOK C) {f : FuncId} {fn : Func} {s : ChangeSpec} {N : Nat} {apart fresh handsOn again : Bool} {tb : TypeId}
  (hpl : fn.params.toList.all (plainT P N) = true) (hvars : s.vars = []) (hspec : ∀ ds : List (DataW HH),ds.length = fn.params.size → s.fn HH ds = { results := [.lit (.bool true)],args := ds })
  (hrt : fn.resultTypes = #[tb]) (htb : P.underlying tb = some .bool)
  (hlaw : ∀ xs,ArgsOf P N fn.params.toList xs → ∃ H',lim C (.call f xs { objs := [],lock := 0 }) = some (.ret (.v (.bool true)) H'))
  {W : World} {base : Nat} {args : Array Value} {ds gs : List (DataW HH)} {before : List MemPlace}
  (hval : ∀ (j : Nat) t v,fn.params[j]? = some t → args[j]? = some v → Value.okWide P W .any base t v)
  (hW : DataW.Whole enc P fn.params.toList s.vars apart W args.toList ds gs before) (hg : laidOk (allZ W) := by intro p hp;cases hp) :
  Calls P f args W fun e W' => ∃ v,e = .returned v ∧ s.post enc P fn apart fresh handsOn again W args v W' := by
 subst hP
 have hW' := hW
 obtain ⟨p,q,hA,hV,rfl,hfz,hnd⟩ := hW
 have hV' := hV
 rw [hvars] at hV'
 obtain ⟨rfl,rfl⟩ := trodVars_none hV'
 obtain ⟨xs,hxs,hax⟩ := args_rep hpl (fun j t v ht hv => hval j t v (by simpa using ht) (by simpa using hv)) hA
 obtain ⟨H',hl⟩ := hlaw xs hax
 have hc := top_calls hg hgo hm hext hl hxs
 have hlen : ds.length = fn.params.size := by have := trodAll_len hA;simpa using this
 have hsf : s.fn HH (ds ++ []) = { results := [.lit (.bool true)],args := ds } := by rw [List.append_nil];exact hspec ds hlen
 refine Calls.mono' hc ?_
 rintro e W' ⟨rfl,hh,hsz,hos,hout, -,hfr⟩
 refine ⟨_,rfl,post_of_old (pa := p) (pv := []) hW' ?_ ?_ ?_ rfl (World.keptBut_mono (fun _ h => h.elim) (kept_of hos hout hh)) hfr ?_⟩
 ·intro b sp hd
  rw [hsf,hrt]
  exact trodAll_mk1 (shut_bool htb true)
 ·intro sp hsp
  rw [hsf]
  exact trod_after hh hpl hA fun x hx => hsp x (List.mem_append_left _ hx)
 ·intro sp hsp
  rw [hsf,hvars]
  rfl
 ·exact ok_one hrt rfl (okWide_bool_mk htb true)
end
end Go.Ev
namespace Go.Ev
structure Tell where
 f : Nat
 K : List AV
 R : AV
def tabHas : List Tell → Nat → Bool
 | [],_ => false
 | t :: r,f => Nat.beq t.f f || tabHas r f
def tabFn : List Tell → Nat → List AV → Option AV
 | [],_,_ => none
 | t :: r,f,args => if Nat.beq t.f f && listEq (eqA 30) args t.K then some t.R else tabFn r f args
def tabExt (e : FuncId → Option (List AV → Option AV)) (T : List Tell) : FuncId → Option (List AV → Option AV) := fun f => if tabHas T f then some (tabFn T f) else e f
def Cfg.more (C : Cfg) (e : FuncId → Option (List AV → Option AV)) : Cfg := { C with ext := e }
structure TellH where
 f : Nat
 K : List AV
 G : List (Option AObj)
 R : AV
def eqEnt : List (AV × AV × Nat) → List (AV × AV × Nat) → Bool
 | [],[] => true
 | (a,b,n) :: r,(a',b',n') :: s => eqQ 30 a a' && eqQ 30 b b' && Nat.beq n n' && eqEnt r s
 | _,_ => false
def sameX : Option AObj → Option AObj → Bool
 | none,none => true
 | some .dead,some .dead => true
 | some .dfr,some .dfr => true
 | some (.cells v m e sz g cs),some (.cells v' m' e' sz' g' cs') => Nat.beq v v' && Nat.beq m m' && Nat.beq e e' && Nat.beq sz sz' && (g == g') && eqLQ (eqQ 30) cs cs'
 | some (.map m es c),some (.map m' es' c') => Nat.beq m m' && eqEnt es es' && Nat.beq c c'
 | _,_ => false
def sameL : List (Option AObj) → List (Option AObj) → Bool
 | [],[] => true
 | x :: r,y :: s => sameX x y && sameL r s
 | _,_ => false
theorem eqEnt_eq : ∀ {l m : List (AV × AV × Nat)},eqEnt l m = true → l = m
 | [],[],_ => rfl
 | [],_ :: _,h => by cases h
 | _ :: _,[],h => by cases h
 | (a,b,n) :: r,(a',b',n') :: s,h => by
  simp only [eqEnt,Bool.and_eq_true] at h
  obtain ⟨⟨⟨h1,h2⟩,h3⟩,h4⟩ := h
  rw [eqQ_eq 30 _ _ h1,eqQ_eq 30 _ _ h2,Nat.eq_of_beq_eq_true h3,eqEnt_eq h4]
theorem sameX_eq {x y : Option AObj} (h : sameX x y = true) : x = y := by
 unfold sameX at h
 split at h
 ·rfl
 ·rfl
 ·rfl
 ·simp only [Bool.and_eq_true,beq_iff_eq] at h
  obtain ⟨⟨⟨⟨⟨h1,h2⟩,h3⟩,h4⟩,h5⟩,h6⟩ := h
  rw [Nat.eq_of_beq_eq_true h1,Nat.eq_of_beq_eq_true h2,Nat.eq_of_beq_eq_true h3,Nat.eq_of_beq_eq_true h4,h5,eqLQ_eq (eqQ_eq 30) h6]
 ·simp only [Bool.and_eq_true] at h
  obtain ⟨⟨h1,h2⟩,h3⟩ := h
  rw [Nat.eq_of_beq_eq_true h1,eqEnt_eq h2,Nat.eq_of_beq_eq_true h3]
 ·cases h
theorem sameL_eq : ∀ {l m : List (Option AObj)},sameL l m = true → l = m
 | [],[],_ => rfl
 | [],_ :: _,h => by cases h
 | _ :: _,[],h => by cases h
 | x :: r,y :: s,h => by
  simp only [sameL,Bool.and_eq_true] at h
  rw [sameX_eq h.1,sameL_eq h.2]
def tabHHas : List TellH → Nat → Bool
 | [],_ => false
 | t :: r,f => Nat.beq t.f f || tabHHas r f
def tabH : List TellH → Nat → List AV → Heap → Option AV
 | [],_,_,_ => none
 | t :: r,f,args,H => if Nat.beq t.f f && (eqLQ (eqQ 30) args t.K && sameL H.objs t.G) then some t.R else tabH r f args H
def atom1 : AV → Bool
 | .v _ => true
 | _ => false
def atom1b : AV → Bool
 | .v _ => true
 | .agg cs => cs.all atom1
 | _ => false
def atomR : AV → Bool
 | .v _ => true
 | .tup cs => cs.all atom1b
 | .agg cs => cs.all atom1b
 | _ => false
def borH (T : List Tell) (f : Nat) (args : List AV) (H : Heap) : Option AV :=
 match freezeL { H with lock := 0 } 100000 args with
 | some l => match tabFn T f l with | some R => if atomR R then some R else none | none => none
 | none => none
def tabX (T : List Tell) (TH : List TellH) (f : Nat) (args : List AV) (H : Heap) : Option AV := match tabH TH f args H with | some v => some v | none => borH T f args H
def tabExh (e : FuncId → Option (List AV → Heap → Option AV)) (T : List Tell) (TH : List TellH) : FuncId → Option (List AV → Heap → Option AV) := fun f => if tabHHas TH f || tabHas T f then some (tabX T TH f) else e f
def Cfg.more2 (C : Cfg) (e : FuncId → Option (List AV → Option AV)) (x : FuncId → Option (List AV → Heap → Option AV)) : Cfg := { C with ext := e,exh := x }
def ansH (n : Nat) (o : Option Out) : Option AV := match o with | some (.ret v H) => freezeV { H with lock := n } 1000000 v | _ => none
def GoodC (C : Cfg) (t : Tell) : Prop := (∃ e x,ExtOK (C.more2 e x) ∧ Ans (C.more2 e x) t.f t.K t.R) ∧ boundL t.K = 0
def GoodH (C : Cfg) (t : TellH) : Prop := (∃ e x,ExtOK (C.more2 e x) ∧ ∃ n,ansH t.G.length (evT (C.more2 e x) n (.call t.f t.K { objs := t.G,lock := t.G.length })) = some t.R) ∧ (Nat.beq (boundL t.K) 0 || t.K.any isYld) = false
def AllG (C : Cfg) : List Tell → Prop
 | [] => True
 | t :: r => GoodC C t ∧ AllG C r
def AllH (C : Cfg) : List TellH → Prop
 | [] => True
 | t :: r => GoodH C t ∧ AllH C r
theorem tabFn_some {C : Cfg} : ∀ {T : List Tell} {f : Nat} {args : List AV} {v : AV},AllG C T → tabFn T f args = some v → ∃ t,GoodC C t ∧ t.f = f ∧ args = t.K ∧ v = t.R
 | [],_,_,_,_,h => by cases h
 | t :: r,f,args,v,hT,h => by
  unfold tabFn at h
  split at h
  ·rename_i hq
   simp only [Bool.and_eq_true] at hq
   exact ⟨t,hT.1,Nat.eq_of_beq_eq_true hq.1,listEq_eq (eqA_eq 30) hq.2,by simpa using h.symm⟩
  ·exact tabFn_some hT.2 h
theorem tabH_some {C : Cfg} : ∀ {T : List TellH} {f : Nat} {args : List AV} {H : Heap} {v : AV},AllH C T → tabH T f args H = some v → ∃ t,GoodH C t ∧ t.f = f ∧ args = t.K ∧ H.objs = t.G ∧ v = t.R
 | [],_,_,_,_,_,h => by cases h
 | t :: r,f,args,H,v,hT,h => by
  unfold tabH at h
  split at h
  ·rename_i hq
   simp only [Bool.and_eq_true] at hq
   exact ⟨t,hT.1,Nat.eq_of_beq_eq_true hq.1,eqLQ_eq (eqQ_eq 30) hq.2.1,sameL_eq hq.2.2,by simpa using h.symm⟩
  ·exact tabH_some hT.2 h
theorem atom1_rep {Z Z' : Fzn} {ρ ρ' : Pls} {x : AV} {v : Value} (h : Rep Z ρ x v) (ha : atom1 x = true) : Rep Z' ρ' x v := by
 cases h with
 | v h => exact .v h
 | _ => cases ha
theorem atom1b_rep {Z Z' : Fzn} {ρ ρ' : Pls} {x : AV} {v : Value} (h : Rep Z ρ x v) (ha : atom1b x = true) : Rep Z' ρ' x v := by
 cases h with
 | v h => exact .v h
 | agg hl h => exact .agg hl fun i c v hc hv => atom1_rep (h i c v hc hv) (List.all_eq_true.1 (show List.all _ atom1 = true from ha) c (List.mem_of_getElem? hc))
 | _ => cases ha
theorem atomR_rep {Z Z' : Fzn} {ρ ρ' : Pls} {x : AV} {v : Value} (h : Rep Z ρ x v) (ha : atomR x = true) : Rep Z' ρ' x v := by
 cases h with
 | v h => exact .v h
 | agg hl h => exact .agg hl fun i c v hc hv => atom1b_rep (h i c v hc hv) (List.all_eq_true.1 (show List.all _ atom1b = true from ha) c (List.mem_of_getElem? hc))
 | tup hl h => exact .tup hl fun i c v hc hv => atom1b_rep (h i c v hc hv) (List.all_eq_true.1 (show List.all _ atom1b = true from ha) c (List.mem_of_getElem? hc))
 | _ => cases ha
theorem back_frozen {Z : Fzn} {ρ : Pls} {H : Heap} {w : World} (hs : Sim Z ρ H w) {R : AV} (hR : atomR R = true) {x : Value} {w' : World} (h : After (allZ w) noPls { objs := [],lock := 0 } w R { objs := [],lock := 0 } x w') : After Z ρ H w R H x w' := by
 obtain ⟨Z',ρ',h1,h2,h3⟩ := h
 have hsame : ∀ k,k < w.heap.size → w'.heap[k]? = w.heap[k]? := fun k hk => h3.frame k hk (start_own w k)
 refine ⟨Z,ρ,atomR_rep h1 hR,⟨fun b o hb hl => ?_,hs.inj,fun k o hk => ?_,hs.fresh,hs.lk,hs.lg⟩,⟨.refl _,.refl _,fun k hk _ => hsame k hk,fun _ _ h => h,h3.size,h3.os,h3.output,h3.tape,h3.drawn,fun a ha _ => frozen_same (hsame _ ha),rfl,fun _ _ => rfl,Nat.le_refl _,fun _ _ _ => rfl,fun _ _ _ => rfl,fun _ _ h _ => ⟨h,fun _ => rfl⟩⟩⟩
 ·obtain ⟨pl,obj,q1,q2,q3,q4⟩ := hs.objs b o hb hl
  exact ⟨pl,obj,q1,(hsame _ (Array.getElem?_eq_some_iff.1 q2).1).trans q2,q3,q4⟩
 ·have := hs.zok k o hk
  exact (hsame _ (Array.getElem?_eq_some_iff.1 this).1).trans this
theorem extOK_tab {C : Cfg} (hgo : NoGo C.P) (hm : C.P.follows .mixedOrders = true) (h0 : ExtOK C) {T : List Tell} (hT : AllG C T) {TH : List TellH} (hH : AllH C TH) : ExtOK (C.more2 (tabExt C.ext T) (tabExh C.exh T TH)) := by
 refine ⟨fun f g hf args v hv Z ρ H w vals hs hl => ?_,h0.lay,fun f g hf args v H hv Z ρ w vals hs hl => ?_⟩
 ·have hf' : (if tabHas T f then some (tabFn T f) else C.ext f) = some g := hf
  split at hf'
  ·simp only [Option.some.injEq] at hf'
   subst hf'
   obtain ⟨t,⟨⟨e,x,he,ha⟩,hb⟩,rfl,rfl,rfl⟩ := tabFn_some hT hv
   exact ext_of_ans (C := C.more2 e x) hgo hm he ha hb Z ρ H w vals hs hl
  ·exact h0.ext f g hf' args v hv Z ρ H w vals hs hl
 ·have hf' : (if tabHHas TH f || tabHas T f then some (tabX T TH f) else C.exh f) = some g := hf
  split at hf'
  ·simp only [Option.some.injEq] at hf'
   subst hf'
   unfold tabX at hv
   split at hv
   case h_2 =>
    unfold borH at hv
    split at hv
    ·rename_i l hfz
     split at hv
     ·rename_i R hR
      split at hv
      ·rename_i hat
       simp only [Option.some.injEq] at hv
       subst hv
       have hlz : RepL (allZ w) noPls l vals := (freeze_rep (ρ := noPls) (Z1 := Z) (Z2 := allZ w) (ρ1 := ρ) (H1 := { H with lock := 0 }) (w1 := w) ⟨hs.objs,hs.inj,hs.zok,hs.fresh,Nat.zero_le _,hs.lg⟩ (fun k o hk => hs.zok k o hk) (fun b o pl _ _ _ _ => rfl) (fun b v p hb _ => absurd hb (Nat.not_lt_zero _)) 100000).2 _ _ _ hfz hl
       obtain ⟨t,⟨⟨e,x,he,ha⟩,hb⟩,rfl,rfl,rfl⟩ := tabFn_some hT hR
       have hm1 := ext_of_ans (C := C.more2 e x) hgo hm he ha hb (allZ w) noPls { objs := [],lock := 0 } w vals (start_sim w (hs.lg.mono fun k o hk => hs.zok k o hk)) hlz
       rcases hm1 with ⟨y,w',h1,h2⟩ | ⟨h1,h2⟩
       ·exact Or.inl ⟨y,w',h1,back_frozen hs hat h2⟩
       ·exact Or.inr ⟨h1,Calls.mono' h2 fun en w' he => by
         obtain ⟨y,rfl,h3⟩ := he
         exact ⟨y,rfl,back_frozen hs hat h3⟩⟩
      ·cases hv
     ·cases hv
    ·cases hv
   rename_i v2 hv2
   simp only [Option.some.injEq] at hv
   subst hv
   obtain ⟨t,⟨⟨e,x,he,n,ha⟩,hb⟩,rfl,rfl,hG,rfl⟩ := tabH_some hH hv2
   have hrec : RecOK C.P (evT (C.more2 e x) n) := (ev_sound (C := C.more2 e x) hgo he (draw_ok hm he) n).1
   let D : Cfg := { C.more2 e x with pure := fun _ _ _ => true }
   have hk : callKind D t.f t.f none t.K = 2 := by
    simp only [Bool.or_eq_false_iff] at hb
    unfold callKind
    simp only [hb.1,hb.2,Bool.false_eq_true,if_false,if_true,D]
   have hB : callB D (evT (C.more2 e x) n) t.f t.f none t.K H = some (t.R,H) := by
    unfold callB;rw [hk]
    have h1 : ({ H with lock := H.size } : Heap) = { objs := t.G,lock := t.G.length } := by
     obtain ⟨objs,lock⟩ := H
     simp only at hG
     subst hG
     rfl
    have h2 : H.size = t.G.length := by unfold Heap.size;rw [hG]
    simp only
    rw [h1,h2]
    unfold ansH at ha
    split at ha
    ·rename_i v1 H1 h3
     rw [h3]
     simp only [ha,Option.map_some]
    ·cases ha
   obtain ⟨hbody,hc⟩ := callB_sound (C := D) hrec hs hl hB
   exact Or.inr ⟨hbody.run _ _,hc⟩
  ·exact h0.exh f g hf' args v H hv Z ρ w vals hs hl
def ansC (o : Option Out) : Option AV := match o with | some (.ret v H) => freezeV { H with lock := 0 } 1000000 v | _ => none
theorem ans_of_evC {C : Cfg} {n : Nat} {f : FuncId} {args : List AV} {v : AV} (h : ansC (evT C n (.call f args { objs := [],lock := 0 })) = some v) : Ans C f args v := by
 refine Ans.iff.2 ?_
 cases ho : evT C n (.call f args { objs := [],lock := 0 }) with
 | none => rw [ho] at h;cases h
 | some o =>
  rw [ho] at h
  cases o with
  | go => cases h
  | ret x H => exact ⟨x,H,lim_iff.2 ⟨n,ho⟩,h⟩
theorem goodC {C : Cfg} (hgo : NoGo C.P) (hm : C.P.follows .mixedOrders = true) (h0 : ExtOK C) {t : Tell} (T : List Tell) (hT : AllG C T) (TH : List TellH) (hH : AllH C TH) (n : Nat)
  (h : ansC (evT (C.more2 (tabExt C.ext T) (tabExh C.exh T TH)) n (.call t.f t.K { objs := [],lock := 0 })) = some t.R) (hb : boundL t.K = 0) : GoodC C t :=
 ⟨⟨_,_,extOK_tab hgo hm h0 hT hH,ans_of_evC h⟩,hb⟩
end Go.Ev
namespace Go.Ev
end Go.Ev
