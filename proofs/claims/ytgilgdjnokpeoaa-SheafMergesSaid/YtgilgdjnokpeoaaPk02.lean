/- What the proof of this claim stands on, part 3: an evaluator of the model, proved right, and what it answers for functions of the program. -/
import Derived.Test.YtgilgdjnokpeoaaPk01
import Derived.IntWalk
import Derived.Lib.Bytealg
import Derived.WalkKit
import Derived.Shelf.Strings.OnBuilder
import Derived.Test.YtgilgdjnokpeoaaProg
import Derived.KernelRfl
import Derived.Laws.StructEq
import Derived.ChangeReads
import Derived.ChangeOld
import Derived.ChangeArms
import Derived.RowKit3
import Derived.ProofKit
import Derived.OpenShut
set_option maxHeartbeats 8000000
set_option maxRecDepth 1000000
set_option linter.unusedSimpArgs false
namespace Go.Ev
section
variable {P : Program}
@[go_sem] theorem eval_tmp (s : Nat) (l : List (Tmp × AV)) (m : List Nat) (t : Tmp) : (AAct.mk s l m).eval (.tmp t) = assoc t l := rfl
@[go_sem] theorem eval_int (a : AAct) (k : IntKind) (n : Int) : a.eval (.const (.int k n)) = some (.v (.int k n)) := rfl
@[go_sem] theorem eval_bool (a : AAct) (b : Bool) : a.eval (.const (.bool b)) = some (.v (.bool b)) := rfl
@[go_sem] theorem eval_string (a : AAct) (b : ByteArray) : a.eval (.const (.string b)) = some (.v (.string b)) := rfl
@[go_sem] theorem eval_nilslice (a : AAct) : a.eval (.const (.slice none 0 0)) = some (.v (.slice none 0 0)) := rfl
@[go_sem] theorem eval_func (a : AAct) (f : FuncId) : a.eval (.func f) = some (.fn (.func f) [] []) := rfl
@[go_sem] theorem assoc_nil (t : Tmp) : assoc t [] = none := rfl
@[go_sem] theorem assoc_cons (t k : Tmp) (v : AV) (r : List (Tmp × AV)) : assoc t ((k,v) :: r) = if k = t then some v else assoc t r := by
 simp only [assoc];by_cases h : k = t <;> simp [h]
@[go_sem] theorem set_nil (t : Tmp) (v : AV) : setAssoc t v [] = [(t,v)] := rfl
@[go_sem] theorem set_cons (t k : Tmp) (v x : AV) (r : List (Tmp × AV)) : setAssoc t v ((k,x) :: r) = if k = t then (k,v) :: r else (k,x) :: setAssoc t v r := by
 simp only [setAssoc];by_cases h : k = t <;> simp [h]
@[go_sem] theorem keepT_put (ks : List Nat) (s d : Tmp) (v : AV) (l : List (Tmp × AV)) : keepT ks (putT s d v l) = if d < s ∧ d ∈ ks then setAssoc d v (keepT ks l) else keepT ks l := by
 have h : ∀ ks : List Nat,memNat d ks = decide (d ∈ ks) := by
  intro ks;induction ks with
  | nil => rfl
  | cons x r ih =>
   simp only [memNat,ih,List.mem_cons]
   by_cases hx : x = d
   ·subst hx;simp
   ·have hb : Nat.beq x d = false := by
     cases hb : Nat.beq x d
     ·rfl
     ·exact absurd (Nat.eq_of_beq_eq_true hb) hx
    have hx' : ¬ d = x := fun e => hx e.symm
    simp [hb,hx']
 have key : ∀ l : List (Tmp × AV),keepT ks (setAssoc d v l) = if d ∈ ks then setAssoc d v (keepT ks l) else keepT ks l := by
  intro l
  induction l with
  | nil => simp only [keepT,set_nil,List.filter_cons,List.filter_nil,h];by_cases hd : d ∈ ks <;> simp [hd]
  | cons x r ih =>
   obtain ⟨k,y⟩ := x
   rw [set_cons]
   by_cases hk : k = d
   ·subst hk
    simp only [if_true,keepT,List.filter_cons,h]
    by_cases hd : k ∈ ks <;> simp [hd,set_cons]
   ·rw [if_neg hk]
    simp only [keepT,List.filter_cons] at ih ⊢
    cases hm : memNat k ks
    ·simp only [Bool.false_eq_true,if_false,ih]
    ·simp only [if_true,ih]
     by_cases hd : d ∈ ks
     ·simp only [hd,if_true];rw [set_cons,if_neg hk]
     ·simp only [hd,if_false]
 unfold putT
 by_cases hs : d < s
 ·rw [if_pos hs,key];by_cases hd : d ∈ ks <;> simp [hs,hd]
 ·rw [if_neg hs,if_neg (fun h => hs h.1)]
@[go_sem] theorem assoc_put (t s d : Tmp) (v : AV) (l : List (Tmp × AV)) : assoc t (putT s d v l) = if d < s ∧ d = t then some v else assoc t l := by
 unfold putT
 by_cases hs : d < s
 ·rw [if_pos hs]
  simp only [hs,true_and]
  induction l with
  | nil => simp only [set_nil,assoc_cons]
  | cons x r ih =>
   obtain ⟨k,y⟩ := x
   rw [set_cons]
   by_cases h : k = d
   ·subst h;simp only [if_true,assoc_cons];split <;> rfl
   ·rw [if_neg h,assoc_cons,assoc_cons,ih]
    by_cases h2 : k = t
    ·subst h2;rw [if_pos rfl,if_pos rfl,if_neg (fun e => h e.symm)]
    ·rw [if_neg h2,if_neg h2]
 ·rw [if_neg hs,if_neg (fun h => hs h.1)]
@[go_sem] theorem evals_nil (a : AAct) : evals a [] = some [] := rfl
def consO (x : Option AV) (y : Option (List AV)) : Option (List AV) := match x,y with | some v,some vs => some (v :: vs) | _,_ => none
@[go_sem] theorem consO_some (v : AV) (vs : List AV) : consO (some v) (some vs) = some (v :: vs) := rfl
@[go_sem] theorem evals_cons (a : AAct) (x : Operand) (r : List Operand) : evals a (x :: r) = consO (a.eval x) (evals a r) := rfl
def consP (i : Nat) (x : Option AV) (y : Option (List (Nat × AV))) : Option (List (Nat × AV)) := match x,y with | some v,some vs => some ((i,v) :: vs) | _,_ => none
@[go_sem] theorem consP_some (i : Nat) (v : AV) (vs : List (Nat × AV)) : consP i (some v) (some vs) = some ((i,v) :: vs) := rfl
@[go_sem] theorem evalParts_nil (a : AAct) : evalParts a [] = some [] := rfl
@[go_sem] theorem evalParts_cons (a : AAct) (i : Nat) (x : Operand) (r : List (Nat × Operand)) : evalParts a ((i,x) :: r) = consP i (a.eval x) (evalParts a r) := rfl
@[go_sem] theorem keepT_nil (ks : List Nat) : keepT ks [] = [] := rfl
@[go_sem] theorem keepT_cons (ks : List Nat) (k : Tmp) (v : AV) (r : List (Tmp × AV)) : keepT ks ((k,v) :: r) = if k ∈ ks then (k,v) :: keepT ks r else keepT ks r := by
 have h : ∀ ks : List Nat,memNat k ks = decide (k ∈ ks) := by
  intro ks;induction ks with
  | nil => rfl
  | cons x r ih =>
   simp only [memNat,ih,List.mem_cons]
   by_cases hx : x = k
   ·subst hx;simp
   ·have hb : Nat.beq x k = false := by
     cases hb : Nat.beq x k
     ·rfl
     ·exact absurd (Nat.eq_of_beq_eq_true hb) hx
    have hx' : ¬ k = x := fun e => hx e.symm
    simp [hb,hx']
 simp only [keepT,List.filter_cons,h]
 by_cases hk : k ∈ ks <;> simp [hk]
variable {t : TypeId} {x y : Operand} {k : IntKind}
@[go_sem] theorem bin_lss (m n : Int) : binA P .lss t x y (.v (.int k m)) (.v (.int k n)) = some (.v (.bool (decide (m < n)))) := by cases k <;> rfl
@[go_sem] theorem bin_leq (m n : Int) : binA P .leq t x y (.v (.int k m)) (.v (.int k n)) = some (.v (.bool (decide (m ≤ n)))) := by cases k <;> rfl
@[go_sem] theorem bin_gtr (m n : Int) : binA P .gtr t x y (.v (.int k m)) (.v (.int k n)) = some (.v (.bool (decide (n < m)))) := by cases k <;> rfl
@[go_sem] theorem bin_geq (m n : Int) : binA P .geq t x y (.v (.int k m)) (.v (.int k n)) = some (.v (.bool (decide (n ≤ m)))) := by cases k <;> rfl
@[go_sem] theorem bin_eql (m n : Int) : binA P .eql t x y (.v (.int k m)) (.v (.int k n)) = some (.v (.bool (decide (m = n)))) := by
 have : (m == n) = decide (m = n) := rfl
 cases k <;> rw [← this] <;> rfl
@[go_sem] theorem bin_neq (m n : Int) : binA P .neq t x y (.v (.int k m)) (.v (.int k n)) = some (.v (.bool (!decide (m = n)))) := by
 have : (m != n) = !decide (m = n) := rfl
 cases k <;> rw [← this] <;> rfl
@[go_sem] theorem bin_add (m n : Int) : binA P .add t x y (.v (.int k m)) (.v (.int k n)) = some (.v (.int k (k.wrap (m + n)))) := by cases k <;> rfl
@[go_sem] theorem bin_sub (m n : Int) : binA P .sub t x y (.v (.int k m)) (.v (.int k n)) = some (.v (.int k (k.wrap (m - n)))) := by cases k <;> rfl
@[go_sem] theorem bin_str (op : BinOp) (u w : ByteArray) : binA P op t x y (.v (.string u)) (.v (.string w)) = atomA (strOp op u w) := rfl
theorem wrap_in (n : Int) (h1 : -9223372036854775808 ≤ n) (h2 : n ≤ 9223372036854775807) : IntKind.i64.wrap n = n := IntWalk.i64_in n ⟨h1,h2⟩
theorem bytesEq_iff : ∀ (a b : List UInt8),bytesEq a b = decide (a = b)
 | [],[] => by simp [bytesEq]
 | [],_ :: _ => by simp [bytesEq]
 | _ :: _,[] => by simp [bytesEq]
 | x :: a,y :: b => by
  simp only [bytesEq,bytesEq_iff a b,List.cons.injEq]
  by_cases h : x = y
  ·subst h;simp
  ·have : ¬ x.toNat = y.toNat := fun e => h (UInt8.toNat_inj.1 e)
   simp [h,this]
theorem str_ext (a b : ByteArray) : a = b ↔ a.data.toList = b.data.toList := by
 constructor
 ·rintro rfl;rfl
 ·intro h;cases a;cases b;congr;exact Array.toList_inj.1 h
@[go_sem] theorem str_eql (u w : ByteArray) : strOp .eql u w = some (.bool (decide (u = w))) := by
 simp only [strOp,bytesEq_iff,str_ext]
@[go_sem] theorem str_neq (u w : ByteArray) : strOp .neq u w = some (.bool (!decide (u = w))) := by
 simp only [strOp,bytesEq_iff,str_ext]
@[go_sem] theorem atomA_bool (b : Bool) : atomA (some (.bool b)) = some (.v (.bool b)) := rfl
theorem index_str (h : P.underlying t = some .string) (s : ByteArray) (k : IntKind) (i : Int) : indexA P t (.v (.string s)) (.v (.int k i)) = if 0 ≤ i then (strAt s i.toNat).map fun b => .v (.int .u8 b.toNat) else none := by
 unfold indexA;rw [h]
theorem partOf_one (cs : List AV) (k : Nat) (h : isAggT P t = some false) {n : Nat} (hs : sizeT P t = some n) : partOf P t cs k = cs[k]? := by
 unfold partOf;rw [h,hs]
theorem partOf_agg (cs : List AV) (k : Nat) (h : isAggT P t = some true) {n : Nat} (hs : sizeT P t = some n) : partOf P t cs k = if k + n ≤ cs.length then some (.agg ((cs.drop k).take n)) else none := by
 unfold partOf;rw [h,hs]
@[go_sem] theorem load_ro (H : Heap) (z : AV) (k : Nat) : loadA P H t (.ro z k) = partOf P t z.cells k := rfl
def rowPart (P : Program) (t : TypeId) (k : Nat) (r : Option (Nat × TypeId × Nat × Bool × List AV)) : Option AV := match r with | some (_,_,_,_,cs) => partOf P t cs k | _ => none
@[go_sem] theorem rowPart_some (m e sz g) (cs : List AV) (k : Nat) : rowPart P t k (some (m,e,sz,g,cs)) = partOf P t cs k := rfl
@[go_sem] theorem load_ptr (H : Heap) (b v k : Nat) : loadA P H t (.ptr b v k) = rowPart P t k (H.row b v) := rfl
def fieldOff (P : Program) (t : TypeId) (i : Nat) : Option (Nat × Nat) :=
 match P.underlying t with
 | some (.struct fs) => (match fs[i]? with | some f => (sizeT P f.type).map fun n => (f.offset,n) | none => none)
 | _ => none
theorem fieldAddr_off {i off n : Nat} (h : fieldOff P t i = some (off,n + 1)) (x : AV) : fieldAddrA P t x i = match x with | .ptr b v k => some (.ptr b v (k + off)) | .ro z k => some (.ro z (k + off)) | _ => none := by
 unfold fieldOff at h
 unfold fieldAddrA
 cases hu : P.underlying t with
 | none => rw [hu] at h;simp at h
 | some u =>
  rw [hu] at h
  cases u <;> simp only at h ⊢ <;> try (cases h)
  rename_i fs
  cases hf : fs[i]? with
  | none => rw [hf] at h;simp at h
  | some f =>
   rw [hf] at h;simp only at h ⊢
   cases hs : sizeT P f.type with
   | none => rw [hs] at h;simp at h
   | some m =>
    rw [hs] at h;simp only [Option.map_some,Option.some.injEq,Prod.mk.injEq] at h
    obtain ⟨h1,h2⟩ := h
    subst h1;subst h2
    cases x <;> rfl
theorem fieldAddr_ptr {i off n : Nat} (h : fieldOff P t i = some (off,n + 1)) (b v k : Nat) : fieldAddrA P t (.ptr b v k) i = some (.ptr b v (k + off)) := fieldAddr_off h _
theorem len_str (h : P.underlying t = some .string) (H : Heap) (s : ByteArray) (r) : lenA P H (t :: r) [.v (.string s)] = some (.v (.int .i64 s.size)) := by
 unfold lenA;simp only;rw [h]
theorem len_slice {e : TypeId} (h : P.underlying t = some (.slice e)) (H : Heap) (x : AV) (r) : lenA P H (t :: r) [x] = match x with | .v (.slice none 0 0) => some (.v (.int .i64 0)) | .vs _ xs _ => some (.v (.int .i64 xs.length)) | .sl _ _ _ len _ => some (.v (.int .i64 len)) | _ => none := by
 unfold lenA;simp only;rw [h]
 split <;> simp_all
end
end Go.Ev
namespace Go.Ev
section
variable {C : Cfg} {me : FuncId} {rd : Option Nat}
def goP (o : Out) (K : Post) : Prop := match o with | .go e a H => AtK K e a H | _ => False
def Lp (C : Cfg) (me : FuncId) (rd : Option Nat) (ks : List Tmp) (c : Code) (a : AAct) (H : Heap) (K : Post) : Prop := bindO (lim C (.loop me rd ks c a H)) fun o => goP o K
@[congr] theorem Lp_congr {ks ks' : List Tmp} {c : Code} {a a' : AAct} {H H' : Heap} {K : Post} (hk : ks = ks') (ha : a = a') (hH : H = H') : Lp C me rd ks c a H K = Lp C me rd ks' c a' H' K := by rw [hk,ha,hH]
@[go_sem ↓] theorem wp_loopE (c : Code) (a : AAct) (H : Heap) (K : Post) : Wp C me rd (.loop c) a H K = Lp C me rd (a.tmps.map (·.1)) c a H K := by
 show bindO (match lim C (.loop me rd (a.tmps.map (·.1)) c a H) with | some (.go e a' H') => some (e,a',H') | _ => none) _ = bindO _ _
 cases lim C (.loop me rd (a.tmps.map (·.1)) c a H) with
 | none => rfl
 | some o => cases o <;> rfl
def loopK (C : Cfg) (me : FuncId) (rd : Option Nat) (ks : List Tmp) (c : Code) (n : Nat) (K : Post) : Post := fun e a H =>
 match e with
 | .normal => Lp C me rd ks c (a.only ks) (H.trim n ((a.only ks).tmps.map (·.2)) (a.only ks).marks) K
 | .exit i => AtK K (.exit i) (a.only ks) (H.trim n ((a.only ks).tmps.map (·.2)) (a.only ks).marks)
 | .ret => AtK K .ret a H
theorem lim_eq (t : Task) : lim C t = taskA C (lim C) t := by
 cases h : taskA C (lim C) t with
 | some x => exact lim_step.2 h
 | none =>
  cases h' : lim C t with
  | none => rfl
  | some x => rw [lim_step.1 h'] at h;cases h
theorem Lp_step (ks : List Tmp) (c : Code) (a : AAct) (H : Heap) (K : Post) : Lp C me rd ks c a H K = Wp C me rd c a H (loopK C me rd ks c H.size K) := by
 unfold Lp
 rw [lim_eq]
 unfold Wp
 simp only [taskA]
 rcases codeA C (lim C) me rd c a H with _ | ⟨e,a',H'⟩
 ·rfl
 ·cases e <;> rfl
theorem trim_size (H : Heap) (vs : List AV) (ms : List Nat) : H.trim H.size vs ms = H := by
 unfold Heap.trim
 have : H.objs.take H.size = H.objs := List.take_length
 split
 ·rw [this]
 ·rfl
theorem settle_size (H : Heap) : settleH H.size H = H := by
 unfold settleH
 have h : H.objs.take H.size = H.objs := List.take_length
 split
 ·rw [h]
 ·rfl
@[go_sem] theorem settle_same (H : Heap) : settleH H.size H = H := settle_size H
def Fn' (C : Cfg) (f : FuncId) (args : List AV) (H : Heap) (K : PostO) : Prop := bindO (lim C (.call f args H)) fun o => retP o K
def finK (C : Cfg) (rs : List ResultVar) (K : PostO) : Post := fun e a H =>
 match e with
 | .exit _ => False
 | _ => bindO (killAll a.marks H) fun H2 => bindO (resultsA C a H2 rs) fun vs => AtO K (oneOf vs) H2
@[go_sem ↓] theorem finK_ret (rs : List ResultVar) (K : PostO) (a : AAct) (H : Heap) : AtK (finK C rs K) .ret a H = bindO (killAll a.marks H) fun H2 => bindO (resultsA C a H2 rs) fun vs => AtO K (oneOf vs) H2 := rfl
theorem fn_step {f : FuncId} {args : List AV} {H : Heap} {K : PostO} {fn : Func} (hf : C.P.funcs[f]? = some fn) {c : Code} (hc : fn.body = some c) (hlay : C.lay f = none := by rfl) :
  Fn' C f args H K = Wp C f none c ⟨args.length + (fn.ntmps - args.length),number 0 args,[]⟩ H (finK C fn.results.toList K) := by
 unfold Fn'
 rw [lim_eq]
 unfold Wp
 simp only [taskA,hlay,hf,hc]
 rcases codeA C (lim C) f none c ⟨args.length + (fn.ntmps - args.length),number 0 args,[]⟩ H with _ | ⟨e,a',H'⟩
 ·rfl
 ·cases e with
  | exit i => rfl
  | normal =>
   simp only [bindO_some,finK]
   rcases killAll a'.marks H' with _ | H2
   ·rfl
   ·simp only [bindO_some];cases resultsA C a' H2 fn.results.toList <;> rfl
  | ret =>
   simp only [bindO_some,finK]
   rcases killAll a'.marks H' with _ | H2
   ·rfl
   ·simp only [bindO_some];cases resultsA C a' H2 fn.results.toList <;> rfl
@[go_sem] theorem kill_nil (H : Heap) : killAll [] H = some H := rfl
@[go_sem] theorem results_nil (a : AAct) (H : Heap) : resultsA C a H [] = some [] := rfl
@[go_sem] theorem results_tmp (s : Nat) (l : List (Tmp × AV)) (m : List Nat) (H : Heap) (t : Tmp) (r : List ResultVar) : resultsA C ⟨s,l,m⟩ H (.tmp t :: r) = consO (assoc t l) (resultsA C ⟨s,l,m⟩ H r) := rfl
@[go_sem] theorem results_cell (s : Nat) (l : List (Tmp × AV)) (m : List Nat) (H : Heap) (t : Tmp) (ty : TypeId) (r : List ResultVar) : resultsA C ⟨s,l,m⟩ H (.cell t ty :: r) = consO ((assoc t l).bind (loadA C.P H ty)) (resultsA C ⟨s,l,m⟩ H r) := rfl
@[go_sem] theorem oneOf_one (v : AV) : oneOf [v] = v := rfl
@[go_sem] theorem oneOf_two (v w : AV) (r : List AV) : oneOf (v :: w :: r) = .tup (v :: w :: r) := rfl
@[go_sem] theorem number_nil (n : Nat) : number n [] = [] := rfl
@[go_sem] theorem number_cons (n : Nat) (x : AV) (r : List AV) : number n (x :: r) = (n,x) :: number (n + 1) r := rfl
def ansK (v : AV) : PostO := fun x H => freezeV { H with lock := 0 } 1000000 x = some v
@[go_sem] theorem ansK_at (v x : AV) (l : List (Option AObj)) (k : Nat) : AtO (ansK v) x ⟨l,k⟩ = (freezeV ⟨l,0⟩ 1000000 x = some v) := rfl
def Ans (C : Cfg) (f : FuncId) (args : List AV) (v : AV) : Prop :=
 Fn' C f args { objs := [],lock := 0 } (ansK v)
theorem Ans.iff {f : FuncId} {args : List AV} {v : AV} : Ans C f args v ↔ ∃ x H,lim C (.call f args { objs := [],lock := 0 }) = some (.ret x H) ∧ freezeV { H with lock := 0 } 1000000 x = some v := by
 unfold Ans Fn' ansK
 rw [bindO_iff]
 constructor
 ·rintro ⟨o,h1,h2⟩
  cases o with
  | ret x H => exact ⟨x,H,h1,h2⟩
  | go => exact h2.elim
 ·rintro ⟨x,H,h1,h2⟩;exact ⟨_,h1,h2⟩
theorem Ans.call {f : FuncId} {args : List AV} {v : AV} (h : Ans C f args v) {d : Option Tmp} (hx : C.ext f = none) (hp : C.pure me f d = true) (hb : boundL args = 0) (H : Heap) (hh : C.exh f = none := by rfl) : callA C (lim C) me f d args H = some (v,H) := by
 obtain ⟨x,H',h1,h2⟩ := Ans.iff.1 h
 have hk : callKind C me f d args = 1 := by unfold callKind;rw [hp,hb];rfl
 unfold callA standA standH;rw [hx];simp only;rw [hh];simp only
 unfold callB;rw [hk];simp only [h1,h2,Option.map_some]
def SlOf (sz : Nat) (xs : List AV) (x : AV) : Prop := (x = .v (.slice none 0 0) ∧ xs = []) ∨ ∃ cap,x = .vs sz xs cap
def slLen (x : AV) : Option AV := match x with | .v (.slice none 0 0) => some (.v (.int .i64 0)) | .vs _ xs _ => some (.v (.int .i64 xs.length)) | .sl _ _ _ len _ => some (.v (.int .i64 len)) | _ => none
theorem len_sl {P : Program} {t e : TypeId} (h : P.underlying t = some (.slice e)) (H : Heap) (x : AV) : lenA P H [t] [x] = slLen x := len_slice h H x []
def slIdx (s : Nat) (x ix : AV) : Option AV :=
 match ix with
 | .v (.int _ i) =>
  match x with
  | .sl b v off len _ => if 0 ≤ i ∧ i < (len : Int) then some (.ptr b v (off + i.toNat * s)) else none
  | .vs sz xs _ => if 0 ≤ i ∧ i < (xs.length : Int) ∧ sz = s then (xs[i.toNat]?).map fun y => .ro y 0 else none
  | _ => none
 | _ => none
theorem idx_sl {P : Program} {t e : TypeId} {s : Nat} (h : P.underlying t = some (.slice e)) (hs : sizeT P e = some s) (x ix : AV) : indexAddrA P t x ix = slIdx s x ix := by
 unfold indexAddrA slIdx;rw [h]
 rcases ix with v | _ | _ | _ | _ | _ | _ | _ | _ | _ | _ <;> try rfl
 cases v <;> try rfl
 simp only;rw [hs]
 cases x <;> rfl
theorem SlOf.len {sz : Nat} {xs : List AV} {x : AV} (h : SlOf sz xs x) : slLen x = some (.v (.int .i64 (xs.length : Nat))) := by
 rcases h with ⟨rfl,rfl⟩ | ⟨cap,rfl⟩ <;> rfl
theorem SlOf.idx {sz : Nat} {xs : List AV} {x y : AV} (h : SlOf sz xs x) {j : Nat} (hy : xs[j]? = some y) (k : IntKind) : slIdx sz x (.v (.int k (j : Nat))) = some (.ro y 0) := by
 rcases h with ⟨rfl,rfl⟩ | ⟨cap,rfl⟩
 ·simp at hy
 ·have := (List.getElem?_eq_some_iff.1 hy).1
  unfold slIdx;simp only [Int.toNat_natCast,hy,Option.map_some]
  rw [if_pos ⟨by omega,by omega,trivial⟩]
theorem SlOf.bound {sz : Nat} {xs : List AV} {x : AV} (h : SlOf sz xs x) : bound x = 0 := by
 rcases h with ⟨rfl,rfl⟩ | ⟨cap,rfl⟩ <;> rfl
theorem SlOf.flat {sz : Nat} {xs : List AV} {x : AV} (h : SlOf sz xs x) : x.flat = true := by
 rcases h with ⟨rfl,rfl⟩ | ⟨cap,rfl⟩ <;> rfl
theorem SlOf.cells {sz : Nat} {xs : List AV} {x : AV} (h : SlOf sz xs x) : x.cells = [x] := by
 rcases h with ⟨rfl,rfl⟩ | ⟨cap,rfl⟩ <;> rfl
def bsFin (mt : Bool) (e n : Nat) (H : Heap) (slot len : Nat) (cs : List AV) : Option (AV × Heap) :=
 if cs.all AV.flat = true then (if mt = true ∨ boundL cs ≠ 0 then some (.sl slot 0 0 len (some len),H.put slot (.cells 0 (boundL cs) e n false cs)) else some (.vs n (chunk n len cs) (some len),H)) else none
theorem buildSl_eq {P : Program} {t e n : Nat} {z : AV} (hu : P.underlying t = some (.slice e)) (hs : sizeT P e = some n) (hz : zeroT P e = some z) (hn : 0 < n) (hl : z.cells.length = n) (mt : Bool) (H : Heap) (slot len : Nat) (parts : List (Nat × AV)) :
  buildSliceA P mt H slot t len parts = if len * n ≤ 65536 then (fillA (fun i => some (i * n,n)) (repeatCells z.cells len) parts).bind (bsFin mt e n H slot len) else none := by
 unfold buildSliceA
 rw [hu];simp only;rw [hs,hz];simp only [hn,hl,and_true]
 split
 ·cases fillA (fun i => some (i * n,n)) (repeatCells z.cells len) parts with
  | none => rfl
  | some cs =>
   simp only [Option.bind_some,bsFin]
   cases hf : cs.all AV.flat
   ·rfl
   ·simp only [Bool.true_eq_false,if_false,if_true]
    have : Nat.beq (boundL cs) 0 = decide (boundL cs = 0) := by
     cases boundL cs <;> rfl
    rw [this]
    cases mt <;> by_cases hb : boundL cs = 0 <;> simp [hb]
 ·rfl
@[go_sem] theorem fillA_nil (place : Nat → Option (Nat × Nat)) (cells : List AV) : fillA place cells [] = some cells := rfl
def fill1 (place : Nat → Option (Nat × Nat)) (cells : List AV) (v : AV) (rest : List (Nat × AV)) (p : Option (Nat × Nat)) : Option (List AV) :=
 match p with
 | none => none
 | some (off,size) => if v.cells.length = size ∧ off + size ≤ cells.length then fillA place (splice off v.cells cells) rest else none
@[go_sem] theorem fillA_cons (place : Nat → Option (Nat × Nat)) (cells : List AV) (i : Nat) (v : AV) (rest : List (Nat × AV)) : fillA place cells ((i,v) :: rest) = fill1 place cells v rest (place i) := by
 unfold fill1;simp only [fillA]
 cases place i <;> rfl
@[go_sem] theorem fill1_some (place : Nat → Option (Nat × Nat)) (cells : List AV) (v : AV) (rest : List (Nat × AV)) (off size : Nat) : fill1 place cells v rest (some (off,size)) = if v.cells.length = size ∧ off + size ≤ cells.length then fillA place (splice off v.cells cells) rest else none := rfl
theorem wrap_succ (j : Nat) (h : j + 1 < 2 ^ 63) : IntKind.i64.wrap ((j : Int) + 1) = ((j + 1 : Nat) : Int) := by
 rw [wrap_in _ (by omega) (by omega)];omega
end
end Go.Ev
namespace Go.Ev
@[go_sem] theorem heap_size (l : List (Option AObj)) (k : Nat) : (Heap.mk l k).size = l.length := rfl
@[go_sem] theorem heap_put (l : List (Option AObj)) (k b : Nat) (o : AObj) : (Heap.mk l k).put b o = ⟨setOrPush (some o) b l,k⟩ := rfl
@[go_sem] theorem sop_nil {α : Type} (x : α) (n : Nat) : setOrPush x n [] = [x] := by cases n <;> rfl
@[go_sem] theorem sop_zero {α : Type} (x y : α) (r : List α) : setOrPush x 0 (y :: r) = x :: r := rfl
@[go_sem] theorem sop_succ {α : Type} (x y : α) (n : Nat) (r : List α) : setOrPush x (n + 1) (y :: r) = y :: setOrPush x n r := rfl
def objRow (v : Nat) (o : Option AObj) : Option (Nat × TypeId × Nat × Bool × List AV) := match o with | some (.cells w m e sz g cs) => if w = v then some (m,e,sz,g,cs) else none | _ => none
@[go_sem] theorem objRow_cells (v w m e sz g) (cs : List AV) : objRow v (some (.cells w m e sz g cs)) = if w = v then some (m,e,sz,g,cs) else none := rfl
@[go_sem] theorem heap_row (l : List (Option AObj)) (k b v : Nat) : (Heap.mk l k).row b v = objRow v ((l[b]?).join) := by
 unfold Heap.row Heap.get objRow;rfl
@[go_sem] theorem join_some {α : Type} (x : Option α) : (some x).join = x := rfl
@[go_sem] theorem bound_v (x : Value) : bound (.v x) = 0 := rfl
@[go_sem] theorem bound_vs (s : Nat) (x : List AV) (k : Option Nat) : bound (.vs s x k) = 0 := rfl
@[go_sem] theorem bound_agg (l : List AV) : bound (.agg l) = boundL l := rfl
@[go_sem] theorem bound_tup (l : List AV) : bound (.tup l) = boundL l := rfl
@[go_sem] theorem boundL_nil : boundL [] = 0 := rfl
@[go_sem] theorem boundL_cons (x : AV) (r : List AV) : boundL (x :: r) = Nat.max (bound x) (boundL r) := rfl
@[go_sem] theorem nmax (a b : Nat) : Nat.max a b = if a ≤ b then b else a := by rw [show Nat.max a b = max a b from rfl,Nat.max_def]
@[go_sem] theorem settle_mk (l : List (Option AObj)) (k n : Nat) : settleH n ⟨l,k⟩ = if (l.drop n).all Option.isNone = true then ⟨l.take n,k⟩ else ⟨l,k⟩ := rfl
@[go_sem] theorem isNone_some' {α : Type} (x : α) : (some x).isNone = false := rfl
@[go_sem] theorem isNone_none' {α : Type} : (none : Option α).isNone = true := rfl
@[go_sem] theorem trim_len (l : List (Option AObj)) (k n : Nat) (vs : List AV) (ms : List Nat) (h : l.length ≤ n) : (Heap.mk l k).trim n vs ms = ⟨l,k⟩ := by
 unfold Heap.trim
 have : l.take n = l := List.take_of_length_le h
 split
 ·simp only [this]
 ·rfl
@[go_sem] theorem freeze_v (H : Heap) (x : Value) : freezeV H 1000000 (.v x) = some (.v x) := rfl
@[go_sem] theorem freeze_vs (H : Heap) (s : Nat) (x : List AV) (k : Option Nat) : freezeV H 1000000 (.vs s x k) = some (.vs s x k) := rfl
@[go_sem] theorem cells_v (x : Value) : AV.cells (.v x) = [.v x] := rfl
@[go_sem] theorem flat_v (x : Value) : AV.flat (.v x) = true := rfl
@[go_sem] theorem cells_vs (s : Nat) (l : List AV) (k : Option Nat) : AV.cells (.vs s l k) = [.vs s l k] := rfl
@[go_sem] theorem flat_vs (s : Nat) (l : List AV) (k : Option Nat) : AV.flat (.vs s l k) = true := rfl
@[go_sem] theorem cells_sl (b v o n : Nat) (k : Option Nat) : AV.cells (.sl b v o n k) = [.sl b v o n k] := rfl
@[go_sem] theorem flat_sl (b v o n : Nat) (k : Option Nat) : AV.flat (.sl b v o n k) = true := rfl
@[go_sem] theorem cells_agg (l : List AV) : AV.cells (.agg l) = l := rfl
def stObj (l : List (Option AObj)) (k b v off : Nat) (xs : List AV) (o : Option AObj) : Option Heap :=
 match o with
 | some (.cells w m e sz g cs) => if w = v ∧ k ≤ b ∧ off + xs.length ≤ cs.length ∧ xs.all AV.flat = true then some ⟨setOrPush (some (.cells w (Nat.max m (boundL xs)) e sz g (splice off xs cs))) b l,k⟩ else none
 | _ => none
@[go_sem] theorem stObj_cells (l : List (Option AObj)) (k b v off : Nat) (xs : List AV) (w m e sz g) (cs : List AV) : stObj l k b v off xs (some (.cells w m e sz g cs)) = if w = v ∧ k ≤ b ∧ off + xs.length ≤ cs.length ∧ xs.all AV.flat = true then some ⟨setOrPush (some (.cells w (Nat.max m (boundL xs)) e sz g (splice off xs cs))) b l,k⟩ else none := rfl
@[go_sem] theorem store_mk (l : List (Option AObj)) (k b v off : Nat) (xs : List AV) : storeCells ⟨l,k⟩ b v off xs = stObj l k b v off xs ((l[b]?).join) := by
 unfold storeCells
 rw [heap_row]
 unfold objRow stObj
 cases (l[b]?).join with
 | none => rfl
 | some o =>
  cases o with
  | cells w m e sz g cs =>
   simp only
   by_cases hw : w = v
   ·subst hw;simp only [if_true,true_and];rfl
   ·simp only [hw,if_false,false_and]
  | _ => rfl
@[go_sem] theorem ansK_v (v : AV) (x : Value) (H : Heap) : AtO (ansK v) (.v x) H = (some (AV.v x) = some v) := rfl
end Go.Ev
namespace Go.Ev
@[go_sem] theorem obeq_tf : ((some true : Option Bool) == some false) = false := rfl
@[go_sem] theorem obeq_ft : ((some false : Option Bool) == some true) = false := rfl
section
variable {C : Cfg} {me : FuncId} {rd : Option Nat}
def loadI (P : Program) (H : Heap) (t : TypeId) (p : AV) : Option AV :=
 match p with
 | .ptr b v k => if b < H.size then loadA P H t (.ptr b v k) else none
 | .ro z k => loadA P H t (.ro z k)
 | _ => none
def lenI (P : Program) (ts : List TypeId) (l : List AV) : Option AV :=
 match l with
 | .mp _ :: _ => none
 | l => lenA P { objs := [],lock := 0 } ts l
open Classical in
noncomputable def callI (C : Cfg) (me f : FuncId) (d : Option Tmp) (args : List AV) : Option AV :=
 if h : ∃ v,(∀ H,callA C (lim C) me f d args H = some (v,H)) ∧ ((standA C f args).isSome = true ∨ callKind C me f d args = 1) then some h.choose else none
noncomputable def callV (C : Cfg) (me : FuncId) (d : Option Tmp) (g : AV) (l : List AV) : Option AV :=
 match g with
 | .fn (.func f) x y => callI C me f d (x ++ l ++ y)
 | _ => none
def sliceI (P : Program) (t : TypeId) (v : AV) (l h m : Option AV) : Option AV :=
 match v with
 | .sl _ _ _ _ _ => none
 | v => sliceA P { objs := [],lock := 0 } t v l h m
def bareO (d : Option Tmp) (op : Op) : Oper := { dst := d,op := op,type := 0,pos := "",after := #[],guard := none }
noncomputable def opI (C : Cfg) (me : FuncId) (H : Heap) (d : Option Tmp) (op : Op) (a : AAct) : Option AV :=
 match op with
 | .load t x => (a.eval x).bind (loadI C.P H t)
 | .slice t x l h m => (a.eval x).bind fun v => (lookO a l).bind fun l => (lookO a h).bind fun h => (lookO a m).bind fun m => sliceI C.P t v l h m
 | .call c =>
  match c.callee with
  | .builtin .len => (evals a c.args.toList).bind (lenI C.P c.argTypes.toList)
  | .builtin .min => (evals a c.args.toList).bind (mmA false)
  | .value g => (evals a c.args.toList).bind fun l => (a.eval g).bind fun v => callV C me d v l
  | _ => none
 | op => if plainO (bareO d op) then (opA C (lim C) me (bareO d op) a H 0).map fun r => r.1.getD undefA else none
theorem callI_of {f : FuncId} {d : Option Tmp} {args : List AV} {v : AV} (h : ∀ H,callA C (lim C) me f d args H = some (v,H)) (hk : (standA C f args).isSome = true ∨ callKind C me f d args = 1) : callI C me f d args = some v := by
 unfold callI
 have hex : ∃ v,(∀ H,callA C (lim C) me f d args H = some (v,H)) ∧ ((standA C f args).isSome = true ∨ callKind C me f d args = 1) := ⟨v,h,hk⟩
 rw [dif_pos hex]
 have h1 := hex.choose_spec.1 { objs := [],lock := 0 }
 rw [h] at h1
 simp only [Option.some.injEq,Prod.mk.injEq] at h1
 rw [← h1.1]
theorem Ans.callI {f : FuncId} {args : List AV} {v : AV} (h : Ans C f args v) {d : Option Tmp} (hx : C.ext f = none) (hp : C.pure me f d = true) (hb : boundL args = 0) (hh : C.exh f = none := by rfl) : callI C me f d args = some v :=
 callI_of (fun H => h.call hx hp hb H hh) (Or.inr (by unfold callKind;rw [hp,hb];rfl))
noncomputable def idleA (C : Cfg) (me : FuncId) (arr : Array Oper) (H : Heap) : List Oper → AAct → Option AAct
 | [],a => some a
 | o :: r,a =>
  match wantedA arr a o with
  | some true => match opI C me H o.dst o.op a with | some v => idleA C me arr H r (a.put o.dst v) | none => none
  | some false => idleA C me arr H r (a.put o.dst undefA)
  | none => none
theorem plain_slot {o : Oper} (hp : plainO o = true) (a : AAct) (H : Heap) (s s' : Nat) : opA C (lim C) me o a H s = opA C (lim C) me o a H s' := by
 unfold plainO at hp
 unfold opA
 cases ho : o.op <;> rw [ho] at hp <;> simp only [] at hp <;> first | (cases hp;done) | rfl
def WpI (C : Cfg) (me : FuncId) (arr : Array Oper) (ops : List Oper) (a : AAct) (H : Heap) (K : AAct → Prop) : Prop := bindO (idleA C me arr H ops a) K
@[congr] theorem WpI_congr {arr : Array Oper} {ops : List Oper} {a a' : AAct} {H H' : Heap} {K : AAct → Prop} (ha : a = a') (hH : H = H') : WpI C me arr ops a H K = WpI C me arr ops a' H' K := by rw [ha,hH]
def drawOk (ops : Array Oper) : Bool := apartM (waitsAll ops.toList) 0 [] (rowsM ops ops.toList) && waitsOk (waitsAll ops.toList) ops.toList.length
def WpJ (C : Cfg) (me : FuncId) (d : Option Tmp) (op : Op) (a : AAct) (H : Heap) (K : PostO) : Prop := bindO (opI C me H d op a) fun v => AtO K v H
section
variable (d : Option Tmp) (a : AAct) (H : Heap) (arr : Array Oper) (r : List Oper) (d' : Option Tmp) (a' : AAct) (H2 : Heap) (K : AAct → Prop)
@[go_sem ↓] theorem wpJ_slice (K : PostO) (t x l h m) : WpJ C me d (.slice t x l h m) a H K = bindO (a.eval x) fun v => bindO (lookO a l) fun l => bindO (lookO a h) fun h => bindO (lookO a m) fun m => bindO (sliceI C.P t v l h m) fun v => AtO K v H := by
 unfold WpJ opI;simp only
 cases a.eval x with
 | none => rfl
 | some v =>
  cases lookO a l with
  | none => rfl
  | some l =>
   cases lookO a h with
   | none => rfl
   | some h =>
    cases lookO a m with
    | none => rfl
    | some m => rfl
@[go_sem ↓] theorem wpJ_len (K : PostO) (args ts) : WpJ C me d (.call ⟨.builtin .len,args,ts⟩) a H K = bindO (evals a args.toList) fun l => bindO (lenI C.P ts.toList l) fun v => AtO K v H := by
 unfold WpJ opI;simp only;cases evals a args.toList with
 | none => rfl
 | some p => rfl
@[go_sem ↓] theorem wpJ_call (K : PostO) (g args ts) : WpJ C me d (.call ⟨.value g,args,ts⟩) a H K = bindO (evals a args.toList) fun l => bindO (a.eval g) fun v => bindO (callV C me d v l) fun v => AtO K v H := by
 unfold WpJ opI;simp only
 cases evals a args.toList with
 | none => rfl
 | some p =>
  simp only [Option.bind_some,bindO_some]
  cases a.eval g with
  | none => rfl
  | some v => rfl
end
@[go_sem] theorem callV_fn (d : Option Tmp) (f : FuncId) (x y l : List AV) : callV C me d (.fn (.func f) x y) l = callI C me f d (x ++ l ++ y) := rfl
theorem SlOf.slice {P : Program} {t et sz : Nat} (hu : P.underlying t = some (.slice et)) (hs : sizeT P et = some sz) {xs : List AV} {x : AV} (h : SlOf sz xs x) (j : Nat) (hj : j ≤ xs.length) : ∃ y,sliceI P t x none (some (.v (.int .i64 j))) none = some y ∧ SlOf sz (xs.take j) y := by
 rcases h with ⟨rfl,rfl⟩ | ⟨cap,rfl⟩
 ·have : j = 0 := by simpa using hj
  subst this
  refine ⟨.v (.slice none 0 0), ?_,Or.inl ⟨rfl,rfl⟩⟩
  unfold sliceI sliceA
  simp [hu,hs,boundA]
 ·refine ⟨.vs sz (xs.take j) (capOf none xs.length 0 cap), ?_,Or.inr ⟨_,rfl⟩⟩
  have h1 : (0 : Int) ≤ (j : Int) ∧ (j : Int) ≤ (xs.length : Int) := by omega
  unfold sliceI sliceA
  simp [hu,hs,boundA,h1]
theorem SlOf.lenI {sz : Nat} {xs : List AV} {x : AV} (h : SlOf sz xs x) (P : Program) (ts : List TypeId) (r : List AV) : lenI P ts (x :: r) = lenA P { objs := [],lock := 0 } ts (x :: r) := by
 rcases h with ⟨rfl,rfl⟩ | ⟨cap,rfl⟩ <;> rfl
end
end Go.Ev
namespace Go.Ev
def moreExt (e : FuncId → Option (List AV → Option AV)) (f : FuncId) (g : List AV → Option AV) : FuncId → Option (List AV → Option AV) := fun f' => if Nat.beq f' f then some g else e f'
theorem extOK_more {C C' : Cfg} (hP : C'.P = C.P) {f : FuncId} {g : List AV → Option AV} (hg : ∀ args v,g args = some v → ∀ (Z : Fzn) (ρ : Pls) (H : Heap) (w : World) (vals : List Value),Sim Z ρ H w → RepL Z ρ args vals → FnMeets C.P f vals w (After Z ρ H w v H))
  (hext : ExtOK C) (he : C'.ext = moreExt C.ext f g) (hlay : C'.lay = C.lay := by rfl) (hexh : C'.exh = C.exh := by rfl) : ExtOK C' := by
 refine ⟨fun f' g' hf' args v hv Z ρ H w vals hs hl => ?_,fun f' g' hf' => by rw [hP];rw [hlay] at hf';exact hext.lay f' g' hf',fun f' g' hf' => by rw [hP];rw [hexh] at hf';exact hext.exh f' g' hf'⟩
 rw [hP]
 rw [he] at hf'
 unfold moreExt at hf'
 split at hf'
 ·rename_i hb
  have := Nat.eq_of_beq_eq_true hb
  subst this
  simp only [Option.some.injEq] at hf'
  subst hf'
  exact hg args v hv Z ρ H w vals hs hl
 ·exact hext.ext f' g' hf' args v hv Z ρ H w vals hs hl
end Go.Ev
namespace Go.Ev
def idxB (c : Nat) : Int → List UInt8 → Int
 | _,[] => -1
 | i,b :: r => if Nat.beq b.toNat c then i else idxB c (i + 1) r
theorem idxB_eq (c : UInt8) : ∀ (l : List UInt8) (i : Int),idxB c.toNat i l = if Lib.indexByte l c = -1 then -1 else Lib.indexByte l c + i
 | [],i => by simp [idxB,Lib.indexByte]
 | b :: l,i => by
  unfold idxB Lib.indexByte
  by_cases h : b = c
  ·subst h
   have h1 : Nat.beq b.toNat b.toNat = true := Nat.beq_refl _
   simp
  ·have h1 : Nat.beq b.toNat c.toNat = false := by
    cases hb : Nat.beq b.toNat c.toNat
    ·rfl
    ·exact absurd (UInt8.toNat_inj.1 (Nat.eq_of_beq_eq_true hb)) h
   have hge := Lib.indexByte_ge l c
   rw [h1,idxB_eq c l (i + 1)]
   simp only [Bool.false_eq_true,if_false,beq_iff_eq,h]
   by_cases h2 : Lib.indexByte l c = -1
   ·simp [h2]
   ·simp only [h2,if_false]
    rw [if_neg (by omega)];omega
def idxStr : List AV → Option AV
 | [.v (.string s),.v (.int .u8 c)] => if 0 ≤ c ∧ c < 256 then some (.v (.int .i64 (idxB c.toNat 0 s.data.toList))) else none
 | _ => none
theorem ext_idx {P : Program} {f : FuncId} {fn : Func} (hf : P.funcs[f]? = some fn) (hb : fn.body = none) (hn : (fn.name == "runtime.NumGoroutine") = false) (h1 : (Extern.findNext fn).isNone = true) (h2 : Extern.find fn = some Extern.BytealgIndexByte.indexByte)
  {args : List AV} {v : AV} (h : idxStr args = some v) (Z : Fzn) (ρ : Pls) (H : Heap) (w : World) (vals : List Value) (hs : Sim Z ρ H w) (hl : RepL Z ρ args vals) : FnMeets P f vals w (After Z ρ H w v H) := by
 unfold idxStr at h
 split at h
 ·rename_i s c
  split at h
  ·rename_i hc
   obtain ⟨v1,ws,rfl,hv1,hl⟩ := hl.uncons
   obtain ⟨v2,ws,rfl,hv2,hl⟩ := hl.uncons
   have : ws = [] := List.length_eq_zero_iff.1 hl.1.symm
   subst this
   obtain ⟨rfl, -⟩ := hv1.v_inv
   obtain ⟨rfl, -⟩ := hv2.v_inv
   simp only [Option.some.injEq] at h
   subst h
   refine Or.inl ⟨.int .i64 (Lib.indexByte s.data.toList c.toNat.toUInt8),w, ?_,Z,ρ, ?_,hs,Ext.refl _ _ _ _⟩
   ·have hfn : Extern.findNext fn = none := Option.isNone_iff_eq_none.1 h1
    have := Lib.run_indexByteString (P := P) s c w
    have hn' : ¬ fn.name = "runtime.NumGoroutine" := by
     intro e;rw [e] at hn;simp at hn
    simp [callFunc,hf,hn',hb,hfn,h2,this]
   ·have hcn : c.toNat.toUInt8.toNat = c.toNat := by
     have : c.toNat < 256 := by omega
     simp [Nat.toUInt8,Nat.mod_eq_of_lt this]
    have := idxB_eq c.toNat.toUInt8 s.data.toList 0
    rw [hcn] at this
    have e : idxB c.toNat 0 s.data.toList = Lib.indexByte s.data.toList c.toNat.toUInt8 := by
     rw [this];split
     ·rename_i h;exact h.symm
     ·omega
    rw [e];exact .v rfl
  ·cases h
 ·cases h
end Go.Ev
namespace Go.Ev
open Go.Proofs Go.Shelf Go.RowKit
theorem Sim.below {Z : Fzn} {ρ : Pls} {H : Heap} {w w' : World} (hs : Sim Z ρ H w) (hb : Below w.heap.size w w') : Sim Z ρ H w' :=
 ⟨fun b o h hl => let ⟨pl,obj,h1,h2,h3,h4⟩ := hs.objs b o h hl; ⟨pl,obj,h1,(hb.block _ (Array.getElem?_eq_some_iff.1 h2).1).trans h2,h3,h4⟩,hs.inj,
  fun k o hk => (hb.block k (Array.getElem?_eq_some_iff.1 (hs.zok k o hk)).1).trans (hs.zok k o hk),hs.fresh,hs.lk,hs.lg⟩
theorem Ext.below {Z : Fzn} {ρ : Pls} {H : Heap} {w w' : World} (hb : Below w.heap.size w w') : Ext Z ρ H w Z ρ H w' :=
 ⟨.refl _,.refl _,fun k hk _ => hb.block k hk,fun _ _ h => h,hb.size,hb.os,hb.output,hb.tape,(fun s => nomatch (show true = false from s)),fun _ ha _ => hb.frozen ha,rfl,fun _ _ => rfl,Nat.le_refl _,fun _ _ _ => rfl,fun _ _ _ => rfl,fun _ _ h _ => ⟨h,fun _ => rfl⟩⟩
end Go.Ev
namespace Go.Ev
open Go.Proofs Go.Shelf Go.RowKit
def ccA (tB : TypeId) : List AV → Heap → Option (AV × Heap)
 | [.ptr b v 0],H =>
  match H.row b v with
  | some (_,e,_,false,[.v (.pointer none),_]) => if e = tB then (storeCells H b v 0 [.ptr b v 0]).map fun H' => (.tup [],H') else none
  | some (_,_,_,false,[.ptr b' v' 0,_]) => if b' = b ∧ v' = v then some (.tup [],H) else none
  | _ => none
 | _,_ => none
theorem extOK_lay {C C' : Cfg} (hP : C'.P = C.P) {f : FuncId} {g : List AV → Heap → Option (AV × Heap)} (hg : ∀ args H v H',g args H = some (v,H') → MeetsCall C.P f args H v H')
  (hext : ExtOK C) (he : C'.ext = C.ext := by rfl) (hexh : C'.exh = C.exh := by rfl) (hlay : C'.lay = fun f' => if Nat.beq f' f then some g else C.lay f') : ExtOK C' := by
 refine ⟨fun f' g' hf' => by rw [hP];rw [he] at hf';exact hext.ext f' g' hf',fun f' g' hf' args H v H' hv => ?_,fun f' g' hf' => by rw [hP];rw [hexh] at hf';exact hext.exh f' g' hf'⟩
 rw [hP]
 rw [hlay] at hf'
 simp only at hf'
 split at hf'
 ·rename_i hb
  have := Nat.eq_of_beq_eq_true hb
  subst this
  simp only [Option.some.injEq] at hf'
  subst hf'
  exact hg args H v H' hv
 ·exact hext.lay f' g' hf' args H v H' hv
end Go.Ev
namespace Go.Ev
open Go.Proofs
def impF : List Nat := [27,30,36,47,62]
def impC : List (Nat × Nat × Nat) := [(53,60,19),(37,53,28),(14,37,43),(4,14,39)]
def altF : List Nat := []
def keepF : Nat → List Nat
 | 2 => []
 | 3 => [0,1,22,5,6,8,7,9,10,13,11,14,12,15,4]
 | 4 => [0,1,2,25,7,8,9,10,12,11,13,59,58,60,15,14,6]
 | 5 => [0,3,1,34,7,8,2,9,11,10,12,13,15,14,16,17,19,18,20,115,114,116,113,23,122,121,123,24,133,132,134,131,26,140,139,141,27,152,151,153,28,21,6]
 | 6 => [0,6,3,10,18,2]
 | 7 => [0,4,10,14,13,15,6,5,26,2,3]
 | 8 => [0,8,5,12,4,25,2,3]
 | 9 => [0,9,2,3,11,12,13,6,5,4]
 | 10 => [0,11,5,14,6,7,25,37,8,60,2,3,4]
 | 11 => [0,5,2]
 | 12 => [0,5,2]
 | 13 => [0,1,10,5,14,25,4]
 | 14 => [0,1,2,20,21,30,6,7]
 | 15 => [0,1,2,26,27,34,9,8,59,69,10,12,84,6,7]
 | 16 => [0,1,12,3,17,26,2]
 | 17 => [0,1,4,15,3,5,2]
 | 18 => [0,2,7,16,4,1,8,22,6,28,9,5]
 | 19 => [0,2,7,14,4,1,18,6,23,8,5]
 | 20 => [0,2,1,7,15,6,4,5]
 | 21 => [0,2,7,14,1,6,20,4,5]
 | 22 => [0,2,1,7,15,4,6,5]
 | 23 => [0,2,1,7,16,4,6,8,5]
 | 24 => [0,1,4,2]
 | 25 => [0,1,4,11,2]
 | 26 => [0,1,2,3,22,5,27,6,7,59,4]
 | 27 => [0,1,4,5]
 | 28 => [0,1,4]
 | 29 => [0,2]
 | 30 => [0,2]
 | 31 => [3,0,8,17,4,24,42,2]
 | 32 => [0,1,5,4]
 | 33 => [0,1,2]
 | 34 => [0,8,11,10,12,4,22,28,27,29,5,41,3,2]
 | 35 => [0,1,10,13,12,14,5,24,4]
 | 36 => [0,4,2]
 | 37 => [1,2,5,4,13,23,0,8,31,6,7]
 | 38 => [0,1,5,6,4]
 | 39 => [5,0,1,27,6,62,4]
 | 40 => [1,3,0,23,6,4,5]
 | 41 => [0,1,4,21,2,5,37,36,38,35,7,44,3]
 | 42 => [0,2,1,20,19,21,18,5,7,4]
 | 43 => [0,1,2]
 | 44 => [0,1,17,5,27,4,7,6,49,2,3]
 | 45 => [0,2,7,14,4,6,1,25,5]
 | 46 => [0,1,2,6]
 | 47 => [0,6,19]
 | 48 => [1,0,13,12,14,5,6,4]
 | 49 => [1,6,0,14,5,4]
 | 50 => [7,8,1,3,4,6,19,5,0,30]
 | 51 => [0,6,7,1,29,4,5]
 | 52 => [0,1,9,8,10,7,6,2,22,4]
 | 53 => [1,0,3,4]
 | 54 => [7,0,1,2,25,6]
 | 55 => [0,1,4]
 | 56 => [0,1,4]
 | 57 => [0,1,2,4]
 | 59 => [0,1,4]
 | 60 => [0,11,10,12,9,3,5,20,27,26,28,25,6,8,2]
 | 61 => [0,1,4]
 | 62 => [1,6,0,16,4]
 | _ => []
def pureF (h g : Nat) (d : Option Nat) : Bool := !(impF.contains g) && !(impC.contains (h,g,d.getD 100000))
structure Exts where
 x : FuncId → Option (List AV → Option AV)
def Exts.more (e : Exts) (f : FuncId) (g : List AV → Option AV) : Exts := { e with x := fun h => if Nat.beq h f then some g else e.x h }
def frzF (me : FuncId) (d : Option Tmp) : Bool := match d with | some d => (decide (me = 3) && decide (d = 25)) || (decide (me = 4) && (decide (d = 28) || decide (d = 31) || decide (d = 34))) || (decide (me = 39) && decide (d = 80)) || (decide (me = 15) && (decide (d = 33) || decide (d = 45))) | none => false
noncomputable def Cx (e : Exts) : Cfg := { P := Try.prog,pure := pureF,alter := fun h _ => altF.contains h,keep := keepF,ext := e.x,lay := fun h => if Nat.beq h 47 then some (ccA 65) else none,frz := frzF }
def Quiet (e : Exts) : Prop := ∀ f,f ≠ 1000000 → f ≠ 1000000 → f ≠ 1000000 → f ≠ 63 → e.x f = none
@[go_sem] theorem Cx_P (e : Exts) : (Cx e).P = Try.prog := rfl
@[go_sem] theorem frz_none (e : Exts) (me : FuncId) : (Cx e).frz me none = false := rfl
@[go_sem] theorem frz_some (e : Exts) (me : FuncId) (d : Tmp) : (Cx e).frz me (some d) = ((decide (me = 3) && decide (d = 25)) || (decide (me = 4) && (decide (d = 28) || decide (d = 31) || decide (d = 34))) || (decide (me = 39) && decide (d = 80)) || (decide (me = 15) && (decide (d = 33) || decide (d = 45)))) := rfl
theorem size_3 : sizeT Try.prog 3 = some 1 := by kernel_rfl
theorem size_9 : sizeT Try.prog 9 = some 1 := by kernel_rfl
theorem size_22 : sizeT Try.prog 22 = some 1 := by kernel_rfl
theorem size_60 : sizeT Try.prog 60 = some 3 := by kernel_rfl
@[go_sem] theorem zero_3 : zeroT Try.prog 3 = some (.v (.int .i64 0)) := by kernel_rfl
@[go_sem] theorem zero_9 : zeroT Try.prog 9 = some (.v (.string ⟨#[]⟩)) := by kernel_rfl
@[go_sem] theorem zero_22 : zeroT Try.prog 22 = some (.v (.slice none 0 0)) := by kernel_rfl
@[go_sem] theorem zero_60 : zeroT Try.prog 60 = some (.agg [.v (.int .i64 0),.v (.int .i64 0),.v (.slice none 0 0)]) := by kernel_rfl
@[go_sem] theorem keep_4 (e : Exts) : (Cx e).keep 4 = [0,1,2,25,7,8,9,10,12,11,13,59,58,60,15,14,6] := rfl
@[go_sem] theorem alter_4 (e : Exts) (d : Option Tmp) : (Cx e).alter 4 d = false := rfl
theorem fn_4 (e : Exts) : (Cx e).P.funcs[4]? = some Try.f4 := Try.func4
@[go_sem] theorem keep_6 (e : Exts) : (Cx e).keep 6 = [0,6,3,10,18,2] := rfl
theorem fn_6 (e : Exts) : (Cx e).P.funcs[6]? = some Try.f6 := Try.func6
theorem ext_6 {e : Exts} (he : Quiet e) : (Cx e).ext 6 = none := he _ (by decide) (by decide) (by decide) (by decide)
theorem pure_6 (e : Exts) (h : FuncId) (d : Option Tmp) : (Cx e).pure h 6 d = true := by simp [Cx,pureF,impF,impC]
@[go_sem] theorem keep_13 (e : Exts) : (Cx e).keep 13 = [0,1,10,5,14,25,4] := rfl
theorem fn_13 (e : Exts) : (Cx e).P.funcs[13]? = some Try.f13 := Try.func13
theorem ext_13 {e : Exts} (he : Quiet e) : (Cx e).ext 13 = none := he _ (by decide) (by decide) (by decide) (by decide)
theorem pure_13 (e : Exts) (h : FuncId) (d : Option Tmp) : (Cx e).pure h 13 d = true := by simp [Cx,pureF,impF,impC]
@[go_sem] theorem keep_14 (e : Exts) : (Cx e).keep 14 = [0,1,2,20,21,30,6,7] := rfl
theorem fn_14 (e : Exts) : (Cx e).P.funcs[14]? = some Try.f14 := Try.func14
theorem ext_14 {e : Exts} (he : Quiet e) : (Cx e).ext 14 = none := he _ (by decide) (by decide) (by decide) (by decide)
@[go_sem] theorem keep_15 (e : Exts) : (Cx e).keep 15 = [0,1,2,26,27,34,9,8,59,69,10,12,84,6,7] := rfl
@[go_sem] theorem alter_15 (e : Exts) (d : Option Tmp) : (Cx e).alter 15 d = false := rfl
theorem fn_15 (e : Exts) : (Cx e).P.funcs[15]? = some Try.f15 := Try.func15
theorem ext_15 {e : Exts} (he : Quiet e) : (Cx e).ext 15 = none := he _ (by decide) (by decide) (by decide) (by decide)
theorem pure_15 (e : Exts) (h : FuncId) (d : Option Tmp) : (Cx e).pure h 15 d = true := by simp [Cx,pureF,impF,impC]
@[go_sem] theorem keep_31 (e : Exts) : (Cx e).keep 31 = [3,0,8,17,4,24,42,2] := rfl
theorem fn_31 (e : Exts) : (Cx e).P.funcs[31]? = some Try.f31 := Try.func31
theorem ext_31 {e : Exts} (he : Quiet e) : (Cx e).ext 31 = none := he _ (by decide) (by decide) (by decide) (by decide)
theorem pure_31 (e : Exts) (h : FuncId) (d : Option Tmp) : (Cx e).pure h 31 d = true := by simp [Cx,pureF,impF,impC]
@[go_sem] theorem keep_34 (e : Exts) : (Cx e).keep 34 = [0,8,11,10,12,4,22,28,27,29,5,41,3,2] := rfl
@[go_sem] theorem alter_34 (e : Exts) (d : Option Tmp) : (Cx e).alter 34 d = false := rfl
theorem fn_34 (e : Exts) : (Cx e).P.funcs[34]? = some Try.f34 := Try.func34
theorem ext_34 {e : Exts} (he : Quiet e) : (Cx e).ext 34 = none := he _ (by decide) (by decide) (by decide) (by decide)
theorem pure_34 (e : Exts) (h : FuncId) (d : Option Tmp) : (Cx e).pure h 34 d = true := by simp [Cx,pureF,impF,impC]
@[go_sem] theorem keep_35 (e : Exts) : (Cx e).keep 35 = [0,1,10,13,12,14,5,24,4] := rfl
theorem fn_35 (e : Exts) : (Cx e).P.funcs[35]? = some Try.f35 := Try.func35
theorem ext_35 {e : Exts} (he : Quiet e) : (Cx e).ext 35 = none := he _ (by decide) (by decide) (by decide) (by decide)
theorem pure_35 (e : Exts) (h : FuncId) (d : Option Tmp) : (Cx e).pure h 35 d = true := by simp [Cx,pureF,impF,impC]
@[go_sem] theorem keep_36 (e : Exts) : (Cx e).keep 36 = [0,4,2] := rfl
@[go_sem] theorem alter_36 (e : Exts) (d : Option Tmp) : (Cx e).alter 36 d = false := rfl
theorem fn_36 (e : Exts) : (Cx e).P.funcs[36]? = some Try.f36 := Try.func36
theorem ext_36 {e : Exts} (he : Quiet e) : (Cx e).ext 36 = none := he _ (by decide) (by decide) (by decide) (by decide)
@[go_sem] theorem keep_37 (e : Exts) : (Cx e).keep 37 = [1,2,5,4,13,23,0,8,31,6,7] := rfl
theorem fn_37 (e : Exts) : (Cx e).P.funcs[37]? = some Try.f37 := Try.func37
theorem ext_37 {e : Exts} (he : Quiet e) : (Cx e).ext 37 = none := he _ (by decide) (by decide) (by decide) (by decide)
@[go_sem] theorem keep_38 (e : Exts) : (Cx e).keep 38 = [0,1,5,6,4] := rfl
theorem fn_38 (e : Exts) : (Cx e).P.funcs[38]? = some Try.f38 := Try.func38
theorem ext_38 {e : Exts} (he : Quiet e) : (Cx e).ext 38 = none := he _ (by decide) (by decide) (by decide) (by decide)
theorem pure_38 (e : Exts) (h : FuncId) (d : Option Tmp) : (Cx e).pure h 38 d = true := by simp [Cx,pureF,impF,impC]
@[go_sem] theorem keep_39 (e : Exts) : (Cx e).keep 39 = [5,0,1,27,6,62,4] := rfl
@[go_sem] theorem alter_39 (e : Exts) (d : Option Tmp) : (Cx e).alter 39 d = false := rfl
theorem fn_39 (e : Exts) : (Cx e).P.funcs[39]? = some Try.f39 := Try.func39
theorem ext_39 {e : Exts} (he : Quiet e) : (Cx e).ext 39 = none := he _ (by decide) (by decide) (by decide) (by decide)
theorem pure_39 (e : Exts) (h : FuncId) (d : Option Tmp) : (Cx e).pure h 39 d = true := by simp [Cx,pureF,impF,impC]
@[go_sem] theorem keep_40 (e : Exts) : (Cx e).keep 40 = [1,3,0,23,6,4,5] := rfl
theorem fn_40 (e : Exts) : (Cx e).P.funcs[40]? = some Try.f40 := Try.func40
theorem ext_40 {e : Exts} (he : Quiet e) : (Cx e).ext 40 = none := he _ (by decide) (by decide) (by decide) (by decide)
theorem pure_40 (e : Exts) (h : FuncId) (d : Option Tmp) : (Cx e).pure h 40 d = true := by simp [Cx,pureF,impF,impC]
@[go_sem] theorem keep_46 (e : Exts) : (Cx e).keep 46 = [0,1,2,6] := rfl
theorem fn_46 (e : Exts) : (Cx e).P.funcs[46]? = some Try.f46 := Try.func46
theorem ext_46 {e : Exts} (he : Quiet e) : (Cx e).ext 46 = none := he _ (by decide) (by decide) (by decide) (by decide)
theorem pure_46 (e : Exts) (h : FuncId) (d : Option Tmp) : (Cx e).pure h 46 d = true := by simp [Cx,pureF,impF,impC]
@[go_sem] theorem keep_52 (e : Exts) : (Cx e).keep 52 = [0,1,9,8,10,7,6,2,22,4] := rfl
theorem fn_52 (e : Exts) : (Cx e).P.funcs[52]? = some Try.f52 := Try.func52
theorem ext_52 {e : Exts} (he : Quiet e) : (Cx e).ext 52 = none := he _ (by decide) (by decide) (by decide) (by decide)
theorem pure_52 (e : Exts) (h : FuncId) (d : Option Tmp) : (Cx e).pure h 52 d = true := by simp [Cx,pureF,impF,impC]
@[go_sem] theorem keep_53 (e : Exts) : (Cx e).keep 53 = [1,0,3,4] := rfl
@[go_sem] theorem alter_53 (e : Exts) (d : Option Tmp) : (Cx e).alter 53 d = false := rfl
theorem fn_53 (e : Exts) : (Cx e).P.funcs[53]? = some Try.f53 := Try.func53
theorem ext_53 {e : Exts} (he : Quiet e) : (Cx e).ext 53 = none := he _ (by decide) (by decide) (by decide) (by decide)
@[go_sem] theorem keep_54 (e : Exts) : (Cx e).keep 54 = [7,0,1,2,25,6] := rfl
theorem fn_54 (e : Exts) : (Cx e).P.funcs[54]? = some Try.f54 := Try.func54
theorem ext_54 {e : Exts} (he : Quiet e) : (Cx e).ext 54 = none := he _ (by decide) (by decide) (by decide) (by decide)
theorem pure_54 (e : Exts) (h : FuncId) (d : Option Tmp) : (Cx e).pure h 54 d = true := by simp [Cx,pureF,impF,impC]
@[go_sem] theorem keep_55 (e : Exts) : (Cx e).keep 55 = [0,1,4] := rfl
theorem fn_55 (e : Exts) : (Cx e).P.funcs[55]? = some Try.f55 := Try.func55
theorem ext_55 {e : Exts} (he : Quiet e) : (Cx e).ext 55 = none := he _ (by decide) (by decide) (by decide) (by decide)
theorem pure_55 (e : Exts) (h : FuncId) (d : Option Tmp) : (Cx e).pure h 55 d = true := by simp [Cx,pureF,impF,impC]
@[go_sem] theorem keep_56 (e : Exts) : (Cx e).keep 56 = [0,1,4] := rfl
theorem fn_56 (e : Exts) : (Cx e).P.funcs[56]? = some Try.f56 := Try.func56
theorem ext_56 {e : Exts} (he : Quiet e) : (Cx e).ext 56 = none := he _ (by decide) (by decide) (by decide) (by decide)
theorem pure_56 (e : Exts) (h : FuncId) (d : Option Tmp) : (Cx e).pure h 56 d = true := by simp [Cx,pureF,impF,impC]
@[go_sem] theorem keep_60 (e : Exts) : (Cx e).keep 60 = [0,11,10,12,9,3,5,20,27,26,28,25,6,8,2] := rfl
theorem fn_60 (e : Exts) : (Cx e).P.funcs[60]? = some Try.f60 := Try.func60
theorem ext_60 {e : Exts} (he : Quiet e) : (Cx e).ext 60 = none := he _ (by decide) (by decide) (by decide) (by decide)
@[go_sem] theorem keep_62 (e : Exts) : (Cx e).keep 62 = [1,6,0,16,4] := rfl
theorem fn_62 (e : Exts) : (Cx e).P.funcs[62]? = some Try.f62 := Try.func62
theorem ext_62 {e : Exts} (he : Quiet e) : (Cx e).ext 62 = none := he _ (by decide) (by decide) (by decide) (by decide)
theorem isagg_3 : isAggT Try.prog 3 = some false := by kernel_rfl
@[go_sem] theorem part_3 (cs : List AV) (k : Nat) : partOf Try.prog 3 cs k = cs[k]? := partOf_one cs k isagg_3 size_3
theorem isagg_9 : isAggT Try.prog 9 = some false := by kernel_rfl
@[go_sem] theorem part_9 (cs : List AV) (k : Nat) : partOf Try.prog 9 cs k = cs[k]? := partOf_one cs k isagg_9 size_9
@[go_sem] theorem store_9 (H : Heap) (b v k : Nat) (x : AV) : storeA Try.prog H 9 (.ptr b v k) x = if x.cells.length = 1 then storeCells H b v k x.cells else none := by unfold storeA;rw [size_9]
theorem und_9 : Try.prog.underlying 9 = some .string := by kernel_rfl
@[go_sem] theorem len_9 (H : Heap) (s : ByteArray) : lenA Try.prog H [9] [.v (.string s)] = some (.v (.int .i64 s.size)) := len_str und_9 H s []
@[go_sem] theorem idx_9 (s : ByteArray) (k : IntKind) (n : Int) : indexA Try.prog 9 (.v (.string s)) (.v (.int k n)) = if 0 ≤ n then (strAt s n.toNat).map fun b => .v (.int .u8 b.toNat) else none := index_str und_9 s k n
theorem isagg_22 : isAggT Try.prog 22 = some false := by kernel_rfl
@[go_sem] theorem part_22 (cs : List AV) (k : Nat) : partOf Try.prog 22 cs k = cs[k]? := partOf_one cs k isagg_22 size_22
theorem und_22 : Try.prog.underlying 22 = some (.slice 9) := by kernel_rfl
@[go_sem] theorem len_22 (H : Heap) (x : AV) : lenA Try.prog H [22] [x] = slLen x := len_sl und_22 H x
@[go_sem] theorem idx_22 (x y : AV) : indexAddrA Try.prog 22 x y = slIdx 1 x y := idx_sl und_22 size_9 x y
@[go_sem] theorem bsl_22 (mt : Bool) (H : Heap) (slot len : Nat) (parts : List (Nat × AV)) : buildSliceA Try.prog mt H slot 22 len parts = if len * 1 ≤ 65536 then (fillA (fun i => some (i * 1,1)) (repeatCells [.v (.string ⟨#[]⟩)] len) parts).bind (bsFin mt 9 1 H slot len) else none := buildSl_eq und_22 size_9 zero_9 (by decide) rfl mt H slot len parts
theorem isagg_60 : isAggT Try.prog 60 = some true := by kernel_rfl
@[go_sem] theorem part_60 (cs : List AV) (k : Nat) : partOf Try.prog 60 cs k = if k + 3 ≤ cs.length then some (.agg ((cs.drop k).take 3)) else none := partOf_agg cs k isagg_60 size_60
@[go_sem] theorem store_60 (H : Heap) (b v k : Nat) (x : AV) : storeA Try.prog H 60 (.ptr b v k) x = if x.cells.length = 3 then storeCells H b v k x.cells else none := by unfold storeA;rw [size_60]
theorem foff_60_0 : fieldOff Try.prog 60 0 = some (0,1) := by kernel_rfl
@[go_sem] theorem fptr_60_0 (b v k : Nat) : fieldAddrA Try.prog 60 (.ptr b v k) 0 = some (.ptr b v (k + 0)) := fieldAddr_ptr foff_60_0 b v k
theorem foff_60_1 : fieldOff Try.prog 60 1 = some (1,1) := by kernel_rfl
@[go_sem] theorem fptr_60_1 (b v k : Nat) : fieldAddrA Try.prog 60 (.ptr b v k) 1 = some (.ptr b v (k + 1)) := fieldAddr_ptr foff_60_1 b v k
theorem foff_60_2 : fieldOff Try.prog 60 2 = some (2,1) := by kernel_rfl
@[go_sem] theorem fptr_60_2 (b v k : Nat) : fieldAddrA Try.prog 60 (.ptr b v k) 2 = some (.ptr b v (k + 2)) := fieldAddr_ptr foff_60_2 b v k
@[go_sem] theorem build_60 (ps : List (Nat × AV)) : buildA Try.prog 60 ps = (fillA (fun i => ([(0,1),(1,1),(2,1)] : List (Nat × Nat))[i]?) [.v (.int .i64 0),.v (.int .i64 0),.v (.slice none 0 0)] ps).map .agg := by kernel_rfl
theorem und_82 : Try.prog.underlying 82 = some (.slice 22) := by kernel_rfl
@[go_sem] theorem len_82 (H : Heap) (x : AV) : lenA Try.prog H [82] [x] = slLen x := len_sl und_82 H x
@[go_sem] theorem idx_82 (x y : AV) : indexAddrA Try.prog 82 x y = slIdx 1 x y := idx_sl und_82 size_22 x y
@[go_sem] theorem bsl_82 (mt : Bool) (H : Heap) (slot len : Nat) (parts : List (Nat × AV)) : buildSliceA Try.prog mt H slot 82 len parts = if len * 1 ≤ 65536 then (fillA (fun i => some (i * 1,1)) (repeatCells [.v (.slice none 0 0)] len) parts).bind (bsFin mt 22 1 H slot len) else none := buildSl_eq und_82 size_22 zero_22 (by decide) rfl mt H slot len parts
theorem foff_100_0 : fieldOff Try.prog 100 0 = some (0,1) := by kernel_rfl
@[go_sem] theorem fptr_100_0 (b v k : Nat) : fieldAddrA Try.prog 100 (.ptr b v k) 0 = some (.ptr b v (k + 0)) := fieldAddr_ptr foff_100_0 b v k
theorem foff_100_1 : fieldOff Try.prog 100 1 = some (1,1) := by kernel_rfl
@[go_sem] theorem fptr_100_1 (b v k : Nat) : fieldAddrA Try.prog 100 (.ptr b v k) 1 = some (.ptr b v (k + 1)) := fieldAddr_ptr foff_100_1 b v k
@[go_sem] theorem build_100 (ps : List (Nat × AV)) : buildA Try.prog 100 ps = (fillA (fun i => ([(0,1),(1,1)] : List (Nat × Nat))[i]?) [.v (.int .i64 0),.v (.int .i64 0)] ps).map .agg := by kernel_rfl
theorem und_108 : Try.prog.underlying 108 = some (.slice 3) := by kernel_rfl
@[go_sem] theorem len_108 (H : Heap) (x : AV) : lenA Try.prog H [108] [x] = slLen x := len_sl und_108 H x
@[go_sem] theorem idx_108 (x y : AV) : indexAddrA Try.prog 108 x y = slIdx 1 x y := idx_sl und_108 size_3 x y
@[go_sem] theorem bsl_108 (mt : Bool) (H : Heap) (slot len : Nat) (parts : List (Nat × AV)) : buildSliceA Try.prog mt H slot 108 len parts = if len * 1 ≤ 65536 then (fillA (fun i => some (i * 1,1)) (repeatCells [.v (.int .i64 0)] len) parts).bind (bsFin mt 3 1 H slot len) else none := buildSl_eq und_108 size_3 zero_3 (by decide) rfl mt H slot len parts
attribute [go_sem] repeatCells splice chunk bsFin ne_eq not_true_eq_false not_false_eq_true List.headD_cons Bool.false_eq_true Nat.le_refl Nat.zero_mul Nat.one_mul Nat.mul_one decide_true decide_false Bool.not_true Bool.not_false List.mem_cons List.not_mem_nil true_or or_true false_or or_false and_true true_and and_self List.getElem?_cons_succ List.getElem?_cons_zero Option.bind_some Option.map_some Option.map_none List.map_cons List.map_nil List.length_cons List.length_nil List.filterMap_cons List.filterMap_nil List.cons_append List.nil_append List.append_nil Nat.zero_add Nat.add_zero List.take_succ_cons List.take_zero List.take_nil List.drop_succ_cons List.drop_zero List.drop_nil List.all_cons List.all_nil Bool.and_true Bool.true_and Bool.false_and Bool.and_false Bool.or_false Bool.false_or Bool.true_or Bool.or_true beq_iff_eq beq_self_eq_true
attribute [go_sem_proc] Nat.reduceEqDiff Nat.reduceLT Nat.reduceLeDiff Nat.reduceAdd Nat.reduceSub Nat.reduceMul reduceCtorEq
end Go.Ev
namespace Go.Ev
def Heap.plus (H : Heap) (E : List (Option AObj)) : Heap := { H with objs := H.objs ++ E }
theorem plus_size (H : Heap) (E : List (Option AObj)) : (H.plus E).size = H.size + E.length := by simp [Heap.plus,Heap.size]
theorem plus_lock (H : Heap) (E : List (Option AObj)) : (H.plus E).lock = H.lock := rfl
theorem plus_nil (H : Heap) : H.plus [] = H := by simp [Heap.plus]
theorem plus_plus (H : Heap) (E F : List (Option AObj)) : (H.plus E).plus F = H.plus (E ++ F) := by simp [Heap.plus]
theorem plus_get {H : Heap} {b : Nat} (E : List (Option AObj)) (h : b < H.size) : (H.plus E).get b = H.get b := by
 unfold Heap.get Heap.plus;simp only;rw [List.getElem?_append_left h]
theorem plus_get_hi {H : Heap} {b : Nat} (E : List (Option AObj)) (h : H.size ≤ b) : (H.plus E).get b = (E[b - H.size]?).join := by
 unfold Heap.get Heap.plus;simp only;rw [List.getElem?_append_right h];rfl
theorem plus_row {H : Heap} {b v : Nat} (E : List (Option AObj)) (h : b < H.size) : (H.plus E).row b v = H.row b v := by
 unfold Heap.row;rw [plus_get E h]
theorem sop_right {α : Type} (x : α) : ∀ (b : Nat) (l E : List α),l.length ≤ b → setOrPush x b (l ++ E) = l ++ setOrPush x (b - l.length) E
 | b,[],E,_ => rfl
 | 0,y :: r,E,h => by simp at h
 | n + 1,y :: r,E,h => by
  simp only [List.cons_append,setOrPush];rw [sop_right x n r E (by simpa using h)];simp
theorem plus_put_hi {H : Heap} {b : Nat} (E : List (Option AObj)) (o : AObj) (h : H.size ≤ b) : (H.plus E).put b o = H.plus (setOrPush (some o) (b - H.size) E) := by
 unfold Heap.put Heap.plus;simp only;rw [sop_right _ _ _ _ h];rfl
theorem put_push {H : Heap} (o : AObj) : H.put H.size o = H.plus [some o] := by
 have h := plus_put_hi (H := H) (b := H.size) [] o (Nat.le_refl _)
 rw [plus_nil] at h
 rw [h,Nat.sub_self];rfl
section
variable {C : Cfg} {me : FuncId}
end
end Go.Ev
namespace Go.Ev
end Go.Ev
namespace Go.Ev
end Go.Ev
namespace Go.Ev
section
variable {C : Cfg}
def wBox (l t : Nat) : AObj := .cells 0 (l + 1) t 1 false [.yld l]
def hq {S : Type} (hp : S → Heap) (E : List (Option AObj)) (l t : Nat) (q : S × ALoop) : Heap := (hp q.1).plus (E ++ [some (wBox l t),some .dfr,some (.loop q.2)])
variable {l t n : Nat} {S : Type} {hp : S → Heap} {stp : S → List AV → Bool × S} {ok : List AV → Prop} {live : S → Prop}
end
end Go.Ev
namespace Go.Ev
section
variable {C : Cfg} {me : FuncId} {S : Type} {hb : S → Heap} {stp : S → List AV → AExit × S} {lv : S → Prop} {ok : List AV → Prop} {n0 : Nat}
end
end Go.Ev
namespace Go.Ev
section
variable {C : Cfg} {me : FuncId} {rd : Option Nat}
abbrev Inv := Nat → AAct → Heap → Prop
def Again (P : Inv) (m : Nat) (a : AAct) (H : Heap) : Prop := ∃ m',m' < m ∧ P m' a H
@[congr] theorem Again_congr {P : Inv} {m : Nat} {a a' : AAct} {H H' : Heap} (ha : a = a') (hH : H = H') : Again P m a H = Again P m a' H' := by rw [ha,hH]
def itK (P : Inv) (m : Nat) (ks : List Tmp) (n : Nat) (K : Post) : Post := fun e a H =>
 match e with
 | .normal => Again P m (a.only ks) (H.trim n ((a.only ks).tmps.map (·.2)) (a.only ks).marks)
 | .exit i => AtK K (.exit i) (a.only ks) (H.trim n ((a.only ks).tmps.map (·.2)) (a.only ks).marks)
 | .ret => AtK K .ret a H
@[go_sem ↓] theorem itK_normal (P : Inv) (m : Nat) (ks : List Tmp) (n : Nat) (K : Post) (s : Nat) (l : List (Tmp × AV)) (ms : List Nat) (H : Heap) : AtK (itK P m ks n K) .normal ⟨s,l,ms⟩ H = bindO (nf (ks.filterMap fun k => (assoc k l).map fun v => (k,v))) fun l' => bindO (nf (H.trim n (l'.map (·.2)) ms)) fun H' => Again P m ⟨s,l',ms⟩ H' := rfl
@[go_sem ↓] theorem itK_exit (P : Inv) (m : Nat) (ks : List Tmp) (n i : Nat) (K : Post) (s : Nat) (l : List (Tmp × AV)) (ms : List Nat) (H : Heap) : AtK (itK P m ks n K) (.exit i) ⟨s,l,ms⟩ H = bindO (nf (ks.filterMap fun k => (assoc k l).map fun v => (k,v))) fun l' => bindO (nf (H.trim n (l'.map (·.2)) ms)) fun H' => AtK K (.exit i) ⟨s,l',ms⟩ H' := rfl
@[go_sem ↓] theorem itK_ret (P : Inv) (m : Nat) (ks : List Tmp) (n : Nat) (K : Post) (a : AAct) (H : Heap) : AtK (itK P m ks n K) .ret a H = AtK K .ret a H := rfl
theorem Lp_rule {ks : List Tmp} {c : Code} {K : Post} (P : Inv) (hstep : ∀ m a H,P m a H → Wp C me rd c a H (itK P m ks H.size K)) : ∀ m a H,P m a H → Lp C me rd ks c a H K := by
 intro m
 induction m using Nat.strongRecOn with
 | _ m ih =>
  intro a H hp
  rw [Lp_step]
  refine Wp_mono (hstep m a H hp) ?_
  intro e a' H' h
  cases e with
  | normal =>
   obtain ⟨m',hm,hp'⟩ := h
   exact ih m' hm _ _ hp'
  | exit i => exact h
  | ret => exact h
theorem Lp_ruleQ {ks : List Tmp} {c : Code} {K : Post} (P : Inv) (hstep : ∀ (Q : Inv) (KK : Post),(∀ m a H,P m a H → Q m a H) → (∀ e a H,AtK K e a H → AtK KK e a H) → ∀ m a H,P m a H → Wp C me rd c a H (itK Q m ks H.size KK)) : ∀ m a H,P m a H → Lp C me rd ks c a H K :=
 Lp_rule P (hstep P K (fun _ _ _ h => h) (fun _ _ _ h => h))
theorem Again.mk' {P : Inv} {m : Nat} {a : AAct} {H : Heap} (m' : Nat) (h : m' < m) (hp : P m' a H) : Again P m a H := ⟨m',h,hp⟩
end
end Go.Ev
namespace Go.Ev
abbrev Fm := List (Nat × AObj)
def Has (m : Fm) (H : Heap) : Prop := ∀ p ∈ m,H.get p.1 = some p.2
def keyIn (b : Nat) (m : Fm) : Prop := ∃ p ∈ m,p.1 = b
def Anch (n0 : Nat) (m : Fm) : Prop := ∀ n,n0 ≤ n → (∃ p ∈ m,n ≤ p.1) → ∃ p ∈ m,p.1 < n ∧ n < p.2.bound
structure Moves (m : Fm) (H : Heap) (m' : Fm) (H' : Heap) : Prop where
 lock : H'.lock = H.lock
 size : H.size ≤ H'.size
 same : ∀ b,b < H.size → ¬ keyIn b m → H'.get b = H.get b
 keys : ∀ p ∈ m',keyIn p.1 m ∨ H.size ≤ p.1
theorem boundsOk_getI {n : Nat} : ∀ {l : List (Option AObj)} {b : Nat} {o : AObj},boundsOk n l = true → l[b]? = some (some o) → o.bound ≤ n
 | [],b,o,_,h => by simp at h
 | none :: r,0,o,_,h => by simp at h
 | none :: r,b + 1,o,hb,h => boundsOk_getI (l := r) (b := b) (by simpa [boundsOk] using hb) (by simpa using h)
 | some x :: r,0,o,hb,h => by
  simp at h;subst h
  simp only [boundsOk,Bool.and_eq_true] at hb
  exact Nat.le_of_ble_eq_true hb.1
 | some x :: r,b + 1,o,hb,h => by
  simp only [boundsOk,Bool.and_eq_true] at hb
  exact boundsOk_getI (l := r) (b := b) hb.2 (by simpa using h)
theorem trim_cases (H : Heap) (n : Nat) (vs : List AV) (ms : List Nat) : H.trim n vs ms = H ∨ (H.trim n vs ms = { H with objs := H.objs.take n } ∧ boundsOk n (H.objs.take n) = true) := by
 unfold Heap.trim
 split
 ·rename_i h
  simp only [Bool.and_eq_true] at h
  exact Or.inr ⟨rfl,h.1.2⟩
 ·exact Or.inl rfl
theorem take_get {H : Heap} {n b : Nat} (h : b < n) : (Heap.mk (H.objs.take n) H.lock).get b = H.get b := by
 unfold Heap.get;simp only;rw [List.getElem?_take,if_pos h]
theorem get_objs {H : Heap} {b : Nat} {o : AObj} (h : H.get b = some o) : H.objs[b]? = some (some o) := by
 unfold Heap.get at h
 cases hb : H.objs[b]? with
 | none => rw [hb] at h;cases h
 | some x => rw [hb] at h;cases x with
  | none => cases h
  | some y => cases h;rfl
theorem Has.trim {m : Fm} {H : Heap} {n0 n : Nat} (h : Has m H) (ha : Anch n0 m) (hn : n0 ≤ n) (vs : List AV) (ms : List Nat) : Has m (H.trim n vs ms) := by
 rcases trim_cases H n vs ms with h1 | ⟨h1,h2⟩
 ·rw [h1];exact h
 ·rw [h1]
  have key : ∀ p ∈ m,p.1 < n := by
   intro p hp
   rcases Nat.lt_or_ge p.1 n with hlt | hge
   ·exact hlt
   ·obtain ⟨q,hq,hq1,hq2⟩ := ha n hn ⟨p,hp,hge⟩
    have := boundsOk_getI h2 (b := q.1) (o := q.2) (by rw [List.getElem?_take,if_pos hq1];exact get_objs (h q hq))
    omega
  intro p hp
  show (Heap.mk (H.objs.take n) H.lock).get p.1 = _
  rw [take_get (key p hp)];exact h p hp
theorem Has.settle {m : Fm} {H : Heap} (h : Has m H) (n : Nat) : Has m (settleH n H) := by
 unfold settleH
 split
 ·rename_i hn
  have key : ∀ p ∈ m,p.1 < n := by
   intro p hp
   rcases Nat.lt_or_ge p.1 n with hlt | hge
   ·exact hlt
   ·have h1 := get_objs (h p hp)
    have h2 : (H.objs.drop n)[p.1 - n]? = some (some p.2) := by rw [List.getElem?_drop,show n + (p.1 - n) = p.1 by omega];exact h1
    have := List.all_eq_true.1 hn _ (List.mem_of_getElem? h2)
    simp at this
  intro p hp
  show (Heap.mk (H.objs.take n) H.lock).get p.1 = _
  rw [take_get (key p hp)];exact h p hp
 ·exact h
theorem Moves.refl (m : Fm) (H : Heap) : Moves m H m H := ⟨rfl,Nat.le_refl _,fun _ _ _ => rfl,fun p hp => Or.inl ⟨p,hp,rfl⟩⟩
theorem Moves.trans {m m' m'' : Fm} {H H' H'' : Heap} (h : Moves m H m' H') (k : Moves m' H' m'' H'') : Moves m H m'' H'' := by
 refine ⟨k.lock.trans h.lock,Nat.le_trans h.size k.size,fun b hb hm => ?_,fun p hp => ?_⟩
 ·have h1 : ¬ keyIn b m' := by
   rintro ⟨p,hp,rfl⟩
   rcases h.keys p hp with h2 | h2
   ·exact hm h2
   ·omega
  rw [k.same b (Nat.lt_of_lt_of_le hb h.size) h1,h.same b hb hm]
 ·rcases k.keys p hp with ⟨q,hq,he⟩ | h2
  ·rcases h.keys q hq with h3 | h3
   ·exact Or.inl (he ▸ h3)
   ·exact Or.inr (he ▸ h3)
  ·exact Or.inr (Nat.le_trans h.size h2)
theorem Moves.trim {m m' : Fm} {H H' : Heap} (h : Moves m H m' H') (vs : List AV) (ms : List Nat) {n : Nat} (hn : n = H.size) : Moves m H m' (H'.trim n vs ms) := by
 subst hn
 rcases trim_cases H' H.size vs ms with h1 | ⟨h1, -⟩
 ·rw [h1];exact h
 ·rw [h1]
  refine ⟨h.lock, ?_,fun b hb hm => ?_,h.keys⟩
  ·show H.size ≤ (H'.objs.take H.size).length
   have := h.size
   rw [List.length_take];unfold Heap.size at *;omega
  ·show (Heap.mk (H'.objs.take H.size) H'.lock).get b = _
   rw [take_get hb];exact h.same b hb hm
theorem Moves.settle {m m' : Fm} {H H' : Heap} (h : Moves m H m' H') {n : Nat} (hn : n = H.size) : Moves m H m' (settleH n H') := by
 subst hn
 unfold settleH
 split
 ·refine ⟨h.lock, ?_,fun b hb hm => ?_,h.keys⟩
  ·show H.size ≤ (H'.objs.take H.size).length
   have := h.size
   rw [List.length_take];unfold Heap.size at *;omega
  ·show (Heap.mk (H'.objs.take H.size) H'.lock).get b = _
   rw [take_get hb];exact h.same b hb hm
 ·exact h
theorem Moves.plus (m : Fm) (H : Heap) (E : List (Option AObj)) : Moves m H m (H.plus E) :=
 ⟨rfl,by rw [plus_size];omega,fun b hb _ => plus_get E hb,fun p hp => Or.inl ⟨p,hp,rfl⟩⟩
theorem Has.plus {m : Fm} {H : Heap} (h : Has m H) (E : List (Option AObj)) : Has m (H.plus E) := fun p hp => by rw [plus_get E (get_ltS (h p hp))];exact h p hp
theorem Moves.put {m m' : Fm} {H H' : Heap} (h : Moves m H m' H') {b : Nat} (o : AObj) (hb : H.size ≤ b) (hb2 : b < H'.size) : Moves m H m' (H'.put b o) := by
 refine ⟨h.lock,by rw [put_sizeI o hb2];exact h.size,fun c hc hm => ?_,h.keys⟩
 rw [put_get_ne o (by omega) (by omega)];exact h.same c hc hm
theorem Has.put {m : Fm} {H : Heap} (h : Has m H) {b : Nat} (o : AObj) (hb : b ≤ H.size) (hm : ¬ keyIn b m) : Has m (H.put b o) := fun p hp => by
 rw [put_get_ne o hb (fun e => hm ⟨p,hp,e⟩)];exact h p hp
end Go.Ev
namespace Go.Ev
section
variable {C : Cfg} {me : FuncId} {rd : Option Nat}
def okFoot (base top w : Nat) (ft : Foot) : Bool := match ft.reads with | some l => l.all fun b => Nat.blt b base || Nat.ble top b || w.testBit (b - base) | none => false
def callFoot : Foot := ⟨some [],some [],[],false,false,0,false,noKept⟩
def idleFoot (C : Cfg) (me : FuncId) (o : Oper) (a : AAct) (slot : Nat) : Foot :=
 match o.op with
 | .call c => match c.callee with | .value _ => callFoot | _ => footA C me o a slot
 | _ => footA C me o a slot
def frOne (o : Option Foot) (f : Foot) : Bool := match o with | some g => !clash g f | none => false
def freeT (feet : List Foot) (u : List Nat) (ft : Foot) : Bool := u.all fun k => frOne (feet[k]?) ft
def ltB (a b : Nat) : Bool := decide (a < b)
def okFootT (base : Nat) (w : List Nat) (ft : Foot) : Bool := match ft.reads with | some l => l.all fun b => ltB b base || w.any fun k => b == base + k | none => false
abbrev Tab := List (List Nat × List Nat × Bool)
noncomputable def callX (C : Cfg) (me : FuncId) (d : Option Tmp) (v : AV) (l : List AV) (H : Heap) : Option (AV × Heap) :=
 match v with
 | .fn (.func f) x y => callA C (lim C) me f d (x ++ l ++ y) H
 | .yld b => (match lim C (.round b l H) with | some (.ret v H') => some (v,H') | _ => none)
 | _ => none
def kind0 (C : Cfg) (me : FuncId) (d : Option Tmp) (v : AV) (l : List AV) : Bool :=
 match v with
 | .fn (.func f) x y => (C.ext f).isNone && Nat.beq (callKind C me f d (x ++ l ++ y)) 0
 | .yld _ => true
 | _ => false
def SameOut (base top : Nat) (G G' : Heap) : Prop := ∀ b,(b < base ∨ top ≤ b) → G'.get b = G.get b
def effV (C : Cfg) (me : FuncId) (base top : Nat) (d : Option Tmp) (v : AV) (l : List AV) (G : Heap) (cont : AV → Heap → Prop) : Prop :=
 kind0 C me d v l = true ∧ ∀ Gh : Heap,Gh.lock = G.lock → Gh.size = G.size → SameOut base top G Gh → ∃ r Y,callX C me d v l Gh = some (r,Y) ∧ G.size ≤ Y.size ∧
  ∀ G' : Heap,G'.lock = G.lock → G'.size = Y.size → SameOut base top Y G' → (∀ b,base ≤ b → b < top → G'.get b = G.get b ∨ G'.get b = Y.get b) → cont r G'
def effO (C : Cfg) (me : FuncId) (base top : Nat) (o : Oper) (a : AAct) (G : Heap) (cont : AV → Heap → Prop) : Prop :=
 match o.op with
 | .call c => (match c.callee with | .value g => bindO (evals a c.args.toList) fun l => bindO (a.eval g) fun v => effV C me base top o.dst v l G cont | _ => False)
 | _ => False
def kind2 (C : Cfg) (me : FuncId) (d : Option Tmp) (v : AV) (l : List AV) : Bool :=
 match v with
 | .fn (.func f) x y => (C.ext f).isNone && Nat.beq (callKind C me f d (x ++ l ++ y)) 2
 | _ => false
def SameVis (base top : Nat) (vl : List Nat) (G G' : Heap) : Prop := ∀ b,(b < base ∨ top ≤ b ∨ (base ≤ b ∧ vl.contains (b - base) = true)) → G'.get b = G.get b
def stillV (C : Cfg) (me : FuncId) (base top : Nat) (vl : List Nat) (d : Option Tmp) (v : AV) (l : List AV) (G : Heap) (cont : AV → Heap → Prop) : Prop :=
 kind2 C me d v l = true ∧ ∃ r,(∀ Gh : Heap,Gh.lock = G.lock → Gh.size = G.size → SameVis base top vl G Gh → ∃ Y,callX C me d v l Gh = some (r,Y)) ∧ cont r G
def stillO (C : Cfg) (me : FuncId) (base top : Nat) (vl : List Nat) (o : Oper) (a : AAct) (G : Heap) (cont : AV → Heap → Prop) : Prop :=
 match o.op with
 | .call c => (match c.callee with | .value g => bindO (evals a c.args.toList) fun l => bindO (a.eval g) fun v => stillV C me base top vl o.dst v l G cont | _ => False)
 | _ => False
def stillFoot : Foot := ⟨none,some [],[],false,false,0,false,noKept⟩
def effFoot : Foot := ⟨none,none,[],false,true,0,false,noKept⟩
def drawP (C : Cfg) (me : FuncId) (arr : Array Oper) (base : Nat) : Tab → List Oper → Nat → List Foot → AAct → Heap → PostS → Prop
 | _,[],_,_,a,G,K => AtS K a G
 | tb,o :: r,i,feet,a,G,K => bindO (wantedA arr a o) fun w => iteB w
   (iteB (plainO o) (WpO C me o.dst o.op a G (base + i) fun v _ => drawP C me arr base tb.tail r (i + 1) (feet ++ [noFoot]) (a.put o.dst v) G K)
    (iteB (locOp o.op) (iteB (okFootT base (tb.headD ([],[],false)).2.1 (footA C me o a (base + i)) && freeT feet (tb.headD ([],[],false)).1 (footA C me o a (base + i)))
      (WpO C me o.dst o.op a G (base + i) fun v G' => drawP C me arr base tb.tail r (i + 1) (feet ++ [footA C me o a (base + i)]) (a.put o.dst v) G' K) False)
     (iteB (tb.headD ([],[],false)).2.2
      (iteB (tb.headD ([],[],false)).1.isEmpty (effO C me base (base + arr.toList.length) o a G fun v G' => drawP C me arr base tb.tail r (i + 1) (feet ++ [effFoot]) (a.put o.dst v) G' K)
       (iteB (freeT feet (tb.headD ([],[],false)).1 stillFoot) (stillO C me base (base + arr.toList.length) (tb.headD ([],[],false)).2.1 o a G fun v G' => drawP C me arr base tb.tail r (i + 1) (feet ++ [stillFoot]) (a.put o.dst v) G' K) False))
      (iteB (freeT feet (tb.headD ([],[],false)).1 (idleFoot C me o a (base + i)))
       (bindO (opI C me { objs := [],lock := 0 } o.dst o.op a) fun v => drawP C me arr base tb.tail r (i + 1) (feet ++ [idleFoot C me o a (base + i)]) (a.put o.dst v) G K) False))))
   (drawP C me arr base tb.tail r (i + 1) (feet ++ [noFoot]) (a.put o.dst undefA) G K)
def plainAt (l : List Oper) (i : Nat) : Bool := match l[i]? with | some o => plainO o | none => false
def rowOk (l : List Oper) (wi : Nat) (i : Nat) (u w : List Nat) : Bool := plainAt l i || ((List.range i).all fun k => wi.testBit k || plainAt l k || u.contains k) && w.all fun k => wi.testBit k
def tabOk (l : List Oper) (ws : List Nat) (tb : Tab) : Bool := (List.range l.length).all fun i => rowOk l (ws.getD i 0) i (tb.getD i ([],[],false)).1 (tb.getD i ([],[],false)).2.1
theorem clash_no (ft : Foot) : clash noFoot ft = false := by
 obtain ⟨rx,wx,fx,px,gx⟩ := ft
 have e1 : ∀ z,meet (some []) z = false := fun _ => rfl
 simp [clash,noFoot,e1]
theorem free_of {l : List Oper} {wi i : Nat} {u w : List Nat} {feet : List Foot} {ft : Foot} (hr : rowOk l wi i u w = true) (hnp : plainAt l i = false) (hp : ∀ k o,k < i → l[k]? = some o → plainO o = true → feet[k]? = some noFoot) (hf : freeT feet u ft = true) : freeOf feet wi ft i = true := by
 unfold rowOk at hr
 rw [hnp,Bool.false_or] at hr
 simp only [Bool.and_eq_true,List.all_eq_true] at hr
 have key : ∀ n,n ≤ i → freeOf feet wi ft n = true := by
  intro n
  induction n with
  | zero => intro _;rfl
  | succ k ih =>
   intro hk
   unfold freeOf
   rw [ih (by omega),Bool.and_true]
   have := hr.1 k (List.mem_range.2 (by omega))
   simp only [Bool.or_eq_true] at this
   rcases this with (h | h) | h
   ·rw [h,Bool.true_or]
   ·unfold plainAt at h
    split at h
    ·rename_i o ho
     rw [hp k o (by omega) ho h]
     simp only [clash_no,Bool.not_false,Bool.or_true]
    ·cases h
   ·have h2 := List.all_eq_true.1 hf k (by simpa using h)
    unfold frOne at h2
    rw [Bool.or_eq_true]
    exact Or.inr h2
 exact key i (Nat.le_refl _)
theorem ok_of {l : List Oper} {wi i base top : Nat} {u w : List Nat} {ft : Foot} (hr : rowOk l wi i u w = true) (hnp : plainAt l i = false) (h : okFootT base w ft = true) : okFoot base top wi ft = true := by
 unfold rowOk at hr
 rw [hnp,Bool.false_or] at hr
 simp only [Bool.and_eq_true,List.all_eq_true] at hr
 unfold okFootT at h
 unfold okFoot
 split at h
 ·rename_i rl hrl
  rw [List.all_eq_true] at h ⊢
  intro b hb
  have := h b hb
  simp only [Bool.or_eq_true] at this ⊢
  rcases this with h1 | h1
  ·left;left;exact Nat.ble_eq_true_of_le (of_decide_eq_true h1)
  ·obtain ⟨k,hk,he⟩ := List.any_eq_true.1 h1
   right
   have : b = base + k := by simpa using he
   rw [this,Nat.add_sub_cancel_left];exact hr.2 k hk
 ·cases h
theorem free_no {feet : List Foot} {w : Nat} : ∀ n,n ≤ feet.length → freeOf feet w noFoot n = true
 | 0,_ => rfl
 | k + 1,hn => by
  unfold freeOf
  rw [free_no k (by omega),Bool.and_true,Bool.or_eq_true]
  right
  cases h : feet[k]? with
  | none => exact absurd (List.getElem?_eq_none_iff.1 h) (by omega)
  | some f =>
   obtain ⟨rx,wx,fx,px,gx⟩ := f
   have e2 : ∀ r : Option (List Nat),meet r (some []) = false := by
    intro r;unfold meet;split <;> simp_all
   simp [clash,noFoot,e2]
theorem vis_of {ft : Foot} {base top w slot : Nat} {l : List Nat} (hr : ft.reads = some l) (h : okFoot base top w ft = true) : (∀ b ∈ l,visB base top w slot ft b = true) ∧ visB base top w slot ft slot = true := by
 unfold okFoot at h
 rw [hr] at h
 simp only [List.all_eq_true] at h
 refine ⟨fun b hb => ?_, ?_⟩
 ·unfold visB
  rw [hr]
  simp only [h b hb,Bool.true_and,Bool.or_eq_true]
  exact Or.inr (List.any_eq_true.2 ⟨b,hb,Nat.beq_refl b⟩)
 ·unfold visB;rw [Nat.beq_refl];rfl
theorem foot_grows {o : Oper} {a : AAct} {slot : Nat} : (footA C me o a slot).grows = false := by
 unfold footA
 split <;> try rfl
 split <;> try rfl
 split <;> try rfl
 split <;> try rfl
 split <;> rfl
theorem opI_any {o : Oper} {a : AAct} {v : AV} (hp : plainO o = false) (hl : locOp o.op = false) (h : opI C me { objs := [],lock := 0 } o.dst o.op a = some v) (slot : Nat) :
  (∀ G : Heap,opA C (lim C) me o a G slot = some (some v,G)) ∧ (footA C me o a slot).idle = true ∧ idleFoot C me o a slot = footA C me o a slot := by
 obtain ⟨dst,op,ty,pos,after,guard⟩ := o
 simp only at hl h hp
 unfold opI at h
 split at h
 ·cases hl
 ·rename_i t x l hh m
  simp only [Option.bind_eq_some_iff] at h
  obtain ⟨u,hu,l',hl',h',hh',m',hm',h⟩ := h
  have hs : ∀ G : Heap,sliceA C.P G t u l' h' m' = some v := by
   intro G
   unfold sliceI at h
   split at h
   ·cases h
   ·rename_i hne
    rw [← h]
    unfold sliceA
    cases C.P.underlying t with
    | none => cases u <;> rfl
    | some d => cases d <;> cases u <;> first | rfl | (exact absurd rfl (hne _ _ _ _ _)) | (rename_i y;cases y <;> first | rfl | (rename_i p n c;cases p <;> first | rfl | (cases n <;> first | rfl | (cases c <;> rfl))))
  refine ⟨fun G => ?_,rfl,rfl⟩
  simp only [opA,hu]
  show (match (some u),lookO a l,lookO a hh,lookO a m with | some v,some l,some h,some m => (sliceA C.P G t v l h m).map fun v => (some v,G) | _,_,_,_ => none) = _
  rw [hl',hh',hm']
  simp only [hs G,Option.map_some]
 ·rename_i c
  obtain ⟨cal,args,ts⟩ := c
  simp only at h
  split at h
  ·obtain ⟨l,hev,h⟩ := Option.bind_eq_some_iff.1 h
   have hs : ∀ G : Heap,lenA C.P G ts.toList l = some v := by
    intro G
    unfold lenI at h
    split at h
    ·cases h
    ·rename_i hne
     rw [← h]
     unfold lenA
     cases ts.toList with
     | nil => rfl
     | cons t r =>
      cases l with
      | nil => rfl
      | cons x s =>
       simp only
       cases C.P.underlying t with
       | none => cases x <;> rfl
       | some d => cases d <;> cases x <;> first | rfl | (exact absurd rfl (hne _ _)) | (rename_i y;cases y <;> first | rfl | (rename_i p;cases p <;> rfl) | (rename_i p n c;cases p <;> first | rfl | (cases n <;> first | rfl | (cases c <;> rfl))))
   refine ⟨fun G => ?_, ?_,rfl⟩
   ·simp only [opA,hev,hs G,Option.map_some]
   ·simp only [footA];rfl
  ·obtain ⟨l,hev,h⟩ := Option.bind_eq_some_iff.1 h
   refine ⟨fun G => ?_,rfl,rfl⟩
   cases l with
   | nil => cases h
   | cons x r =>
    have h : minmaxA false x r = some v := h
    simp only [opA,hev,h,Option.map_some]
  ·rename_i g
   simp only [Option.bind_eq_some_iff] at h
   obtain ⟨l,hev,gv,hg,h⟩ := h
   unfold callV at h
   split at h
   ·rename_i f x y
    unfold callI at h
    split at h
    ·rename_i hex
     cases h
     obtain ⟨h1,h2⟩ := hex.choose_spec
     have hfe : ∀ ty pos after guard,footA C me ⟨dst,.call ⟨.value g,args,ts⟩,ty,pos,after,guard⟩ a slot = callFoot := by
      intro ty pos after guard
      simp only [footA,hg,hev]
      rcases h2 with h2 | h2
      ·rw [if_pos h2];rfl
      ·split
       ·rfl
       ·rw [h2];rfl
     refine ⟨fun G => ?_, ?_, ?_⟩
     ·simp only [opA,hev,hg]
      rw [h1 G];rfl
     ·rw [hfe];rfl
     ·rw [hfe];rfl
    ·cases h
   ·cases h
  ·cases h
 ·rename_i h1 h2 h3
  have : plainO (bareO dst op) = false := hp
  rw [this] at h
  simp at h
theorem drawP_runs {arr : Array Oper} {ops : List Oper} {ws : List Nat} {base n : Nat} {K : PostS} (hnear : ∀ d,C.near me d = false) (hn : arr.toList.length = n) : ∀ (l : List Oper) (tb : Tab) (i : Nat) (feetM feet : List Foot) (a : AAct) (G : Heap),feet.length = i → feetM.length = i → i + l.length ≤ n → base + n ≤ G.size → (∀ (k : Nat) (ft : Foot),frOne (feetM[k]?) ft = true → frOne (feet[k]?) ft = true) → (∀ k,l[k]? = ops[i + k]?) →
  (∀ k,i + k < i + l.length → rowOk ops (ws.getD (i + k) 0) (i + k) (tb.getD k ([],[],false)).1 (tb.getD k ([],[],false)).2.1 = true) → (∀ k o,k < i → ops[k]? = some o → plainO o = true → feet[k]? = some noFoot) → drawP C me arr base tb l i feetM a G K →
  ∃ r,drawA C (lim C) me arr base (base + n) ws l i feet a G = some r ∧ K r.1 r.2
 | [],tb,i,feetM,feet,a,G,_,_,_,_,_,_,_,_,h => ⟨(a,G),rfl,(by unfold drawP at h;exact h)⟩
 | o :: r,tb,i,feetM,feet,a,G,hf,hfM,hi,hs,hle,hops,htb,hpl,h => by
  have hle' : ∀ f f' : Foot,(∀ ft,frOne (some f) ft = true → frOne (some f') ft = true) → ∀ (k : Nat) (ft : Foot),frOne ((feetM ++ [f])[k]?) ft = true → frOne ((feet ++ [f'])[k]?) ft = true := by
   intro f f' hff k ft hk
   rcases Nat.lt_or_ge k i with h1 | h1
   ·rw [List.getElem?_append_left (by omega)] at hk ⊢;exact hle k ft hk
   ·rw [List.getElem?_append_right (by omega)] at hk ⊢
    rw [hfM] at hk;rw [hf]
    cases hki : k - i with
    | zero => rw [hki] at hk;exact hff ft hk
    | succ z => rw [hki] at hk;simp [frOne] at hk
  have hsame : ∀ f : Foot,∀ ft,frOne (some f) ft = true → frOne (some f) ft = true := fun _ _ h => h
  have hfree : ∀ (u : List Nat) (ft : Foot),freeT feetM u ft = true → freeT feet u ft = true := fun u ft h => List.all_eq_true.2 fun k hk => hle k ft (List.all_eq_true.1 h k hk)
  have hrow := htb 0 (by simp)
  have ho0 : ops[i]? = some o := by have := hops 0;simpa using this.symm
  have hops' : ∀ k,r[k]? = ops[i + 1 + k]? := fun k => by have := hops (k + 1);rw [List.getElem?_cons_succ] at this;rw [this,show i + (k + 1) = i + 1 + k by omega]
  have htd : ∀ k,tb.tail.getD k ([],[],false) = tb.getD (k + 1) ([],[],false) := fun k => by cases tb <;> simp
  have htb' : ∀ k,i + 1 + k < i + 1 + r.length → rowOk ops (ws.getD (i + 1 + k) 0) (i + 1 + k) (tb.tail.getD k ([],[],false)).1 (tb.tail.getD k ([],[],false)).2.1 = true := fun k hk => by
   rw [htd,show i + 1 + k = i + (k + 1) by omega];exact htb (k + 1) (by simp;omega)
  have hhd : tb.getD 0 ([],[],false) = tb.headD ([],[],false) := by cases tb <;> rfl
  have hpl' : ∀ (ft : Foot),(plainO o = true → ft = noFoot) → ∀ k o',k < i + 1 → ops[k]? = some o' → plainO o' = true → (feet ++ [ft])[k]? = some noFoot := by
   intro ft hft k o' hk ho' hp
   rcases Nat.lt_or_ge k i with h1 | h1
   ·rw [List.getElem?_append_left (by omega)];exact hpl k o' h1 ho' hp
   ·have : k = i := by omega
    subst this
    rw [ho0] at ho';cases ho'
    rw [List.getElem?_append_right (by omega),hf,Nat.sub_self,hft hp];rfl
  rw [hhd,Nat.add_zero] at hrow
  have hi' : i + (r.length + 1) ≤ n := by simpa using hi
  unfold drawP at h
  rw [bindO_iff] at h
  obtain ⟨w,hw,h⟩ := h
  unfold drawA stepD
  rw [hw]
  cases w
  ·simp only [iteB_false] at h
   simp only
   rw [free_no i (by omega),if_pos rfl]
   exact drawP_runs hnear hn r _ (i + 1) _ _ _ G (by simp [hf]) (by simp [hfM]) (by omega) hs (hle' _ _ (hsame _)) hops' htb' (hpl' noFoot fun _ => rfl) h
  ·simp only [iteB_true] at h
   simp only
   by_cases hp : plainO o = true
   ·rw [hp] at h
    simp only [iteB_true] at h
    rw [if_pos hp]
    unfold WpO at h
    rw [bindO_iff,← opA_same] at h
    obtain ⟨⟨v,G1⟩,hop,h⟩ := h
    rw [hop]
    simp only
    rw [free_no i (by omega),if_pos rfl]
    exact drawP_runs hnear hn r _ (i + 1) _ _ _ G (by simp [hf]) (by simp [hfM]) (by omega) hs (hle' _ _ (hsame _)) hops' htb' (hpl' noFoot fun _ => rfl) h
   ·have hp' : plainO o = false := by simpa using hp
    rw [hp'] at h
    simp only [iteB_false] at h
    rw [if_neg hp]
    have hnp : plainAt ops i = false := by unfold plainAt;rw [ho0];exact hp'
    by_cases hl : locOp o.op = true
    ·rw [hl] at h
     simp only [iteB_true] at h
     generalize hft : footA C me o a (base + i) = ft at h ⊢
     cases hokT : okFootT base (tb.headD ([],[],false)).2.1 ft && freeT feetM (tb.headD ([],[],false)).1 ft
     ·rw [hokT] at h;exact h.elim
     ·rw [hokT] at h
      simp only [iteB_true] at h
      simp only [Bool.and_eq_true] at hokT
      have hok : okFoot base (base + n) (ws.getD i 0) ft = true ∧ freeOf feet (ws.getD i 0) ft i = true := ⟨ok_of hrow hnp hokT.1,free_of hrow hnp hpl (hfree _ _ hokT.2)⟩
      unfold WpO at h
      rw [bindO_iff,← opA_same] at h
      obtain ⟨⟨v,G1⟩,hop,h⟩ := h
      obtain ⟨reads,hr,eff,he1,he2,he3⟩ := opA_loc hl hop
      rw [hft] at hr
      obtain ⟨hv1,hv2⟩ := vis_of (slot := base + i) hr hok.1
      generalize hvis : visB base (base + n) (ws.getD i 0) (base + i) ft = vis at hv1 hv2 ⊢
      have hrl : ∀ b ∈ reads,b < G.size → (G.hide vis).get b = G.get b := fun b hb hbs => by rw [hide_get,if_pos hbs,if_pos (hv1 b hb)]
      have hrl2 : ∀ b ∈ reads,(G.hide vis).get b = G.get b := fun b hb => by
       rcases Nat.lt_or_ge b G.size with h1 | h1
       ·exact hrl b hb h1
       ·rw [hide_get,if_neg (by omega),get_none (by omega)]
      have hrun := he3 (G.hide vis) rfl hrl2
      simp only at hrun
      rw [hrun]
      simp only
      have heff : ∀ b o',eff = some (b,o') → b < G.size ∧ vis b = true := by
       intro b o' he
       rcases he1 b o' he with ⟨h1,h2⟩ | h1
       ·obtain ⟨o2,ho2⟩ := Option.isSome_iff_exists.1 h2
        exact ⟨get_ltS ho2,hv1 b h1⟩
       ·subst h1;exact ⟨by omega,hv2⟩
      obtain ⟨hm1,hm2,hm3⟩ := merge_putO heff
      have hg : ({ ft with grows := false } : Foot) = ft := by rw [← hft];have := foot_grows (C := C) (me := me) (o := o) (a := a) (slot := base + i);cases hq : footA C me o a (base + i);rw [hq] at this;simp only at this;subst this;rfl
      have hcont := drawP_runs (n := n) (ws := ws) (ops := ops) hnear hn r _ (i + 1) _ (feet ++ [ft]) _ G1 (by simp [hf]) (by simp [hfM]) (by omega) (by rw [he2,hm3];exact hs) (hle' _ _ (hsame _)) hops' htb' (hpl' ft fun h => absurd h hp) h
      by_cases hid : ft.idle = true
      ·rw [if_pos hid]
       have hG1 : G1 = G := by
        have hW : ∃ W,(footA C me o a (base + i)).writes = some W ∧ W ++ (footA C me o a (base + i)).fresh = [] := by
         rw [hft]
         unfold Foot.idle at hid
         split at hid
         ·rename_i hw;exact ⟨[],hw,by simpa using hid⟩
         ·cases hid
        obtain ⟨W,hW1,hW2⟩ := hW
        have := opA_keeps hop (by omega) hW1
        rw [hW2] at this
        exact heap_ext this.1 this.2.1 fun b => this.2.2 b (by simp)
       simp only [footI,hnear,Bool.false_eq_true,if_false]
       simp only [hok.2,if_true]
       rw [hG1] at hcont
       exact hcont
      ·rw [if_neg hid,hm2,Nat.ble_eq_true_of_le (Nat.le_refl _)]
       simp only [footN,hnear,Bool.false_eq_true,if_false]
       simp only [if_true,hm1,Nat.beq_refl,Bool.not_true,hg,hok.2]
       rw [he2] at hcont
       exact hcont
    ·have hl' : locOp o.op = false := by simpa using hl
     rw [hl'] at h
     simp only [iteB_false] at h
     cases hflag : (tb.headD ([],[],false)).2.2
     case false =>
      rw [hflag] at h
      simp only [iteB_false] at h
      generalize hft : idleFoot C me o a (base + i) = ft at h
      cases hokT : freeT feetM (tb.headD ([],[],false)).1 ft
      ·rw [hokT] at h;exact h.elim
      ·rw [hokT] at h
       simp only [iteB_true] at h
       have hok : freeOf feet (ws.getD i 0) ft i = true := free_of hrow hnp hpl (hfree _ _ hokT)
       rw [bindO_iff] at h
       obtain ⟨v,hv,h⟩ := h
       obtain ⟨h1,h2,h3⟩ := opI_any hp' hl' hv (base + i)
       rw [hft] at h3
       rw [← h3] at h2 ⊢
       rw [h1]
       simp only
       rw [if_pos h2]
       simp only [footI,hnear,Bool.false_eq_true,if_false]
       simp only [hok,if_true]
       exact drawP_runs hnear hn r _ (i + 1) _ _ _ G (by simp [hf]) (by simp [hfM]) (by omega) hs (hle' _ _ (hsame _)) hops' htb' (hpl' _ fun h => absurd h hp) h
     case true =>
      rw [hflag] at h
      simp only [iteB_true] at h
      cases hem : (tb.headD ([],[],false)).1.isEmpty
      ·rw [hem] at h
       simp only [iteB_false] at h
       cases hokT : freeT feetM (tb.headD ([],[],false)).1 stillFoot
       ·rw [hokT] at h;exact h.elim
       ·rw [hokT] at h
        simp only [iteB_true] at h
        have hok : freeOf feet (ws.getD i 0) stillFoot i = true := free_of hrow hnp hpl (hfree _ _ hokT)
        obtain ⟨dst,op,ty,pos,after,guard⟩ := o
        unfold stillO at h
        simp only at h
        split at h
        ·rename_i c
         split at h
         ·rename_i g hcal
          rw [bindO_iff] at h
          obtain ⟨l,hev,h⟩ := h
          rw [bindO_iff] at h
          obtain ⟨v,hg,h⟩ := h
          obtain ⟨hk,rv,hrun,h⟩ := h
          obtain ⟨cal,args,ts⟩ := c
          simp only at hcal hev
          subst hcal
          cases v <;> simp only [kind2] at hk <;> try (cases hk;done)
          rename_i f x y
          cases f <;> simp only [Bool.and_eq_true] at hk <;> try (cases hk;done)
          rename_i f
          have hft : footA C me ⟨dst,.call ⟨.value g,args,ts⟩,ty,pos,after,guard⟩ a (base + i) = stillFoot := by
           have h1 : (standA C f (x ++ l ++ y)).isSome = false := by
            have := hk.1
            unfold standA
            cases hx : C.ext f <;> rw [hx] at this <;> simp_all
           have h2 := Nat.eq_of_beq_eq_true hk.2
           simp only [footA,hg,hev,h1,h2,Bool.false_eq_true,if_false,stillFoot]
          rw [hft]
          generalize hvis : visB base (base + n) (ws.getD i 0) (base + i) stillFoot = vis
          have hwl : ∀ k,(tb.headD ([],[],false)).2.1.contains k = true → (ws.getD i 0).testBit k = true := by
           have hr2 := hrow
           unfold rowOk at hr2
           rw [hnp,Bool.false_or,Bool.and_eq_true] at hr2
           exact fun k hk => List.all_eq_true.1 hr2.2 k (List.contains_iff_mem.1 hk)
          have hvo : ∀ b,(b < base ∨ base + n ≤ b ∨ (base ≤ b ∧ (tb.headD ([],[],false)).2.1.contains (b - base) = true)) → vis b = true := by
           intro b hb
           rw [← hvis]
           unfold visB stillFoot
           simp only [Bool.and_true,Bool.or_eq_true]
           right
           rcases hb with hb | hb | hb
           ·left;left;exact Nat.ble_eq_true_of_le hb
           ·left;right;exact Nat.ble_eq_true_of_le hb
           ·right;exact hwl _ hb.2
          obtain ⟨Y,hY⟩ := hrun (G.hide vis) rfl (hide_size G vis) (fun b hb => by
           rcases Nat.lt_or_ge b G.size with h1 | h1
           ·rw [hide_get,if_pos h1,if_pos (hvo b (by rw [hn] at hb;exact hb))]
           ·rw [hide_get,if_neg (by omega),get_none (by omega)])
          have hop : opA C (lim C) me ⟨dst,.call ⟨.value g,args,ts⟩,ty,pos,after,guard⟩ a (G.hide vis) (base + i) = some (some rv,Y) := by
           simp only [opA,hev,hg]
           unfold callX at hY
           simp only at hY ⊢
           rw [hY];rfl
          rw [hop]
          simp only
          rw [if_pos (by rfl)]
          simp only [footI,hnear,Bool.false_eq_true,if_false]
          simp only [hok,if_true]
          exact drawP_runs hnear hn r _ (i + 1) _ _ _ G (by simp [hf]) (by simp [hfM]) (by omega) hs (hle' _ _ (hsame _)) hops' htb' (hpl' _ fun h => absurd h hp) h
         ·exact h.elim
        ·exact h.elim
      ·rw [hem] at h
       simp only [iteB_true] at h
       have hu : (tb.headD ([],[],false)).1 = [] := List.isEmpty_iff.1 hem
       rw [hu] at hrow
       obtain ⟨dst,op,ty,pos,after,guard⟩ := o
       unfold effO at h
       simp only at h
       split at h
       ·rename_i c
        split at h
        ·rename_i g hcal
         rw [bindO_iff] at h
         obtain ⟨l,hev,h⟩ := h
         rw [bindO_iff] at h
         obtain ⟨v,hg,h⟩ := h
         obtain ⟨hk,h⟩ := h
         obtain ⟨cal,args,ts⟩ := c
         simp only at hcal hev
         subst hcal
         have hft : footA C me ⟨dst,.call ⟨.value g,args,ts⟩,ty,pos,after,guard⟩ a (base + i) = ⟨none,none,[],false,false,0,false,noKept⟩ := by
          simp only [footA,hg,hev]
          cases v <;> simp only [kind0] at hk <;> try (cases hk;done)
          ·rename_i f x y
           cases f <;> simp only [Bool.and_eq_true] at hk <;> try (cases hk;done)
           rename_i f
           have h1 : (standA C f (x ++ l ++ y)).isSome = false := by
            have := hk.1
            unfold standA
            cases hx : C.ext f <;> rw [hx] at this <;> simp_all
           have h2 := Nat.eq_of_beq_eq_true hk.2
           simp only [h1,h2,Bool.false_eq_true,if_false]
          ·rfl
         rw [hft]
         generalize hvis : visB base (base + n) (ws.getD i 0) (base + i) ⟨none,none,[],false,false,0,false,noKept⟩ = vis
         have hvo : ∀ b,(b < base ∨ base + n ≤ b) → vis b = true := by
          intro b hb
          rw [← hvis]
          unfold visB
          simp only [Bool.and_true,Bool.or_eq_true]
          right
          rcases hb with hb | hb
          ·left;left;exact Nat.ble_eq_true_of_le hb
          ·left;right;exact Nat.ble_eq_true_of_le hb
         obtain ⟨rv,Y,hY,hYs,hcont⟩ := h (G.hide vis) rfl (hide_size G vis) (fun b hb => by
          rcases Nat.lt_or_ge b G.size with h1 | h1
          ·rw [hide_get,if_pos h1,if_pos (hvo b (by rw [hn] at hb;exact hb))]
          ·rw [hide_get,if_neg (by omega),get_none (by omega)])
         have hop : opA C (lim C) me ⟨dst,.call ⟨.value g,args,ts⟩,ty,pos,after,guard⟩ a (G.hide vis) (base + i) = some (some rv,Y) := by
          simp only [opA,hev,hg]
          unfold callX at hY
          cases v with
          | fn f x y =>
           cases f with
           | func f =>
            simp only at hY ⊢
            rw [hY];rfl
           | _ => simp at hY
          | yld b =>
           simp only at hY ⊢
           split at hY
           ·rename_i hr
            simp only [Option.some.injEq,Prod.mk.injEq] at hY
            obtain ⟨rfl,rfl⟩ := hY
            rw [hr]
           ·cases hY
          | _ => simp at hY
         rw [hop]
         simp only
         rw [if_neg (by simp [Foot.idle]),Nat.ble_eq_true_of_le hYs,if_pos rfl]
         simp only [footN,hnear,Bool.false_eq_true,if_false]
         have hok : ∀ gr : Bool,freeOf feet (ws.getD i 0) ⟨none,none,[],false,gr,0,false,noKept⟩ i = true := fun gr => free_of hrow hnp hpl rfl
         rw [hok,if_pos rfl]
         have hG' := hcont (G.merge vis Y) rfl (merge_size vis hYs) (fun b hb => by
          rw [merge_get _ hYs]
          rcases Nat.lt_or_ge b G.size with h1 | h1
          ·rw [if_pos h1,if_pos (hvo b (by rw [hn] at hb;exact hb))]
          ·rw [if_neg (by omega)]) (fun b h1 h2 => by
          rw [merge_get _ hYs]
          split
          ·split
           ·exact Or.inr rfl
           ·exact Or.inl rfl
          ·exact Or.inr rfl)
         refine drawP_runs hnear hn r _ (i + 1) _ _ _ _ (by simp [hf]) (by simp [hfM]) (by omega) (by rw [merge_size vis hYs];omega) (hle' effFoot _ ?_) hops' htb' (hpl' _ fun h => absurd h hp) hG'
         intro ft hft'
         obtain ⟨r',w',f',p',g'⟩ := ft
         unfold frOne effFoot clash at hft'
         unfold frOne clash
         simp only [Bool.not_eq_true',Bool.or_eq_false_iff,Bool.true_and] at hft' ⊢
         obtain ⟨⟨⟨⟨⟨⟨q1,q2⟩,q3⟩,q4⟩,q5⟩,q6⟩,q7⟩ := hft'
         exact ⟨⟨⟨⟨⟨⟨q1,q2⟩,q3⟩,q4⟩,q5⟩,by rw [q6,Bool.and_false]⟩,q7⟩
        ·exact h.elim
       ·exact h.elim
theorem wp_drawD {id : Nat} {ops : Array Oper} {a : AAct} {H : Heap} {K : Post} (tb : Tab) (hok : drawOk ops = true) (htb : tabOk ops.toList (waitsAll ops.toList) tb = true)
  (h : drawP C me ops H.size tb ops.toList 0 [] a ⟨H.objs ++ List.replicate ops.toList.length none,H.lock⟩ (setK C me H.size K)) (hnear : ∀ d,C.near me d = false := by intro d;rfl) : Wp C me rd (.region id ops true) a H K := by
 obtain ⟨r,h1,h2⟩ := drawP_runs (ops := ops.toList) (ws := waitsAll ops.toList) (n := ops.toList.length) hnear rfl ops.toList tb 0 [] [] a _ rfl rfl (by omega) (by unfold Heap.size;simp) (fun _ _ h => h) (fun k => by rw [Nat.zero_add]) (fun k hk => by rw [Nat.zero_add] at hk ⊢;exact List.all_eq_true.1 htb k (List.mem_range.2 (by omega))) (fun k o hk => by omega) h
 have hreg : regionA C (lim C) me ops true a H = some r := by
  unfold regionA
  unfold drawOk at hok
  simp only [if_true]
  rw [if_pos hok];exact h1
 unfold Wp
 simp only [codeA,hreg,Option.map_some,bindO_some]
 exact h2
@[congr] theorem drawP_congr {arr : Array Oper} {base : Nat} {tb : Tab} {l : List Oper} {i i' : Nat} {feet feet' : List Foot} {a a' : AAct} {G G' : Heap} {K : PostS} (hi : i = i') (hf : feet = feet') (ha : a = a') (hG : G = G') : drawP C me arr base tb l i feet a G K = drawP C me arr base tb l i' feet' a' G' K := by rw [hi,hf,ha,hG]
section eqs
variable {arr : Array Oper} {base : Nat} {tb : Tab}
@[go_sem ↓] theorem drawP_nil (i : Nat) (feet : List Foot) (a : AAct) (G : Heap) (K : PostS) : drawP C me arr base tb [] i feet a G K = AtS K a G := by unfold drawP;rfl
def plainOp (op : Op) : Bool :=
 match op with
 | .move _ | .assign _ | .pick .. | .build .. | .nilCheck _ | .binOp .. | .unOp .. | .convert .. | .makeInterface .. | .makeFunc .. | .fieldAddr .. | .field .. | .indexAddr .. | .index .. | .extract .. => true
 | _ => false
theorem plainOp_eq (o : Oper) : plainO o = plainOp o.op := rfl
def footD (C : Cfg) (me : FuncId) (d : Option Tmp) (op : Op) (a : AAct) (slot : Nat) : Foot := footA C me (bareO d op) a slot
def contP (C : Cfg) (me : FuncId) (arr : Array Oper) (base : Nat) (tb : Tab) (r : List Oper) (i : Nat) (feet : List Foot) (d : Option Tmp) (a : AAct) (K : PostS) : PostO := fun v G => drawP C me arr base tb r i feet (a.put d v) G K
def contQ (C : Cfg) (me : FuncId) (arr : Array Oper) (base : Nat) (tb : Tab) (r : List Oper) (i : Nat) (feet : List Foot) (d : Option Tmp) (a : AAct) (G : Heap) (K : PostS) : PostO := fun v _ => drawP C me arr base tb r i feet (a.put d v) G K
@[go_sem ↓] theorem contP_some (r : List Oper) (i : Nat) (feet : List Foot) (d : Tmp) (s : Nat) (l : List (Tmp × AV)) (m : List Nat) (K : PostS) (v : AV) (G : Heap) : AtO (contP C me arr base tb r i feet (some d) ⟨s,l,m⟩ K) v G = drawP C me arr base tb r i feet ⟨s,putT s d v l,m⟩ G K := by
 unfold AtO contP;simp only [AAct.put,putT];split <;> rfl
@[go_sem ↓] theorem contQ_some (r : List Oper) (i : Nat) (feet : List Foot) (d : Tmp) (s : Nat) (l : List (Tmp × AV)) (m : List Nat) (G : Heap) (K : PostS) (v : AV) (G' : Heap) : AtO (contQ C me arr base tb r i feet (some d) ⟨s,l,m⟩ G K) v G' = drawP C me arr base tb r i feet ⟨s,putT s d v l,m⟩ G K := by
 unfold AtO contQ;simp only [AAct.put,putT];split <;> rfl
def stepDP (C : Cfg) (me : FuncId) (arr : Array Oper) (base : Nat) (tb : Tab) (d : Option Tmp) (op : Op) (r : List Oper) (i : Nat) (feet : List Foot) (a : AAct) (G : Heap) (K : PostS) : Prop :=
 iteB (plainOp op) (WpO C me d op a G 0 (contQ C me arr base tb.tail r (i + 1) (feet ++ [noFoot]) d a G K))
  (iteB (locOp op) (iteB (okFootT base (tb.headD ([],[],false)).2.1 (footD C me d op a (base + i)) && freeT feet (tb.headD ([],[],false)).1 (footD C me d op a (base + i)))
    (WpO C me d op a G (base + i) (contP C me arr base tb.tail r (i + 1) (feet ++ [footD C me d op a (base + i)]) d a K)) False)
   (iteB (tb.headD ([],[],false)).2.2
    (iteB (tb.headD ([],[],false)).1.isEmpty (effO C me base (base + arr.toList.length) (bareO d op) a G (contP C me arr base tb.tail r (i + 1) (feet ++ [effFoot]) d a K)) (iteB (freeT feet (tb.headD ([],[],false)).1 stillFoot) (stillO C me base (base + arr.toList.length) (tb.headD ([],[],false)).2.1 (bareO d op) a G (contP C me arr base tb.tail r (i + 1) (feet ++ [stillFoot]) d a K)) False))
    (iteB (freeT feet (tb.headD ([],[],false)).1 (idleFoot C me (bareO d op) a (base + i)))
     (WpJ C me d op a { objs := [],lock := 0 } (contQ C me arr base tb.tail r (i + 1) (feet ++ [idleFoot C me (bareO d op) a (base + i)]) d a G K)) False)))
@[congr] theorem stepDP_congr {d : Option Tmp} {op : Op} {r : List Oper} {i i' : Nat} {feet feet' : List Foot} {a a' : AAct} {G G' : Heap} {K : PostS} (hi : i = i') (hf : feet = feet') (ha : a = a') (hG : G = G') : stepDP C me arr base tb d op r i feet a G K = stepDP C me arr base tb d op r i' feet' a' G' K := by rw [hi,hf,ha,hG]
theorem drawP_step (o : Oper) (r : List Oper) (i : Nat) (feet : List Foot) (a : AAct) (G : Heap) (K : PostS) :
  drawP C me arr base tb (o :: r) i feet a G K = bindO (wantedA arr a o) fun w => iteB w (stepDP C me arr base tb o.dst o.op r i feet a G K) (drawP C me arr base tb.tail r (i + 1) (feet ++ [noFoot]) (a.put o.dst undefA) G K) := by
 have e1 : ∀ s,footA C me o a s = footD C me o.dst o.op a s := fun s => rfl
 have e2 : ∀ s,idleFoot C me o a s = idleFoot C me (bareO o.dst o.op) a s := fun s => rfl
 conv => lhs;unfold drawP
 unfold stepDP
 rw [plainOp_eq,e1,e2]
 congr 1
 funext w
 cases w
 ·rfl
 ·simp only [iteB_true]
  cases hp : plainOp o.op
  ·simp only [iteB_false]
   rfl
  ·simp only [iteB_true]
   unfold WpO
   have := plain_slot (C := C) (me := me) (o := bareO o.dst o.op) hp a G (base + i) 0
   show bindO (opA C (lim C) me (bareO o.dst o.op) a G (base + i)) _ = bindO (opA C (lim C) me (bareO o.dst o.op) a G 0) _
   rw [this];rfl
@[go_sem ↓] theorem drawP_op (d : Option Tmp) (op : Op) (ty : TypeId) (p : String) (af : Array Edge) (r : List Oper) (i : Nat) (feet : List Foot) (a : AAct) (G : Heap) (K : PostS) :
  drawP C me arr base tb (⟨d,op,ty,p,af,none⟩ :: r) i feet a G K = stepDP C me arr base tb d op r i feet a G K := by
 rw [drawP_step];rfl
@[go_sem ↓] theorem drawP_guard (d : Tmp) (op : Op) (ty : TypeId) (p : String) (af : Array Edge) (j : Nat) (w : Bool) (r : List Oper) (i : Nat) (feet : List Foot) (s : Nat) (l : List (Tmp × AV)) (m : List Nat) (G : Heap) (K : PostS) :
  drawP C me arr base tb (⟨some d,op,ty,p,af,some (j,w)⟩ :: r) i feet ⟨s,l,m⟩ G K = bindO (yieldAt ((arr.toList[j]?).bind (·.dst)) ⟨s,l,m⟩) fun y => iteB (y == some w) (stepDP C me arr base tb (some d) op r i feet ⟨s,l,m⟩ G K) (drawP C me arr base tb.tail r (i + 1) (feet ++ [noFoot]) ⟨s,putT s d undefA l,m⟩ G K) := by
 rw [drawP_step]
 have e : (AAct.mk s l m).put (some d) undefA = ⟨s,putT s d undefA l,m⟩ := by simp only [AAct.put,putT];split <;> rfl
 rw [e]
 simp only [wantedA,yieldedA,yieldAt,Array.getElem?_toList]
 cases (arr[j]?).bind (·.dst) with
 | none => rfl
 | some d =>
  simp only
  rcases assoc d l with _ | v
  ·rfl
  ·rcases v with v | _ | l | _ | _ | _ | _ | _ | _ | _ | _ <;> try rfl
   ·cases v <;> rfl
   ·cases l <;> rfl
@[go_sem ↓] theorem stepDP_move (d : Option Tmp) (x) (r : List Oper) (i : Nat) (feet : List Foot) (a : AAct) (G : Heap) (K : PostS) : stepDP C me arr base tb d (.move x) r i feet a G K = WpO C me d (.move x) a G 0 (contQ C me arr base tb.tail r (i + 1) (feet ++ [noFoot]) d a G K) := rfl
@[go_sem ↓] theorem stepDP_assign (d : Option Tmp) (x) (r : List Oper) (i : Nat) (feet : List Foot) (a : AAct) (G : Heap) (K : PostS) : stepDP C me arr base tb d (.assign x) r i feet a G K = WpO C me d (.assign x) a G 0 (contQ C me arr base tb.tail r (i + 1) (feet ++ [noFoot]) d a G K) := rfl
@[go_sem ↓] theorem stepDP_pick (d : Option Tmp) (x y z) (r : List Oper) (i : Nat) (feet : List Foot) (a : AAct) (G : Heap) (K : PostS) : stepDP C me arr base tb d (.pick x y z) r i feet a G K = WpO C me d (.pick x y z) a G 0 (contQ C me arr base tb.tail r (i + 1) (feet ++ [noFoot]) d a G K) := rfl
@[go_sem ↓] theorem stepDP_binOp (d : Option Tmp) (o t x y z) (r : List Oper) (i : Nat) (feet : List Foot) (a : AAct) (G : Heap) (K : PostS) : stepDP C me arr base tb d (.binOp o t x y z) r i feet a G K = WpO C me d (.binOp o t x y z) a G 0 (contQ C me arr base tb.tail r (i + 1) (feet ++ [noFoot]) d a G K) := rfl
@[go_sem ↓] theorem stepDP_fieldAddr (d : Option Tmp) (t x j) (r : List Oper) (i : Nat) (feet : List Foot) (a : AAct) (G : Heap) (K : PostS) : stepDP C me arr base tb d (.fieldAddr t x j) r i feet a G K = WpO C me d (.fieldAddr t x j) a G 0 (contQ C me arr base tb.tail r (i + 1) (feet ++ [noFoot]) d a G K) := rfl
@[go_sem ↓] theorem stepDP_indexAddr (d : Option Tmp) (t x y) (r : List Oper) (i : Nat) (feet : List Foot) (a : AAct) (G : Heap) (K : PostS) : stepDP C me arr base tb d (.indexAddr t x y) r i feet a G K = WpO C me d (.indexAddr t x y) a G 0 (contQ C me arr base tb.tail r (i + 1) (feet ++ [noFoot]) d a G K) := rfl
@[go_sem ↓] theorem stepDP_load (d : Option Tmp) (t x) (r : List Oper) (i : Nat) (feet : List Foot) (a : AAct) (G : Heap) (K : PostS) : stepDP C me arr base tb d (.load t x) r i feet a G K = bindO (nf (footD C me d (.load t x) a (base + i))) fun ft => iteB (okFootT base (tb.headD ([],[],false)).2.1 ft && freeT feet (tb.headD ([],[],false)).1 ft) (WpO C me d (.load t x) a G (base + i) (contP C me arr base tb.tail r (i + 1) (feet ++ [ft]) d a K)) False := rfl
@[go_sem ↓] theorem stepDP_buildSlice (d : Option Tmp) (t n x) (r : List Oper) (i : Nat) (feet : List Foot) (a : AAct) (G : Heap) (K : PostS) : stepDP C me arr base tb d (.buildSlice t n x) r i feet a G K = bindO (nf (footD C me d (.buildSlice t n x) a (base + i))) fun ft => iteB (okFootT base (tb.headD ([],[],false)).2.1 ft && freeT feet (tb.headD ([],[],false)).1 ft) (WpO C me d (.buildSlice t n x) a G (base + i) (contP C me arr base tb.tail r (i + 1) (feet ++ [ft]) d a K)) False := rfl
@[go_sem ↓] theorem stepDP_slice (d : Option Tmp) (t x l h m) (r : List Oper) (i : Nat) (feet : List Foot) (a : AAct) (G : Heap) (K : PostS) : stepDP C me arr base tb d (.slice t x l h m) r i feet a G K = iteB (tb.headD ([],[],false)).2.2 (iteB (tb.headD ([],[],false)).1.isEmpty (effO C me base (base + arr.toList.length) (bareO d (.slice t x l h m)) a G (contP C me arr base tb.tail r (i + 1) (feet ++ [effFoot]) d a K)) (iteB (freeT feet (tb.headD ([],[],false)).1 stillFoot) (stillO C me base (base + arr.toList.length) (tb.headD ([],[],false)).2.1 (bareO d (.slice t x l h m)) a G (contP C me arr base tb.tail r (i + 1) (feet ++ [stillFoot]) d a K)) False)) (bindO (nf (idleFoot C me (bareO d (.slice t x l h m)) a (base + i))) fun ft => iteB (freeT feet (tb.headD ([],[],false)).1 ft) (WpJ C me d (.slice t x l h m) a { objs := [],lock := 0 } (contQ C me arr base tb.tail r (i + 1) (feet ++ [ft]) d a G K)) False) := rfl
@[go_sem ↓] theorem stepDP_len (d : Option Tmp) (args ts) (r : List Oper) (i : Nat) (feet : List Foot) (a : AAct) (G : Heap) (K : PostS) : stepDP C me arr base tb d (.call ⟨.builtin .len,args,ts⟩) r i feet a G K = iteB (tb.headD ([],[],false)).2.2 (iteB (tb.headD ([],[],false)).1.isEmpty (effO C me base (base + arr.toList.length) (bareO d (.call ⟨.builtin .len,args,ts⟩)) a G (contP C me arr base tb.tail r (i + 1) (feet ++ [effFoot]) d a K)) (iteB (freeT feet (tb.headD ([],[],false)).1 stillFoot) (stillO C me base (base + arr.toList.length) (tb.headD ([],[],false)).2.1 (bareO d (.call ⟨.builtin .len,args,ts⟩)) a G (contP C me arr base tb.tail r (i + 1) (feet ++ [stillFoot]) d a K)) False)) (bindO (nf (idleFoot C me (bareO d (.call ⟨.builtin .len,args,ts⟩)) a (base + i))) fun ft => iteB (freeT feet (tb.headD ([],[],false)).1 ft) (WpJ C me d (.call ⟨.builtin .len,args,ts⟩) a { objs := [],lock := 0 } (contQ C me arr base tb.tail r (i + 1) (feet ++ [ft]) d a G K)) False) := rfl
@[go_sem ↓] theorem stepDP_callv (d : Option Tmp) (g args ts) (r : List Oper) (i : Nat) (feet : List Foot) (a : AAct) (G : Heap) (K : PostS) : stepDP C me arr base tb d (.call ⟨.value g,args,ts⟩) r i feet a G K = iteB (tb.headD ([],[],false)).2.2 (iteB (tb.headD ([],[],false)).1.isEmpty (effO C me base (base + arr.toList.length) (bareO d (.call ⟨.value g,args,ts⟩)) a G (contP C me arr base tb.tail r (i + 1) (feet ++ [effFoot]) d a K)) (iteB (freeT feet (tb.headD ([],[],false)).1 stillFoot) (stillO C me base (base + arr.toList.length) (tb.headD ([],[],false)).2.1 (bareO d (.call ⟨.value g,args,ts⟩)) a G (contP C me arr base tb.tail r (i + 1) (feet ++ [stillFoot]) d a K)) False)) (bindO (nf (idleFoot C me (bareO d (.call ⟨.value g,args,ts⟩)) a (base + i))) fun ft => iteB (freeT feet (tb.headD ([],[],false)).1 ft) (WpJ C me d (.call ⟨.value g,args,ts⟩) a { objs := [],lock := 0 } (contQ C me arr base tb.tail r (i + 1) (feet ++ [ft]) d a G K)) False) := rfl
def objsE (o : Option AV) : List Nat := match o with | some v => objsOf v | none => []
@[go_sem] theorem objsE_some (v : AV) : objsE (some v) = objsOf v := rfl
@[go_sem] theorem objs_ptr (b v k : Nat) : objsOf (.ptr b v k) = [b] := rfl
@[go_sem] theorem objs_ro (x : AV) (k : Nat) : objsOf (.ro x k) = [] := rfl
def objsL (a : AAct) : List Operand → List Nat
 | [] => []
 | x :: r => objsE (a.eval x) ++ objsL a r
theorem objsL_eq (a : AAct) : ∀ l : List Operand,l.flatMap (objsO a) = objsL a l
 | [] => rfl
 | x :: r => by rw [List.flatMap_cons,objsL_eq a r];rfl
@[go_sem] theorem objsL_nil (a : AAct) : objsL a [] = [] := rfl
@[go_sem] theorem objsL_cons (a : AAct) (x : Operand) (r : List Operand) : objsL a (x :: r) = objsE (a.eval x) ++ objsL a r := rfl
@[go_sem] theorem footD_load (d : Option Tmp) (t x) (a : AAct) (s : Nat) : footD C me d (.load t x) a s = ⟨some (objsE (a.eval x)),some [],[],false,false,0,false,noKept⟩ := rfl
@[go_sem] theorem footD_build (d : Option Tmp) (t n x) (a : AAct) (s : Nat) : footD C me d (.buildSlice t n x) a s = ⟨some [],some [],[s],false,false,0,false,noKept⟩ := rfl
@[go_sem] theorem idleFoot_slice (d : Option Tmp) (t x l h m) (a : AAct) (s : Nat) : idleFoot C me (bareO d (.slice t x l h m)) a s = ⟨some (objsE (a.eval x)),some [],[],false,false,0,false,noKept⟩ := rfl
@[go_sem] theorem idleFoot_len (d : Option Tmp) (args ts) (a : AAct) (s : Nat) : idleFoot C me (bareO d (.call ⟨.builtin .len,args,ts⟩)) a s = ⟨some (objsL a args.toList),some [],[],false,false,0,false,noKept⟩ := by
 unfold idleFoot footA bareO;simp only
 rw [objsL_eq]
@[go_sem] theorem idleFoot_call (d : Option Tmp) (g args ts) (a : AAct) (s : Nat) : idleFoot C me (bareO d (.call ⟨.value g,args,ts⟩)) a s = ⟨some [],some [],[],false,false,0,false,noKept⟩ := rfl
@[go_sem] theorem okFootT_mk (b : Nat) (w l : List Nat) (x : Option (List Nat)) (f : List Nat) (p g : Bool) (n : Nat) (q : Bool) : okFootT b w ⟨some l,x,f,p,g,n,q,noKept⟩ = l.all fun c => ltB c b || w.any fun k => c == b + k := rfl
@[go_sem] theorem freeT_nil (feet : List Foot) (ft : Foot) : freeT feet [] ft = true := rfl
@[go_sem] theorem freeT_cons (feet : List Foot) (k : Nat) (u : List Nat) (ft : Foot) : freeT feet (k :: u) ft = (frOne (feet[k]?) ft && freeT feet u ft) := rfl
def meetL (l : List Nat) (m : List Nat) : Bool := l.any fun x => m.any fun y => x == y
@[go_sem] theorem meetL_nil (m : List Nat) : meetL [] m = false := rfl
@[go_sem] theorem meetL_nilr (l : List Nat) : meetL l [] = false := by unfold meetL;induction l <;> simp_all
theorem meet_L : ∀ l m : List Nat,meet (some l) (some m) = meetL l m
 | [],_ => rfl
 | x :: l,[] => by rw [meetL_nilr];rfl
 | x :: l,y :: m => by
  show ((x :: l).any (y :: m).contains) = _
  unfold meetL
  congr 1
  funext z
  exact List.contains_eq_any_beq
theorem keptL (r w : Option (List Nat)) (g : List Nat) (p gr q : Bool) (n : Nat) (l m : List Nat) : (meetL l m && !(keptAll ⟨r,w,g,p,gr,n,q,noKept⟩ (some m))) = meetL l m := by
 cases m with
 | nil => rw [meetL_nilr];rfl
 | cons x m => simp [keptAll,noKept]
theorem keptL' (r w : Option (List Nat)) (g : List Nat) (p gr q : Bool) (n : Nat) (l m : List Nat) : (meetL m l && !(keptAll ⟨r,w,g,p,gr,n,q,noKept⟩ (some m))) = meetL m l := by
 cases m with
 | nil => rfl
 | cons x m => simp [keptAll,noKept]
@[go_sem] theorem frOne_mk (r w f : List Nat) (p : Bool) (r' w' f' : List Nat) (p' : Bool) (n n' : Nat) (q q' : Bool) : frOne (some ⟨some r,some w,f,p,false,n,q,noKept⟩) ⟨some r',some w',f',p',false,n',q',noKept⟩ = !(meetL w r' || meetL w w' || meetL r w' || meetL f r' || meetL f w') := by
 unfold frOne clash
 simp only [meet_L,Bool.false_and,Bool.or_false]
 rw [keptL,keptL']
@[go_sem] theorem ltB_zero (n : Nat) : ltB 0 (n + 1) = true := by simp [ltB]
@[go_sem] theorem ltB_succ (a n : Nat) : ltB (a + 1) (n + 1) = ltB a n := by simp [ltB]
@[go_sem] theorem tail_tab (x : List Nat × List Nat × Bool) (tb : Tab) : (x :: tb).tail = tb := rfl
@[go_sem ↓] theorem effO_call (top : Nat) (d : Option Tmp) (g args ts) (a : AAct) (G : Heap) (cont : AV → Heap → Prop) : effO C me base top (bareO d (.call ⟨.value g,args,ts⟩)) a G cont = bindO (evals a args.toList) fun l => bindO (a.eval g) fun v => effV C me base top d v l G cont := rfl
@[congr] theorem stillV_congr {top : Nat} {vl : List Nat} {d : Option Tmp} {v v' : AV} {l l' : List AV} {G G' : Heap} {cont : AV → Heap → Prop} (hv : v = v') (hl : l = l') (hG : G = G') : stillV C me base top vl d v l G cont = stillV C me base top vl d v' l' G' cont := by rw [hv,hl,hG]
@[congr] theorem effV_congr {top : Nat} {d : Option Tmp} {v v' : AV} {l l' : List AV} {G G' : Heap} {cont : AV → Heap → Prop} (hv : v = v') (hl : l = l') (hG : G = G') : effV C me base top d v l G cont = effV C me base top d v' l' G' cont := by rw [hv,hl,hG]
end eqs
end
end Go.Ev
namespace Go.Ev
section
variable {P : Program}
def appTo (e sz by' : Nat) (H : Heap) (slot n : Nat) (new : List AV) (s : AV) : Option (AV × Heap) :=
 match s with
 | .v (.slice none 0 0) => if n = 0 then some (s,H) else (if fitsA by' n && ([] : List AV).all AV.flat then some (.sl slot 0 0 n none,H.put slot (.cells 0 (Nat.max (boundL []) (boundL new)) e sz true ([] ++ new))) else none)
 | .vs z xs cap =>
  if z ≠ sz then none else
  if n = 0 then some (s,H) else
  match cap with
  | some c => if c = xs.length then (if fitsA by' (xs.length + n) && (xs.flatMap AV.cells).all AV.flat then some (.sl slot 0 0 (xs.length + n) none,H.put slot (.cells 0 (Nat.max (boundL (xs.flatMap AV.cells)) (boundL new)) e sz true (xs.flatMap AV.cells ++ new))) else none) else none
  | none => none
 | .sl b v off len cap =>
  if n = 0 then some (s,H) else
  match H.row b v with
  | some (m,e1,z,g,cs) =>
   match cap with
   | some c =>
    if len + n ≤ c then
     (match storeCells H b v (off + len * sz) new with | some H' => some (.sl b v off (len + n) cap,H') | none => none)
    else if off + len * sz ≤ cs.length then (if fitsA by' (len + n) && ((cs.drop off).take (len * sz)).all AV.flat then some (.sl slot 0 0 (len + n) none,H.put slot (.cells 0 (Nat.max (boundL ((cs.drop off).take (len * sz))) (boundL new)) e sz true ((cs.drop off).take (len * sz) ++ new))) else none) else none
   | none =>
    if z ≠ sz then none else
    if off + (len + n) * sz ≤ cs.length then
     (match storeCells H b v (off + len * sz) new with | some H' => some (.sl b v off (len + n) cap,H') | none => none)
    else if g = true ∧ off + len * sz = cs.length ∧ H.lock ≤ b ∧ fitsA by' (len + n) = true ∧ e1 = e then
     some (.sl b (v + 1) 0 (len + n) none,H.put b (.cells (v + 1) (Nat.max m (boundL new)) e sz true (cs.drop off ++ new)))
    else none
  | _ => none
 | _ => none
theorem appTo_eq (e : TypeId) (i : TypeInfo) (H : Heap) (slot n : Nat) (new : List AV) (s : AV) : appendTo H slot e i n new s = appTo e i.size i.bytes H slot n new s := by
 unfold appendTo appTo madeA
 rfl
def appG (e sz by' : Nat) (H : Heap) (slot : Nat) (s : AV) (c : Option (Nat × List AV)) : Option (AV × Heap) :=
 match c with
 | none => none
 | some (n,new) => if new.all AV.flat = false then none else appTo e sz by' H slot n new s
theorem app_eq {t u e : TypeId} {i : TypeInfo} {z : AV} (hi : isIntT P u = false) (hu : P.underlying t = some (.slice e)) (hinf : P.info? e = some i) (hz : zeroT P e = some z) (h1 : i.size ≠ 0) (h2 : i.bytes ≠ 0) (h3 : z.cells.length = i.size) (H : Heap) (slot : Nat) (s x : AV) :
  appendA P H slot [t,u] [s,x] = appG e i.size i.bytes H slot s (cellsFrom H i.size x) := by
 unfold appendA appG
 simp only [hi,hu,hinf,hz,Bool.false_eq_true,if_false]
 cases cellsFrom H i.size x with
 | none => rfl
 | some p =>
  simp only
  by_cases hf : p.2.all AV.flat = false
  ·rw [if_pos (Or.inr (Or.inr (Or.inl hf))),if_pos hf]
  ·rw [if_neg (by rintro (h | h | h | h);exact h1 h;exact h2 h;exact hf h;exact h h3),if_neg hf,appTo_eq]
theorem app_eq2 {t u e sz by' : Nat} (hi : isIntT P u = false) (hu : P.underlying t = some (.slice e)) (hinf : (P.info? e).map (fun i => (i.size,i.bytes)) = some (sz,by')) (hz : (zeroT P e).map (fun z => z.cells.length) = some sz) (h1 : sz ≠ 0) (h2 : by' ≠ 0) (H : Heap) (slot : Nat) (s x : AV) :
  appendA P H slot [t,u] [s,x] = appG e sz by' H slot s (cellsFrom H sz x) := by
 obtain ⟨i,hi1,hi2⟩ := Option.map_eq_some_iff.1 hinf
 obtain ⟨z,hz1,hz2⟩ := Option.map_eq_some_iff.1 hz
 simp only [Prod.mk.injEq] at hi2
 obtain ⟨rfl,rfl⟩ := hi2
 exact app_eq hi hu hi1 hz1 h1 h2 hz2 H slot s x
end
@[go_sem] theorem appG_some (e sz b : Nat) (H : Heap) (slot : Nat) (s : AV) (n : Nat) (new : List AV) : appG e sz b H slot s (some (n,new)) = if new.all AV.flat = false then none else appTo e sz b H slot n new s := rfl
@[go_sem] theorem cells_vs' (H : Heap) (sz z : Nat) (xs : List AV) (c : Option Nat) : cellsFrom H sz (.vs z xs c) = if z = sz then some (xs.length,xs.flatMap AV.cells) else none := rfl
@[go_sem] theorem appTo_nil (e sz b : Nat) (H : Heap) (slot n : Nat) (new : List AV) : appTo e sz b H slot n new (.v (.slice none 0 0)) = if n = 0 then some (.v (.slice none 0 0),H) else if fitsA b n = true then some (.sl slot 0 0 n none,H.put slot (.cells 0 (boundL new) e sz true new)) else none := by
 unfold appTo
 simp only [List.all_nil,Bool.and_true,List.nil_append]
 rw [show Nat.max (boundL []) (boundL new) = boundL new from Nat.zero_max (boundL new)]
theorem appTo_own {e sz b' : Nat} {H : Heap} {slot b v len n : Nat} {new : List AV} {m e' : Nat} {cs : List AV} (hr : H.row b v = some (m,e',sz,true,cs)) (hl : len * sz = cs.length) (hk : H.lock ≤ b) (hf : fitsA b' (len + n) = true) (hn : 0 < n) (hs : 0 < sz) (he : e' = e := by rfl) :
  appTo e sz b' H slot n new (.sl b v 0 len none) = some (.sl b (v + 1) 0 (len + n) none,H.put b (.cells (v + 1) (Nat.max m (boundL new)) e sz true (cs ++ new))) := by
 unfold appTo
 simp only [hr]
 rw [if_neg (by omega),if_neg (by simp),if_neg,if_pos ⟨trivial,by simpa using hl,hk,hf,he⟩]
 ·rfl
 ·have : (len + n) * sz = len * sz + n * sz := Nat.add_mul ..
  have h2 : 0 < n * sz := Nat.mul_pos hn hs
  omega
theorem appTo_none {e sz b' : Nat} {H : Heap} {slot : Nat} {new : List AV} {b v off len : Nat} {c : Option Nat} : appTo e sz b' H slot 0 new (.sl b v off len c) = some (.sl b v off len c,H) := by
 unfold appTo;rfl
@[go_sem] theorem plus_mk (l : List (Option AObj)) (k : Nat) (E : List (Option AObj)) : (Heap.mk l k).plus E = ⟨l ++ E,k⟩ := rfl
@[go_sem] theorem plus_plus' (X : Heap) (E F : List (Option AObj)) : (X.plus E).plus F = X.plus (E ++ F) := plus_plus X E F
section
variable {X : Heap} {N : Nat}
theorem rowP (hN : X.size = N) (E : List (Option AObj)) (k v : Nat) : (X.plus E).row (N + k) v = objRow v ((E[k]?).join) := by
 subst hN
 unfold Heap.row objRow
 rw [plus_get_hi _ (by omega),Nat.add_sub_cancel_left]
 cases (E[k]?).join with
 | none => rfl
 | some o => cases o <;> rfl
theorem rowP0 (hN : X.size = N) (E : List (Option AObj)) (v : Nat) : (X.plus E).row N v = objRow v ((E[0]?).join) := rowP hN E 0 v
theorem putP (hN : X.size = N) (E : List (Option AObj)) (k : Nat) (o : AObj) : (X.plus E).put (N + k) o = X.plus (setOrPush (some o) k E) := by
 subst hN
 rw [plus_put_hi _ _ (by omega),Nat.add_sub_cancel_left]
def stP (X : Heap) (E : List (Option AObj)) (k v off : Nat) (xs : List AV) (o : Option AObj) : Option Heap :=
 match o with
 | some (.cells w m e sz g cs) => if w = v ∧ off + xs.length ≤ cs.length ∧ xs.all AV.flat = true then some (X.plus (setOrPush (some (.cells w (Nat.max m (boundL xs)) e sz g (splice off xs cs))) k E)) else none
 | _ => none
@[go_sem] theorem stP_cells (X : Heap) (E : List (Option AObj)) (k v off : Nat) (xs : List AV) (w m e sz g) (cs : List AV) : stP X E k v off xs (some (.cells w m e sz g cs)) = if w = v ∧ off + xs.length ≤ cs.length ∧ xs.all AV.flat = true then some (X.plus (setOrPush (some (.cells w (Nat.max m (boundL xs)) e sz g (splice off xs cs))) k E)) else none := rfl
theorem storeP (hN : X.size = N) (hl : X.lock ≤ N) (E : List (Option AObj)) (k v off : Nat) (xs : List AV) : storeCells (X.plus E) (N + k) v off xs = stP X E k v off xs ((E[k]?).join) := by
 unfold storeCells
 rw [rowP hN]
 unfold objRow stP
 have hk : (X.plus E).lock ≤ N + k := by rw [plus_lock];omega
 cases (E[k]?).join with
 | none => rfl
 | some o =>
  cases o with
  | cells w m e sz g cs =>
   simp only
   by_cases hw : w = v
   ·subst hw
    simp only [if_true,true_and,hk,putP hN]
   ·simp only [hw,if_false,false_and]
  | _ => rfl
theorem storeP0 (hN : X.size = N) (hl : X.lock ≤ N) (E : List (Option AObj)) (v off : Nat) (xs : List AV) : storeCells (X.plus E) N v off xs = stP X E 0 v off xs ((E[0]?).join) := storeP hN hl E 0 v off xs
theorem sizeP (hN : X.size = N) (E : List (Option AObj)) : (X.plus E).size = N + E.length := by rw [plus_size,hN]
theorem settleP (hN : X.size = N) (E : List (Option AObj)) (k : Nat) : settleH (N + k) (X.plus E) = if (E.drop k).all Option.isNone = true then X.plus (E.take k) else X.plus E := by
 subst hN
 unfold settleH Heap.plus Heap.size
 simp only
 rw [List.drop_append,List.drop_of_length_le (by omega),List.nil_append,Nat.add_sub_cancel_left]
 by_cases h : (E.drop k).all Option.isNone = true
 ·rw [if_pos h,if_pos h,List.take_append,List.take_of_length_le (by omega),Nat.add_sub_cancel_left]
 ·rw [if_neg h,if_neg h]
theorem settleP0 (hN : X.size = N) (E : List (Option AObj)) : settleH N (X.plus E) = if (E.drop 0).all Option.isNone = true then X.plus (E.take 0) else X.plus E := settleP hN E 0
theorem rowLo {b : Nat} (hb : b < X.size) (E : List (Option AObj)) (v : Nat) : (X.plus E).row b v = X.row b v := plus_row E hb
end
section
variable {C : Cfg} {me : FuncId} {rd : Option Nat}
theorem wp_drawX {id : Nat} {ops : Array Oper} {a : AAct} {H : Heap} {K : Post} (tb : Tab) (hok : drawOk ops = true) (htb : tabOk ops.toList (waitsAll ops.toList) tb = true)
  (h : drawP C me ops H.size tb ops.toList 0 [] a (H.plus (List.replicate ops.toList.length none)) (setK C me H.size K)) (hnear : ∀ d,C.near me d = false := by intro d;rfl) : Wp C me rd (.region id ops true) a H K := wp_drawD tb hok htb h hnear
end
end Go.Ev
namespace Go.Ev
section
variable {P : Program}
end
end Go.Ev
namespace Go.Ev
section
variable {C : Cfg} {me : FuncId} {S : Type} {R : S → Fm → Prop} {stp : S → List AV → AExit × S} {lv : S → Prop} {ok : S → List AV → Prop} {n0 k d : Nat}
end
end Go.Ev
namespace Go.Ev
def HasE (rows : Fm) (E : List (Option AObj)) : Prop := ∀ p ∈ rows,E[p.1]? = some (some p.2)
structure MovesE (rows : Fm) (E : List (Option AObj)) (rows' : Fm) (E' : List (Option AObj)) : Prop where
 size : E.length ≤ E'.length
 same : ∀ j,j < E.length → ¬ keyIn j rows → E'[j]? = E[j]?
 keys : ∀ p ∈ rows',keyIn p.1 rows ∨ E.length ≤ p.1
theorem MovesE.refl (rows : Fm) (E : List (Option AObj)) : MovesE rows E rows E := ⟨Nat.le_refl _,fun _ _ _ => rfl,fun p hp => Or.inl ⟨p,hp,rfl⟩⟩
theorem MovesE.append (rows : Fm) (E G : List (Option AObj)) : MovesE rows E rows (E ++ G) := ⟨by simp,fun j hj _ => List.getElem?_append_left hj,fun p hp => Or.inl ⟨p,hp,rfl⟩⟩
theorem HasE.append {rows : Fm} {E : List (Option AObj)} (h : HasE rows E) (G : List (Option AObj)) : HasE rows (E ++ G) := fun p hp => by
 rw [List.getElem?_append_left (List.getElem?_eq_some_iff.1 (h p hp)).1];exact h p hp
section
variable {C : Cfg} {me : FuncId} {S : Type}
end
end Go.Ev
namespace Go.Ev
theorem ltB_n0 (a : Nat) : ltB a 0 = false := by simp [ltB]
attribute [go_sem] ltB_n0 List.any_cons List.any_nil repeatCells splice chunk bsFin ne_eq not_true_eq_false not_false_eq_true List.headD_cons Bool.false_eq_true Nat.le_refl Nat.zero_mul Nat.one_mul Nat.mul_one decide_true decide_false Bool.not_true Bool.not_false List.mem_cons List.not_mem_nil true_or or_true false_or or_false and_true true_and and_self List.getElem?_cons_succ List.getElem?_cons_zero Option.bind_some Option.map_some Option.map_none List.map_cons List.map_nil List.length_cons List.length_nil List.filterMap_cons List.filterMap_nil List.cons_append List.nil_append List.append_nil Nat.zero_add Nat.add_zero List.take_succ_cons List.take_zero List.take_nil List.drop_succ_cons List.drop_zero List.drop_nil List.all_cons List.all_nil Bool.and_true Bool.true_and Bool.false_and Bool.and_false Bool.or_true Bool.true_or Bool.or_false Bool.false_or beq_iff_eq beq_self_eq_true List.zip_cons_cons List.zip_nil_right List.zip_nil_left
end Go.Ev
namespace Go.Ev
open Go.Proofs
@[go_sem] theorem app_22 (H : Heap) (slot : Nat) (s x : AV) : appendA Try.prog H slot [22,22] [s,x] = appG 9 1 16 H slot s (cellsFrom H 1 x) := app_eq2 (by kernel_rfl) und_22 (by kernel_rfl) (by kernel_rfl) (by decide) (by decide) H slot s x
end Go.Ev
namespace Go.Ev
section
variable {C : Cfg} {me : FuncId} {S : Type} {R : S → Fm → Prop} {stp : S → List AV → AExit × S} {lv : S → Prop} {ok : S → List AV → Prop} {n0 k d : Nat}
end
end Go.Ev
namespace Go.Ev
open Go.Proofs
attribute [local irreducible] Wp WpS
def intA (n : Int) : AV := .v (.int .i64 n)
def strs (ws : List ByteArray) : List AV := ws.map fun s => .v (.string s)
theorem strs_get {ws : List ByteArray} {i : Nat} {s : ByteArray} (h : ws[i]? = some s) : (strs ws)[i]? = some (.v (.string s)) := by
 unfold strs;rw [List.getElem?_map,h];rfl
theorem strs_len (ws : List ByteArray) : (strs ws).length = ws.length := by simp [strs]
theorem at_lt {α : Type} (l : List α) (j : Nat) (h : j < l.length) : ∃ x,l[j]? = some x := ⟨l[j],List.getElem?_eq_getElem h⟩
theorem bound_sl (b v o n : Nat) (c : Option Nat) : bound (.sl b v o n c) = b + 1 := rfl
theorem drop_eq_cons {α : Type} {l : List α} {j : Nat} {x : α} (h : l[j]? = some x) : l.drop j = x :: l.drop (j + 1) := by
 have hj := (List.getElem?_eq_some_iff.1 h).1
 rw [List.drop_eq_getElem_cons hj,(List.getElem?_eq_some_iff.1 h).2]
theorem conv_u8 (n : Int) (h0 : 0 ≤ n) (h1 : n < 256) : convA Try.prog 5 3 (.v (.int .u8 n)) = some (.v (.int .i64 n)) := by
 have : convA Try.prog 5 3 (.v (.int .u8 n)) = some (.v (.int .i64 (IntKind.i64.wrap n))) := by kernel_rfl
 rw [this,wrap_in n (by omega) (by omega)]
theorem strAt_get {s : ByteArray} {j : Nat} {b : UInt8} (h : s.data.toList[j]? = some b) : strAt s j = some b := h
theorem strs_bd (ws : List ByteArray) : boundL (strs ws) = 0 := by
 refine Nat.le_zero.1 (boundL_le.2 fun x hx => ?_)
 obtain ⟨s, -,rfl⟩ := List.mem_map.1 hx;exact Nat.le_refl _
theorem setT_nil (n : Nat) (t : List (Tmp × AV)) : setTmps n t [] = t := rfl
theorem setT_cons (n : Nat) (t : List (Tmp × AV)) (d : Tmp) (v : AV) (r : List (Tmp × AV)) : setTmps n t ((d,v) :: r) = setTmps n (if d < n then setAssoc d v t else t) r := rfl
theorem ans64 {e : Exts} (lo hi n : Int) (cap : Option Nat) : Ans (Cx e) 52 [.agg [.v (.int .i64 lo),.v (.int .i64 hi)],.vs 1 [.v (.int .i64 n)] cap] (.v (.bool (decide (lo ≤ n) && decide (n ≤ hi)))) := by
 unfold Ans
 rw [fn_step (fn_52 e) (show Try.f52.body = some _ from rfl)]
 have hsl : SlOf 1 [intA n] (.vs 1 [intA n] cap) := Or.inr ⟨cap,rfl⟩
 have hlen := hsl.len
 simp -implicitDefEqProofs only [go_sem,↓reduceIte,Int.reduceEq,Int.reduceLT,Int.reduceLE,List.reduceReplicate,intA,setT_nil,setT_cons,↓boolP_bool,↓iteB_true,↓iteB_false] at hlen
 simp -implicitDefEqProofs only [Try.f52,go_sem,↓reduceIte,Int.reduceEq,Int.reduceLT,Int.reduceLE,List.reduceReplicate,intA,setT_nil,setT_cons,hlen,↓boolP_bool,↓iteB_true,↓iteB_false]
 refine Lp_ruleQ (P := fun μ a H => ∃ j,j + μ = 1 ∧ (0 < j → lo ≤ n ∧ n ≤ hi) ∧ a = ⟨24,[(0,.agg [intA lo,intA hi]),(1,.vs 1 [intA n] cap),(2,.ptr 0 0 0),(4,.v (.bool false)),(7,.vs 1 [intA n] cap),(8,intA 1),(9,intA (j : Nat))],[]⟩ ∧ H = ⟨[some (.cells 0 0 100 1 false [intA lo,intA hi])],0⟩) ?_ 1 _ _ ⟨0,by omega,by omega,rfl,rfl⟩
 rintro Q KK hQ hKK μ _ _ ⟨j,hj,hin,rfl,rfl⟩
 cases μ with
 | zero =>
  obtain rfl : j = 1 := by omega
  have hlt : ¬ ((1 : Nat) : Int) < 1 := by omega
  have h := hin (by omega)
  simp -implicitDefEqProofs only [go_sem,↓reduceIte,Int.reduceEq,Int.reduceLT,Int.reduceLE,List.reduceReplicate,intA,setT_nil,setT_cons,hlt,↓boolP_bool,↓iteB_true,↓iteB_false]
  refine hKK _ _ _ ?_
  simp -implicitDefEqProofs only [go_sem,↓reduceIte,Int.reduceEq,Int.reduceLT,Int.reduceLE,List.reduceReplicate,intA,setT_nil,setT_cons,h.1,h.2,decide_true,Bool.and_true,↓boolP_bool,↓iteB_true,↓iteB_false]
 | succ μ =>
  obtain rfl : j = 0 := by omega
  have hlt : ((0 : Nat) : Int) < 1 := by omega
  have hix := hsl.idx (show ([intA n] : List AV)[0]? = some (intA n) from rfl)
  have hw := wrap_succ 0 (by omega)
  simp only [intA] at hix
  by_cases hn1 : n < lo
  ·have hno : ¬ lo ≤ n := by omega
   simp -implicitDefEqProofs only [go_sem,↓reduceIte,Int.reduceEq,Int.reduceLT,Int.reduceLE,List.reduceReplicate,intA,setT_nil,setT_cons,hlt,hn1,hix,hw,decide_true,↓boolP_bool,↓iteB_true,↓iteB_false]
   refine hKK _ _ _ ?_
   simp -implicitDefEqProofs only [go_sem,↓reduceIte,Int.reduceEq,Int.reduceLT,Int.reduceLE,List.reduceReplicate,intA,setT_nil,setT_cons,hno,decide_false,Bool.false_and,↓boolP_bool,↓iteB_true,↓iteB_false]
  ·by_cases hn2 : n > hi
   ·have hno : ¬ n ≤ hi := by omega
    simp -implicitDefEqProofs only [go_sem,↓reduceIte,Int.reduceEq,Int.reduceLT,Int.reduceLE,List.reduceReplicate,intA,setT_nil,setT_cons,hlt,hn1,hn2,hix,hw,decide_true,decide_false,↓boolP_bool,↓iteB_true,↓iteB_false]
    refine hKK _ _ _ ?_
    simp -implicitDefEqProofs only [go_sem,↓reduceIte,Int.reduceEq,Int.reduceLT,Int.reduceLE,List.reduceReplicate,intA,setT_nil,setT_cons,hno,decide_false,Bool.and_false,↓boolP_bool,↓iteB_true,↓iteB_false]
   ·simp -implicitDefEqProofs only [go_sem,↓reduceIte,Int.reduceEq,Int.reduceLT,Int.reduceLE,List.reduceReplicate,intA,setT_nil,setT_cons,hlt,hix,hw,hn1,hn2,decide_false,↓boolP_bool,↓iteB_true,↓iteB_false]
    exact Again.mk' μ (by omega) (hQ _ _ _ ⟨0 + 1,by omega,fun _ => by omega,rfl,rfl⟩)
def byteB (b : UInt8) : Bool := decide ((32 : Int) ≤ b.toNat) && decide ((b.toNat : Int) ≤ 126)
def rowB (r : ByteArray) : Bool := (decide ((1 : Int) ≤ r.size) && decide ((r.size : Int) ≤ 160)) && r.data.toList.all byteB
def rowsB (l : List ByteArray) : Bool := decide (l.length ≤ 200) && l.all rowB
def FitsR (l : List ByteArray) : Prop := l.length < 2 ^ 63 ∧ ∀ r ∈ l,r.size < 2 ^ 63
theorem call64 {e : Exts} (he : Quiet e) (lo hi n : Int) (cap : Option Nat) (me : FuncId) (d : Option Tmp) (H : Heap) : callA (Cx e) (lim (Cx e)) me 52 d [.agg [.v (.int .i64 lo),.v (.int .i64 hi)],.vs 1 [.v (.int .i64 n)] cap] H = some (.v (.bool (decide (lo ≤ n) && decide (n ≤ hi))),H) :=
 (ans64 lo hi n cap).call (ext_52 he) (pure_52 _ _ _) rfl H
end Go.Ev
namespace Go.Ev
open Go.Proofs
attribute [local irreducible] Wp WpS
theorem ans50 {e : Exts} (he : Quiet e) (l : List ByteArray) (hf : FitsR l) (x : AV) (hx : SlOf 1 (strs l) x) : Ans (Cx e) 34 [x] (.v (.bool (rowsB l))) := by
 unfold Ans
 rw [fn_step (fn_34 e) (show Try.f34.body = some _ from rfl)]
 have hlx := hx.len
 rw [strs_len] at hlx
 have c64 := fun lo hi n cap me d H => call64 he lo hi n cap me d H
 by_cases hg : (l.length : Int) > 200
 ·have : rowsB l = false := by unfold rowsB;simp;omega
  rw [this]
  simp -implicitDefEqProofs only [Try.f34,go_sem,↓reduceIte,Int.reduceEq,Int.reduceLT,Int.reduceLE,List.reduceReplicate,intA,setT_nil,setT_cons,hx.cells,hx.flat,hx.bound,hlx,hg,decide_true,↓boolP_bool,↓iteB_true,↓iteB_false]
 ·simp -implicitDefEqProofs only [Try.f34,go_sem,↓reduceIte,Int.reduceEq,Int.reduceLT,Int.reduceLE,List.reduceReplicate,intA,setT_nil,setT_cons,hx.cells,hx.flat,hx.bound,hlx,hg,decide_false,↓boolP_bool,↓iteB_true,↓iteB_false]
  refine Lp_ruleQ (P := fun μ a H => ∃ j c,j + μ = l.length ∧ c = (l.take j).countP rowB ∧ a = ⟨50,[(0,x),(2,.v (.bool false)),(8,.v (.bool false)),(3,intA (c : Nat)),(10,intA l.length),(11,intA (j : Nat))],[]⟩ ∧ H = ⟨[],0⟩) ?_ l.length _ _ ⟨0,0,by omega,rfl,rfl,rfl⟩
  rintro Q KK hQ hKK μ _ _ ⟨j,c,hj,hc,rfl,rfl⟩
  have hcj : c ≤ j := by rw [hc];exact Nat.le_trans List.countP_le_length (by rw [List.length_take];omega)
  cases μ with
  | zero =>
   obtain rfl : j = l.length := by omega
   rw [List.take_length] at hc
   have hlt : ¬ (l.length : Int) < (l.length : Int) := by omega
   have hfin : decide ((c : Int) = (l.length : Int)) = rowsB l := by
    have h1 : decide (l.length ≤ 200) = true := by simp;omega
    unfold rowsB
    rw [h1,Bool.true_and,Bool.eq_iff_iff,decide_eq_true_iff,List.all_eq_true,← List.countP_eq_length,← hc]
    omega
   simp -implicitDefEqProofs only [go_sem,↓reduceIte,Int.reduceEq,Int.reduceLT,Int.reduceLE,List.reduceReplicate,intA,setT_nil,setT_cons,hlt,↓boolP_bool,↓iteB_true,↓iteB_false]
   refine hKK _ _ _ ?_
   simp -implicitDefEqProofs only [go_sem,↓reduceIte,Int.reduceEq,Int.reduceLT,Int.reduceLE,List.reduceReplicate,intA,setT_nil,setT_cons,hx.cells,hx.flat,hx.bound,hlx,hfin,↓boolP_bool,↓iteB_true,↓iteB_false]
  | succ μ =>
   obtain ⟨r,hr⟩ := at_lt l j (by omega)
   have hlt : (j : Int) < (l.length : Int) := by omega
   have hix := hx.idx (strs_get hr)
   have hw := wrap_succ j (by have := hf.1;omega)
   have hwc := wrap_succ c (by have := hf.1;omega)
   have hrs := hf.2 r (List.mem_of_getElem? hr)
   have htk : (l.take (j + 1)).countP rowB = c + if rowB r then 1 else 0 := by
    rw [List.take_add_one,hr,Option.toList_some,List.countP_append,← hc,List.countP_singleton]
   cases hb : (decide ((1 : Int) ≤ r.size) && decide ((r.size : Int) ≤ 160)) with
   | false =>
    have hrow : rowB r = false := by unfold rowB;rw [hb,Bool.false_and]
    simp -implicitDefEqProofs only [go_sem,↓reduceIte,Int.reduceEq,Int.reduceLT,Int.reduceLE,List.reduceReplicate,intA,setT_nil,setT_cons,hlt,hx.cells,hx.flat,hx.bound,hlx,hix,c64,hb,hw,Bool.not_false,↓boolP_bool,↓iteB_true,↓iteB_false]
    exact Again.mk' μ (by omega) (hQ _ _ _ ⟨j + 1,c,by omega,by rw [htk,hrow];rfl,rfl,rfl⟩)
   | true =>
    simp -implicitDefEqProofs only [go_sem,↓reduceIte,Int.reduceEq,Int.reduceLT,Int.reduceLE,List.reduceReplicate,intA,setT_nil,setT_cons,hlt,hx.cells,hx.flat,hx.bound,hlx,hix,c64,hb,hw,Bool.not_true,↓boolP_bool,↓iteB_true,↓iteB_false]
    refine Lp_ruleQ (P := fun μ2 a H => ∃ k,k + μ2 = r.size ∧ r.data.toList.all byteB = (r.data.toList.drop k).all byteB ∧ a = ⟨50,[(0,x),(2,.v (.bool false)),(8,.v (.bool false)),(3,intA (c : Nat)),(10,intA l.length),(11,intA (j : Nat)),(12,.v (.bool true)),(4,intA (j : Nat)),(22,.v (.bool false)),(27,intA r.size),(28,intA (k : Nat))],[]⟩ ∧ H = ⟨[],0⟩) ?_ r.size _ _ ⟨0,by omega,rfl,rfl,rfl⟩
    rintro Q2 K2 hQ2 hK2 μ2 _ _ ⟨k,hk,hall,rfl,rfl⟩
    cases μ2 with
    | zero =>
     have hk : k = r.size := by omega
     have hrow : rowB r = true := by
      unfold rowB
      rw [hb,hall,hk,List.drop_of_length_le (by simp)];rfl
     subst hk
     have hlt2 : ¬ (r.size : Int) < (r.size : Int) := by omega
     simp -implicitDefEqProofs only [go_sem,↓reduceIte,Int.reduceEq,Int.reduceLT,Int.reduceLE,List.reduceReplicate,intA,setT_nil,setT_cons,hlt2,↓boolP_bool,↓iteB_true,↓iteB_false]
     refine hK2 _ _ _ ?_
     simp -implicitDefEqProofs only [go_sem,↓reduceIte,Int.reduceEq,Int.reduceLT,Int.reduceLE,List.reduceReplicate,intA,setT_nil,setT_cons,hw,hwc,↓boolP_bool,↓iteB_true,↓iteB_false]
     exact Again.mk' μ (by omega) (hQ _ _ _ ⟨j + 1,c + 1,by omega,by rw [htk,hrow];rfl,rfl,rfl⟩)
    | succ μ2 =>
     obtain ⟨b,hb2⟩ := at_lt r.data.toList k (by simp;omega)
     have hlt2 : (k : Int) < (r.size : Int) := by omega
     have hsa := strAt_get hb2
     have hw2 := wrap_succ k (by omega)
     have hk0 : (0 : Int) ≤ (k : Int) := by omega
     have hcv := conv_u8 b.toNat (by omega) (by have := b.toNat_lt;omega)
     rw [drop_eq_cons hb2,List.all_cons] at hall
     cases hy : (decide ((32 : Int) ≤ b.toNat) && decide ((b.toNat : Int) ≤ 126)) with
     | false =>
      have hrow : rowB r = false := by unfold rowB;rw [hall,show byteB b = false from hy,Bool.false_and,Bool.and_false]
      simp -implicitDefEqProofs only [go_sem,↓reduceIte,Int.reduceEq,Int.reduceLT,Int.reduceLE,List.reduceReplicate,intA,setT_nil,setT_cons,hlt2,hlt,hx.cells,hx.flat,hx.bound,hlx,hix,hk0,Int.toNat_natCast,hsa,hcv,c64,hy,hw,hw2,Bool.not_false,↓boolP_bool,↓iteB_true,↓iteB_false]
      refine hK2 _ _ _ ?_
      simp -implicitDefEqProofs only [go_sem,↓reduceIte,Int.reduceEq,Int.reduceLT,Int.reduceLE,List.reduceReplicate,intA,setT_nil,setT_cons,hw,↓boolP_bool,↓iteB_true,↓iteB_false]
      exact Again.mk' μ (by omega) (hQ _ _ _ ⟨j + 1,c,by omega,by rw [htk,hrow];rfl,rfl,rfl⟩)
     | true =>
      rw [show byteB b = true from hy,Bool.true_and] at hall
      simp -implicitDefEqProofs only [go_sem,↓reduceIte,Int.reduceEq,Int.reduceLT,Int.reduceLE,List.reduceReplicate,intA,setT_nil,setT_cons,hlt2,hlt,hx.cells,hx.flat,hx.bound,hlx,hix,hk0,Int.toNat_natCast,hsa,hcv,c64,hy,hw,hw2,Bool.not_true,↓boolP_bool,↓iteB_true,↓iteB_false]
      exact Again.mk' μ2 (by omega) (hQ2 _ _ _ ⟨k + 1,by omega,hall,rfl,rfl⟩)
theorem call50 {e : Exts} (he : Quiet e) (l : List ByteArray) (hf : FitsR l) (x : AV) (hx : SlOf 1 (strs l) x) (me : FuncId) (d : Option Tmp) (H : Heap) : callA (Cx e) (lim (Cx e)) me 34 d [x] H = some (.v (.bool (rowsB l)),H) :=
 (ans50 he l hf x hx).call (ext_34 he) (pure_34 _ _ _) (by simp only [boundL_cons,hx.bound,boundL_nil];rfl) H
end Go.Ev
namespace Go.Ev
open Go.Proofs
attribute [local irreducible] Wp WpS
theorem ans49 {e : Exts} (n lo hi : Int) : Ans (Cx e) 46 [.v (.int .i64 n),.v (.int .i64 lo),.v (.int .i64 hi)] (.v (.bool (decide (lo ≤ n) && decide (n ≤ hi)))) := by
 unfold Ans
 rw [fn_step (fn_46 e) (show Try.f46.body = some _ from rfl)]
 by_cases h1 : n ≥ lo
 ·have h1' : lo ≤ n := h1
  by_cases h2 : n ≤ hi
  ·simp -implicitDefEqProofs only [Try.f46,go_sem,↓reduceIte,Int.reduceEq,Int.reduceLT,Int.reduceLE,List.reduceReplicate,intA,setT_nil,setT_cons,h1,h1',h2,decide_true,decide_false,Bool.and_true,Bool.and_false,↓boolP_bool,↓iteB_true,↓iteB_false]
  ·simp -implicitDefEqProofs only [Try.f46,go_sem,↓reduceIte,Int.reduceEq,Int.reduceLT,Int.reduceLE,List.reduceReplicate,intA,setT_nil,setT_cons,h1,h1',h2,decide_true,decide_false,Bool.and_true,Bool.and_false,↓boolP_bool,↓iteB_true,↓iteB_false]
 ·have h1' : ¬ lo ≤ n := h1
  simp -implicitDefEqProofs only [Try.f46,go_sem,↓reduceIte,Int.reduceEq,Int.reduceLT,Int.reduceLE,List.reduceReplicate,intA,setT_nil,setT_cons,h1,h1',decide_true,decide_false,Bool.false_and,↓boolP_bool,↓iteB_true,↓iteB_false]
theorem call49 {e : Exts} (he : Quiet e) (n lo hi : Int) (me : FuncId) (d : Option Tmp) (H : Heap) : callA (Cx e) (lim (Cx e)) me 46 d [.v (.int .i64 n),.v (.int .i64 lo),.v (.int .i64 hi)] H = some (.v (.bool (decide (lo ≤ n) && decide (n ≤ hi))),H) :=
 (ans49 n lo hi).call (ext_46 he) (pure_46 _ _ _) rfl H
theorem ans38 {e : Exts} (he : Quiet e) (l : List ByteArray) (hf : FitsR l) (x : AV) (hx : SlOf 1 (strs l) x) : Ans (Cx e) 31 [x] (.v (.bool (rowsB l))) := by
 unfold Ans
 rw [fn_step (fn_31 e) (show Try.f31.body = some _ from rfl)]
 have hlx := hx.len
 rw [strs_len] at hlx
 have c49 := fun n lo hi me d H => call49 he n lo hi me d H
 simp -implicitDefEqProofs only [Try.f31,go_sem,↓reduceIte,Int.reduceEq,Int.reduceLT,Int.reduceLE,List.reduceReplicate,intA,setT_nil,setT_cons,hx.cells,hx.flat,hx.bound,hlx,↓boolP_bool,↓iteB_true,↓iteB_false]
 refine Lp_ruleQ (P := fun μ a H => ∃ j,j + μ = l.length ∧ l.all rowB = (l.drop j).all rowB ∧ a = ⟨46,[(0,x),(2,.v (.bool false)),(3,intA (j : Nat))],[]⟩ ∧ H = ⟨[],0⟩) ?_ l.length _ _ ⟨0,by omega,rfl,rfl,rfl⟩
 rintro Q KK hQ hKK μ _ _ ⟨j,hj,hall,rfl,rfl⟩
 cases μ with
 | zero =>
  obtain rfl : j = l.length := by omega
  rw [List.drop_length] at hall
  have hlt : ¬ (l.length : Int) < (l.length : Int) := by omega
  have hfin : decide ((l.length : Int) ≤ 200) = rowsB l := by
   unfold rowsB
   rw [hall,List.all_nil,Bool.and_true,Bool.eq_iff_iff,decide_eq_true_iff,decide_eq_true_iff]
   omega
  simp -implicitDefEqProofs only [go_sem,↓reduceIte,Int.reduceEq,Int.reduceLT,Int.reduceLE,List.reduceReplicate,intA,setT_nil,setT_cons,hx.cells,hx.flat,hx.bound,hlx,hlt,↓boolP_bool,↓iteB_true,↓iteB_false]
  refine hKK _ _ _ ?_
  simp -implicitDefEqProofs only [go_sem,↓reduceIte,Int.reduceEq,Int.reduceLT,Int.reduceLE,List.reduceReplicate,intA,setT_nil,setT_cons,hx.cells,hx.flat,hx.bound,hlx,hfin,↓boolP_bool,↓iteB_true,↓iteB_false]
 | succ μ =>
  obtain ⟨r,hr⟩ := at_lt l j (by omega)
  have hlt : (j : Int) < (l.length : Int) := by omega
  have hix := hx.idx (strs_get hr)
  have hw := wrap_succ j (by have := hf.1;omega)
  have hrs := hf.2 r (List.mem_of_getElem? hr)
  rw [drop_eq_cons hr,List.all_cons] at hall
  have hno : rowB r = false → rowsB l = false := fun h => by unfold rowsB;rw [hall,h,Bool.false_and,Bool.and_false]
  cases hb : (decide ((1 : Int) ≤ r.size) && decide ((r.size : Int) ≤ 160)) with
  | false =>
   have hrow : rowB r = false := by unfold rowB;rw [hb,Bool.false_and]
   simp -implicitDefEqProofs only [go_sem,↓reduceIte,Int.reduceEq,Int.reduceLT,Int.reduceLE,List.reduceReplicate,intA,setT_nil,setT_cons,hlt,hx.cells,hx.flat,hx.bound,hlx,hix,c49,hb,hw,Bool.not_false,↓boolP_bool,↓iteB_true,↓iteB_false]
   refine hKK _ _ _ ?_
   simp -implicitDefEqProofs only [go_sem,↓reduceIte,Int.reduceEq,Int.reduceLT,Int.reduceLE,List.reduceReplicate,intA,setT_nil,setT_cons,hno hrow,↓boolP_bool,↓iteB_true,↓iteB_false]
  | true =>
   simp -implicitDefEqProofs only [go_sem,↓reduceIte,Int.reduceEq,Int.reduceLT,Int.reduceLE,List.reduceReplicate,intA,setT_nil,setT_cons,hlt,hx.cells,hx.flat,hx.bound,hlx,hix,c49,hb,hw,Bool.not_true,↓boolP_bool,↓iteB_true,↓iteB_false]
   refine Lp_ruleQ (P := fun μ2 a H => ∃ k,k + μ2 = r.size ∧ r.data.toList.all byteB = (r.data.toList.drop k).all byteB ∧ a = ⟨46,[(0,x),(2,.v (.bool false)),(3,intA (j : Nat)),(8,.v (.bool true)),(17,.v (.bool false)),(4,intA (k : Nat))],[]⟩ ∧ H = ⟨[],0⟩) ?_ r.size _ _ ⟨0,by omega,rfl,rfl,rfl⟩
   rintro Q2 K2 hQ2 hK2 μ2 _ _ ⟨k,hk,hall2,rfl,rfl⟩
   cases μ2 with
   | zero =>
    have hk : k = r.size := by omega
    have hrow : rowB r = true := by
     unfold rowB
     rw [hb,hall2,hk,List.drop_of_length_le (by simp)];rfl
    subst hk
    rw [hrow,Bool.true_and] at hall
    have hlt2 : ¬ (r.size : Int) < (r.size : Int) := by omega
    simp -implicitDefEqProofs only [go_sem,↓reduceIte,Int.reduceEq,Int.reduceLT,Int.reduceLE,List.reduceReplicate,intA,setT_nil,setT_cons,hlt2,hx.cells,hx.flat,hx.bound,hlx,hix,↓boolP_bool,↓iteB_true,↓iteB_false]
    refine hK2 _ _ _ ?_
    simp -implicitDefEqProofs only [go_sem,↓reduceIte,Int.reduceEq,Int.reduceLT,Int.reduceLE,List.reduceReplicate,intA,setT_nil,setT_cons,hw,↓boolP_bool,↓iteB_true,↓iteB_false]
    exact Again.mk' μ (by omega) (hQ _ _ _ ⟨j + 1,by omega,hall,rfl,rfl⟩)
   | succ μ2 =>
    obtain ⟨b,hb2⟩ := at_lt r.data.toList k (by simp;omega)
    have hlt2 : (k : Int) < (r.size : Int) := by omega
    have hsa := strAt_get hb2
    have hw2 := wrap_succ k (by omega)
    have hk0 : (0 : Int) ≤ (k : Int) := by omega
    rw [drop_eq_cons hb2,List.all_cons] at hall2
    have hno2 : byteB b = false → rowsB l = false := fun h => hno (by unfold rowB;rw [hall2,h,Bool.false_and,Bool.and_false])
    by_cases h1 : (b.toNat : Int) < 32
    ·have hf2 := hno2 (by unfold byteB;simp;omega)
     simp -implicitDefEqProofs only [go_sem,↓reduceIte,Int.reduceEq,Int.reduceLT,Int.reduceLE,List.reduceReplicate,intA,setT_nil,setT_cons,hlt2,hlt,hx.cells,hx.flat,hx.bound,hlx,hix,hk0,Int.toNat_natCast,hsa,h1,hw,hw2,decide_true,↓boolP_bool,↓iteB_true,↓iteB_false]
     refine hK2 _ _ _ ?_
     simp -implicitDefEqProofs only [go_sem,↓reduceIte,Int.reduceEq,Int.reduceLT,Int.reduceLE,List.reduceReplicate,intA,setT_nil,setT_cons,↓boolP_bool,↓iteB_true,↓iteB_false]
     refine hKK _ _ _ ?_
     simp -implicitDefEqProofs only [go_sem,↓reduceIte,Int.reduceEq,Int.reduceLT,Int.reduceLE,List.reduceReplicate,intA,setT_nil,setT_cons,hf2,↓boolP_bool,↓iteB_true,↓iteB_false]
    ·by_cases h2 : (b.toNat : Int) > 126
     ·have hf2 := hno2 (by unfold byteB;simp;omega)
      simp -implicitDefEqProofs only [go_sem,↓reduceIte,Int.reduceEq,Int.reduceLT,Int.reduceLE,List.reduceReplicate,intA,setT_nil,setT_cons,hlt2,hlt,hx.cells,hx.flat,hx.bound,hlx,hix,hk0,Int.toNat_natCast,hsa,h1,h2,hw,hw2,decide_true,decide_false,↓boolP_bool,↓iteB_true,↓iteB_false]
      refine hK2 _ _ _ ?_
      simp -implicitDefEqProofs only [go_sem,↓reduceIte,Int.reduceEq,Int.reduceLT,Int.reduceLE,List.reduceReplicate,intA,setT_nil,setT_cons,↓boolP_bool,↓iteB_true,↓iteB_false]
      refine hKK _ _ _ ?_
      simp -implicitDefEqProofs only [go_sem,↓reduceIte,Int.reduceEq,Int.reduceLT,Int.reduceLE,List.reduceReplicate,intA,setT_nil,setT_cons,hf2,↓boolP_bool,↓iteB_true,↓iteB_false]
     ·have hy : byteB b = true := by unfold byteB;simp;omega
      rw [hy,Bool.true_and] at hall2
      simp -implicitDefEqProofs only [go_sem,↓reduceIte,Int.reduceEq,Int.reduceLT,Int.reduceLE,List.reduceReplicate,intA,setT_nil,setT_cons,hlt2,hlt,hx.cells,hx.flat,hx.bound,hlx,hix,hk0,Int.toNat_natCast,hsa,h1,h2,hw,hw2,decide_true,decide_false,↓boolP_bool,↓iteB_true,↓iteB_false]
      exact Again.mk' μ2 (by omega) (hQ2 _ _ _ ⟨k + 1,by omega,hall2,rfl,rfl⟩)
theorem call38 {e : Exts} (he : Quiet e) (l : List ByteArray) (hf : FitsR l) (x : AV) (hx : SlOf 1 (strs l) x) (me : FuncId) (d : Option Tmp) (H : Heap) : callA (Cx e) (lim (Cx e)) me 31 d [x] H = some (.v (.bool (rowsB l)),H) :=
 (ans38 he l hf x hx).call (ext_31 he) (pure_31 _ _ _) (by simp only [boundL_cons,hx.bound,boundL_nil];rfl) H
end Go.Ev
namespace Go.Ev
open Go.Proofs
attribute [local irreducible] Wp WpS
theorem ans15 {e : Exts} (l m : List ByteArray) (hl : l.length < 2 ^ 63) (x y : AV) (hx : SlOf 1 (strs l) x) (hy : SlOf 1 (strs m) y) : Ans (Cx e) 13 [x,y] (.v (.bool (decide (l = m)))) := by
 unfold Ans
 rw [fn_step (fn_13 e) (show Try.f13.body = some _ from rfl)]
 have hlx := hx.len
 have hly := hy.len
 rw [strs_len] at hlx hly
 by_cases hlen : l.length = m.length
 ·have hli : ((l.length : Int) = (m.length : Int)) := by omega
  simp -implicitDefEqProofs only [Try.f13,go_sem,↓reduceIte,Int.reduceEq,Int.reduceLT,Int.reduceLE,List.reduceReplicate,intA,setT_nil,setT_cons,hx.cells,hx.flat,hx.bound,hy.cells,hy.flat,hy.bound,hlx,hly,hli,decide_true,Bool.not_true,↓boolP_bool,↓iteB_true,↓iteB_false]
  refine Lp_ruleQ (P := fun μ a H => ∃ j,j + μ = l.length ∧ decide (l = m) = decide (l.drop j = m.drop j) ∧ a = ⟨26,[(0,x),(1,y),(4,.v (.bool false)),(10,.v (.bool false)),(5,intA (j : Nat))],[]⟩ ∧ H = ⟨[],0⟩) ?_ l.length _ _ ⟨0,by omega,rfl,rfl,rfl⟩
  rintro Q KK hQ hKK μ _ _ ⟨j,hj,hall,rfl,rfl⟩
  cases μ with
  | zero =>
   obtain rfl : j = l.length := by omega
   have hlt : ¬ (m.length : Int) < (m.length : Int) := by omega
   have hd : decide (l = m) = true := by rw [hall,List.drop_length,hlen,List.drop_length];rfl
   simp -implicitDefEqProofs only [go_sem,↓reduceIte,Int.reduceEq,Int.reduceLT,Int.reduceLE,List.reduceReplicate,intA,setT_nil,setT_cons,hx.cells,hx.flat,hx.bound,hlx,hli,hlt,↓boolP_bool,↓iteB_true,↓iteB_false]
   refine hKK _ _ _ ?_
   simp -implicitDefEqProofs only [go_sem,↓reduceIte,Int.reduceEq,Int.reduceLT,Int.reduceLE,List.reduceReplicate,intA,setT_nil,setT_cons,hd,↓boolP_bool,↓iteB_true,↓iteB_false]
  | succ μ =>
   obtain ⟨r,hr⟩ := at_lt l j (by omega)
   obtain ⟨s,hs⟩ := at_lt m j (by omega)
   have hlt : (j : Int) < (m.length : Int) := by omega
   have hix := hx.idx (strs_get hr)
   have hiy := hy.idx (strs_get hs)
   have hw := wrap_succ j (by omega)
   rw [drop_eq_cons hr,drop_eq_cons hs] at hall
   simp -implicitDefEqProofs only [go_sem,↓reduceIte,Int.reduceEq,Int.reduceLT,Int.reduceLE,List.reduceReplicate,intA,setT_nil,setT_cons,hx.cells,hx.flat,hx.bound,hlx,hli,hlt,↓boolP_bool,↓iteB_true,↓iteB_false]
   refine wp_drawX [([],[],false),([],[],false),([],[],false),([],[],false),([],[],false),([],[],false),([],[],false),([3],[],false),([],[],false)] (by kernel_rfl) (by kernel_rfl) ?_
   by_cases hd : r = s
   ·subst hd
    simp -implicitDefEqProofs only [go_sem,↓reduceIte,Int.reduceEq,Int.reduceLT,Int.reduceLE,List.reduceReplicate,intA,setT_nil,setT_cons,hix,hiy,hw,decide_true,Bool.not_true,↓boolP_bool,↓iteB_true,↓iteB_false]
    exact Again.mk' μ (by omega) (hQ _ _ _ ⟨j + 1,by omega,by rw [hall];simp,rfl,rfl⟩)
   ·have h0 : decide (l = m) = false := by rw [hall];simp [hd]
    simp -implicitDefEqProofs only [go_sem,↓reduceIte,Int.reduceEq,Int.reduceLT,Int.reduceLE,List.reduceReplicate,intA,setT_nil,setT_cons,hix,hiy,hw,decide_eq_false hd,Bool.not_false,↓boolP_bool,↓iteB_true,↓iteB_false]
    refine hKK _ _ _ ?_
    simp -implicitDefEqProofs only [go_sem,↓reduceIte,Int.reduceEq,Int.reduceLT,Int.reduceLE,List.reduceReplicate,intA,setT_nil,setT_cons,h0,↓boolP_bool,↓iteB_true,↓iteB_false]
 ·have hli : ¬ ((l.length : Int) = (m.length : Int)) := by omega
  have h0 : decide (l = m) = false := decide_eq_false fun h => hlen (congrArg _ h)
  simp -implicitDefEqProofs only [Try.f13,go_sem,↓reduceIte,Int.reduceEq,Int.reduceLT,Int.reduceLE,List.reduceReplicate,intA,setT_nil,setT_cons,hx.cells,hx.flat,hx.bound,hy.cells,hy.flat,hy.bound,hlx,hly,hli,h0,decide_false,Bool.not_false,↓boolP_bool,↓iteB_true,↓iteB_false]
theorem call15 {e : Exts} (he : Quiet e) (l m : List ByteArray) (hl : l.length < 2 ^ 63) (x y : AV) (hx : SlOf 1 (strs l) x) (hy : SlOf 1 (strs m) y) (me : FuncId) (d : Option Tmp) (H : Heap) : callA (Cx e) (lim (Cx e)) me 13 d [x,y] H = some (.v (.bool (decide (l = m))),H) :=
 (ans15 l m hl x y hx hy).call (ext_13 he) (pure_13 _ _ _) (by simp only [boundL_cons,hx.bound,hy.bound,boundL_nil];rfl) H
def chkN (n : Nat) : List UInt8 → Nat
 | [] => n
 | b :: r => chkN ((31 * n + b.toNat) % 676) r
def sumR (r : ByteArray) (i : Nat) : Nat := chkN ((17 * i + 5) % 676) r.data.toList
def chkB (r : ByteArray) (i : Nat) : List UInt8 := [(97 + sumR r i / 26).toUInt8,(97 + sumR r i % 26).toUInt8]
def lineB (r : ByteArray) (i : Nat) : ByteArray := r ++ ⟨#[32]⟩ ++ ⟨(chkB r i).toArray⟩ ++ ⟨#[10]⟩
end Go.Ev
namespace Go.Ev
open Go.Proofs
attribute [local irreducible] Wp WpS
theorem ans51 {e : Exts} (l m : List ByteArray) (hl : l.length < 2 ^ 63) (x y : AV) (hx : SlOf 1 (strs l) x) (hy : SlOf 1 (strs m) y) : Ans (Cx e) 35 [x,y] (.v (.bool (decide (l = m)))) := by
 unfold Ans
 rw [fn_step (fn_35 e) (show Try.f35.body = some _ from rfl)]
 have hlx := hx.len
 have hly := hy.len
 rw [strs_len] at hlx hly
 by_cases hlen : l.length = m.length
 ·have hli : ((l.length : Int) = (m.length : Int)) := by omega
  simp -implicitDefEqProofs only [Try.f35,go_sem,↓reduceIte,Int.reduceEq,Int.reduceLT,Int.reduceLE,List.reduceReplicate,intA,setT_nil,setT_cons,hx.cells,hx.flat,hx.bound,hy.cells,hy.flat,hy.bound,hlx,hly,hli,decide_true,Bool.not_true,↓boolP_bool,↓iteB_true,↓iteB_false]
  refine Lp_ruleQ (P := fun μ a H => ∃ j,j + μ = l.length ∧ decide (l = m) = decide (l.drop j = m.drop j) ∧ a = ⟨26,[(0,x),(1,y),(4,.v (.bool false)),(10,.v (.bool false)),(12,intA m.length),(13,intA (j : Nat))],[]⟩ ∧ H = ⟨[],0⟩) ?_ l.length _ _ ⟨0,by omega,rfl,rfl,rfl⟩
  rintro Q KK hQ hKK μ _ _ ⟨j,hj,hall,rfl,rfl⟩
  cases μ with
  | zero =>
   obtain rfl : j = l.length := by omega
   have hlt : ¬ (m.length : Int) < (m.length : Int) := by omega
   have hd : decide (l = m) = true := by rw [hall,List.drop_length,hlen,List.drop_length];rfl
   simp -implicitDefEqProofs only [go_sem,↓reduceIte,Int.reduceEq,Int.reduceLT,Int.reduceLE,List.reduceReplicate,intA,setT_nil,setT_cons,hx.cells,hx.flat,hx.bound,hlx,hli,hlt,↓boolP_bool,↓iteB_true,↓iteB_false]
   refine hKK _ _ _ ?_
   simp -implicitDefEqProofs only [go_sem,↓reduceIte,Int.reduceEq,Int.reduceLT,Int.reduceLE,List.reduceReplicate,intA,setT_nil,setT_cons,hd,↓boolP_bool,↓iteB_true,↓iteB_false]
  | succ μ =>
   obtain ⟨r,hr⟩ := at_lt l j (by omega)
   obtain ⟨s,hs⟩ := at_lt m j (by omega)
   have hlt : (j : Int) < (m.length : Int) := by omega
   have hix := hx.idx (strs_get hr)
   have hiy := hy.idx (strs_get hs)
   have hw := wrap_succ j (by omega)
   rw [drop_eq_cons hr,drop_eq_cons hs] at hall
   simp -implicitDefEqProofs only [go_sem,↓reduceIte,Int.reduceEq,Int.reduceLT,Int.reduceLE,List.reduceReplicate,intA,setT_nil,setT_cons,hx.cells,hx.flat,hx.bound,hlx,hli,hlt,↓boolP_bool,↓iteB_true,↓iteB_false]
   refine wp_drawX [([],[],false),([],[],false),([],[],false),([],[],false),([],[],false),([],[],false),([],[],false),([3],[],false),([],[],false)] (by kernel_rfl) (by kernel_rfl) ?_
   by_cases hd : r = s
   ·subst hd
    simp -implicitDefEqProofs only [go_sem,↓reduceIte,Int.reduceEq,Int.reduceLT,Int.reduceLE,List.reduceReplicate,intA,setT_nil,setT_cons,hix,hiy,hw,decide_true,Bool.not_true,↓boolP_bool,↓iteB_true,↓iteB_false]
    exact Again.mk' μ (by omega) (hQ _ _ _ ⟨j + 1,by omega,by rw [hall];simp,rfl,rfl⟩)
   ·have h0 : decide (l = m) = false := by rw [hall];simp [hd]
    simp -implicitDefEqProofs only [go_sem,↓reduceIte,Int.reduceEq,Int.reduceLT,Int.reduceLE,List.reduceReplicate,intA,setT_nil,setT_cons,hix,hiy,hw,decide_eq_false hd,Bool.not_false,↓boolP_bool,↓iteB_true,↓iteB_false]
    refine hKK _ _ _ ?_
    simp -implicitDefEqProofs only [go_sem,↓reduceIte,Int.reduceEq,Int.reduceLT,Int.reduceLE,List.reduceReplicate,intA,setT_nil,setT_cons,h0,↓boolP_bool,↓iteB_true,↓iteB_false]
 ·have hli : ¬ ((l.length : Int) = (m.length : Int)) := by omega
  have h0 : decide (l = m) = false := decide_eq_false fun h => hlen (congrArg _ h)
  simp -implicitDefEqProofs only [Try.f35,go_sem,↓reduceIte,Int.reduceEq,Int.reduceLT,Int.reduceLE,List.reduceReplicate,intA,setT_nil,setT_cons,hx.cells,hx.flat,hx.bound,hy.cells,hy.flat,hy.bound,hlx,hly,hli,h0,decide_false,Bool.not_false,↓boolP_bool,↓iteB_true,↓iteB_false]
theorem call51 {e : Exts} (he : Quiet e) (l m : List ByteArray) (hl : l.length < 2 ^ 63) (x y : AV) (hx : SlOf 1 (strs l) x) (hy : SlOf 1 (strs m) y) (me : FuncId) (d : Option Tmp) (H : Heap) : callA (Cx e) (lim (Cx e)) me 35 d [x,y] H = some (.v (.bool (decide (l = m))),H) :=
 (ans51 l m hl x y hx hy).call (ext_35 he) (pure_35 _ _ _) (by simp only [boundL_cons,hx.bound,hy.bound,boundL_nil];rfl) H
theorem ans73 {e : Exts} (l : List ByteArray) (x : AV) (hx : SlOf 1 (strs l) x) (j : Nat) (s : ByteArray) (hj : l[j]? = some s) : Ans (Cx e) 55 [x,.v (.int .i64 j)] (.v (.string s)) := by
 have hix := hx.idx (strs_get hj)
 unfold Ans
 rw [fn_step (fn_55 e) (show Try.f55.body = some _ from rfl)]
 simp -implicitDefEqProofs only [Try.f55,go_sem,↓reduceIte,Int.reduceEq,Int.reduceLT,Int.reduceLE,List.reduceReplicate,intA,setT_nil,setT_cons,hx.cells,hx.flat,hx.bound,hix,↓boolP_bool,↓iteB_true,↓iteB_false]
theorem ans74 {e : Exts} (l : List ByteArray) (hl : l.length < 2 ^ 63) (x : AV) (hx : SlOf 1 (strs l) x) (j : Nat) (s : ByteArray) (hj : l.reverse[j]? = some s) : Ans (Cx e) 56 [x,.v (.int .i64 j)] (.v (.string s)) := by
 have hjl : j < l.length := by have := (List.getElem?_eq_some_iff.1 hj).1;rw [List.length_reverse] at this;exact this
 rw [List.getElem?_reverse hjl] at hj
 have hix := hx.idx (strs_get hj)
 have hlx := hx.len
 rw [strs_len] at hlx
 have w1 : IntKind.i64.wrap ((l.length : Int) - 1) = ((l.length - 1 : Nat) : Int) := by rw [wrap_in _ (by omega) (by omega)];omega
 have w2 : IntKind.i64.wrap (((l.length - 1 : Nat) : Int) - (j : Int)) = ((l.length - 1 - j : Nat) : Int) := by rw [wrap_in _ (by omega) (by omega)];omega
 unfold Ans
 rw [fn_step (fn_56 e) (show Try.f56.body = some _ from rfl)]
 simp -implicitDefEqProofs only [Try.f56,go_sem,↓reduceIte,Int.reduceEq,Int.reduceLT,Int.reduceLE,List.reduceReplicate,intA,setT_nil,setT_cons,hx.cells,hx.flat,hx.bound,hlx,w1,w2,hix,↓boolP_bool,↓iteB_true,↓iteB_false]
def comN : List ByteArray → List ByteArray → Nat
 | a :: l,b :: m => if a = b then comN l m + 1 else 0
 | _,_ => 0
theorem comN_le : ∀ (l m : List ByteArray),comN l m ≤ l.length ∧ comN l m ≤ m.length
 | [],_ => by simp [comN]
 | _ :: _,[] => by simp [comN]
 | a :: l,b :: m => by
  have := comN_le l m
  rw [comN]
  split <;> simp only [List.length_cons] <;> omega
theorem min2 (a b : Nat) : minmaxA false (.v (.int .i64 (a : Int))) [.v (.int .i64 (b : Int))] = some (.v (.int .i64 (min a b : Nat))) := by
 show some (AV.v (.int .i64 (if (b : Int) < (a : Int) then (b : Int) else (a : Int)))) = _
 congr 3
 split <;> omega
theorem ans72 {e : Exts} (l m l' m' : List ByteArray) (hl : l.length < 2 ^ 62) (x y : AV) (hx : SlOf 1 (strs l) x) (hy : SlOf 1 (strs m) y) (f : Nat) (hll : l'.length = l.length) (hml : m'.length = m.length)
  (h1 : ∀ j s me d H,l'[j]? = some s → callA (Cx e) (lim (Cx e)) me f d [x,.v (.int .i64 (j : Nat))] H = some (.v (.string s),H))
  (h2 : ∀ j s me d H,m'[j]? = some s → callA (Cx e) (lim (Cx e)) me f d [y,.v (.int .i64 (j : Nat))] H = some (.v (.string s),H)) :
  Ans (Cx e) 54 [x,y,.fn (.func f) [] []] (.v (.int .i64 (comN l' m'))) := by
 unfold Ans
 rw [fn_step (fn_54 e) (show Try.f54.body = some _ from rfl)]
 have hlx := hx.len
 have hly := hy.len
 rw [strs_len] at hlx hly
 simp -implicitDefEqProofs only [Try.f54,go_sem,↓reduceIte,Int.reduceEq,Int.reduceLT,Int.reduceLE,List.reduceReplicate,intA,setT_nil,setT_cons,hx.cells,hx.flat,hx.bound,hy.cells,hy.flat,hy.bound,hlx,hly,↓boolP_bool,↓iteB_true,↓iteB_false]
 refine Lp_ruleQ (P := fun μ a H => ∃ j,j + μ = min l.length m.length ∧ comN l' m' = comN (l'.drop j) (m'.drop j) + j ∧ a = ⟨29,[(0,x),(1,y),(2,.fn (.func f) [] []),(6,intA 0),(7,intA (j : Nat))],[]⟩ ∧ H = ⟨[],0⟩) ?_ (min l.length m.length) _ _ ⟨0,by omega,rfl,rfl,rfl⟩
 rintro Q KK hQ hKK μ _ _ ⟨j,hj,hall,rfl,rfl⟩
 have hmin := min2 l.length m.length
 cases μ with
 | zero =>
  have hlt : ¬ (j : Int) < ((min l.length m.length : Nat) : Int) := by omega
  have h0 : comN (l'.drop j) (m'.drop j) = 0 := by
   have h := comN_le (l'.drop j) (m'.drop j)
   rw [List.length_drop,List.length_drop] at h;omega
  rw [h0,Nat.zero_add] at hall
  simp -implicitDefEqProofs only [go_sem,↓reduceIte,Int.reduceEq,Int.reduceLT,Int.reduceLE,List.reduceReplicate,intA,setT_nil,setT_cons,hx.cells,hx.flat,hx.bound,hy.cells,hlx,hly,hmin,hlt,decide_false,↓boolP_bool,↓iteB_true,↓iteB_false]
  refine hKK _ _ _ ?_
  simp -implicitDefEqProofs only [go_sem,↓reduceIte,Int.reduceEq,Int.reduceLT,Int.reduceLE,List.reduceReplicate,intA,setT_nil,setT_cons,hall,↓boolP_bool,↓iteB_true,↓iteB_false]
 | succ μ =>
  have hlt : (j : Int) < ((min l.length m.length : Nat) : Int) := by omega
  obtain ⟨r,hr⟩ := at_lt l' j (by omega)
  obtain ⟨s,hs⟩ := at_lt m' j (by omega)
  have hw := wrap_succ j (by omega)
  have c1 := fun me d H => h1 j r me d H hr
  have c2 := fun me d H => h2 j s me d H hs
  rw [drop_eq_cons hr,drop_eq_cons hs,comN] at hall
  by_cases hd : r = s
  ·subst hd
   rw [if_pos rfl] at hall
   simp -implicitDefEqProofs only [go_sem,↓reduceIte,Int.reduceEq,Int.reduceLT,Int.reduceLE,List.reduceReplicate,intA,setT_nil,setT_cons,hx.cells,hx.flat,hx.bound,hy.cells,hlx,hly,hmin,hlt,c1,c2,hw,decide_true,↓boolP_bool,↓iteB_true,↓iteB_false]
   exact Again.mk' μ (by omega) (hQ _ _ _ ⟨j + 1,by omega,by omega,rfl,rfl⟩)
  ·rw [if_neg hd,Nat.zero_add] at hall
   simp -implicitDefEqProofs only [go_sem,↓reduceIte,Int.reduceEq,Int.reduceLT,Int.reduceLE,List.reduceReplicate,intA,setT_nil,setT_cons,hx.cells,hx.flat,hx.bound,hy.cells,hlx,hly,hmin,hlt,c1,c2,hw,decide_true,decide_eq_false hd,↓boolP_bool,↓iteB_true,↓iteB_false]
   refine hKK _ _ _ ?_
   simp -implicitDefEqProofs only [go_sem,↓reduceIte,Int.reduceEq,Int.reduceLT,Int.reduceLE,List.reduceReplicate,intA,setT_nil,setT_cons,hall,↓boolP_bool,↓iteB_true,↓iteB_false]
theorem call72 {e : Exts} (he : Quiet e) (l m : List ByteArray) (hl : l.length < 2 ^ 62) (x y : AV) (hx : SlOf 1 (strs l) x) (hy : SlOf 1 (strs m) y) (me : FuncId) (d : Option Tmp) (H : Heap) : callA (Cx e) (lim (Cx e)) me 54 d [x,y,.fn (.func 55) [] []] H = some (.v (.int .i64 (comN l m)),H) :=
 (ans72 l m l m hl x y hx hy 55 rfl rfl
  (fun j s me d H h => (ans73 l x hx j s h).call (ext_55 he) (pure_55 _ _ _) (by simp only [boundL_cons,hx.bound,boundL_nil];rfl) H)
  (fun j s me d H h => (ans73 m y hy j s h).call (ext_55 he) (pure_55 _ _ _) (by simp only [boundL_cons,hy.bound,boundL_nil];rfl) H)).call (ext_54 he) (pure_54 _ _ _) (by simp only [boundL_cons,hx.bound,hy.bound,boundL_nil];rfl) H
theorem call72B {e : Exts} (he : Quiet e) (l m : List ByteArray) (hl : l.length < 2 ^ 62) (hm : m.length < 2 ^ 62) (x y : AV) (hx : SlOf 1 (strs l) x) (hy : SlOf 1 (strs m) y) (me : FuncId) (d : Option Tmp) (H : Heap) : callA (Cx e) (lim (Cx e)) me 54 d [x,y,.fn (.func 56) [] []] H = some (.v (.int .i64 (comN l.reverse m.reverse)),H) :=
 (ans72 l m l.reverse m.reverse hl x y hx hy 56 (List.length_reverse ..) (List.length_reverse ..)
  (fun j s me d H h => (ans74 l (by omega) x hx j s h).call (ext_56 he) (pure_56 _ _ _) (by simp only [boundL_cons,hx.bound,boundL_nil];rfl) H)
  (fun j s me d H h => (ans74 m (by omega) y hy j s h).call (ext_56 he) (pure_56 _ _ _) (by simp only [boundL_cons,hy.bound,boundL_nil];rfl) H)).call (ext_54 he) (pure_54 _ _ _) (by simp only [boundL_cons,hx.bound,hy.bound,boundL_nil];rfl) H
end Go.Ev
namespace Go.Ev
open Go.Proofs
attribute [local irreducible] Wp WpS
def bytesA (l : List UInt8) : List AV := l.map fun c => .v (.int .u8 c.toNat)
def bldN : Heap := ⟨[some (.cells 0 0 65 1 false [.v (.pointer none),.v (.slice none 0 0)])],0⟩
def bld (v n : Nat) (bs : List UInt8) : Heap := ⟨[some (.cells 0 2 65 1 false [.ptr 0 0 0,.sl 1 v 0 n none]),some (.cells v 0 5 1 true (bytesA bs))],0⟩
theorem call_kept {C : Cfg} {f : FuncId} {args : List AV} {H H' : Heap} {v : AV} {me : FuncId} {d : Option Tmp} (hx : C.ext f = none) (hk : callKind C me f d args = 0) (h : Fn' C f args H (fun x X => x = v ∧ X = H')) (hh : C.exh f = none := by rfl) : callA C (lim C) me f d args H = some (v,H'.trim H.size [v] []) := by
 unfold Fn' at h
 rw [bindO_iff] at h
 obtain ⟨o,h1,h2⟩ := h
 cases o with
 | go => exact h2.elim
 | ret x X =>
  obtain ⟨rfl,rfl⟩ := h2
  unfold callA standA standH
  rw [hx];simp only;rw [hh];simp only
  unfold callB
  rw [hk]
  simp only [h1]
end Go.Ev
namespace Go.Ev
open Go.Proofs
attribute [local irreducible] Wp WpS
theorem call_seen {C : Cfg} {f : FuncId} {args : List AV} {H : Heap} {v : AV} {me : FuncId} {d : Option Tmp} (hx : C.ext f = none) (hk : callKind C me f d args = 2) (h : Fn' C f args { H with lock := H.size } (fun x X => freezeV { X with lock := H.size } 1000000 x = some v)) (hh : C.exh f = none := by rfl) : callA C (lim C) me f d args H = some (v,H) := by
 unfold Fn' at h
 rw [bindO_iff] at h
 obtain ⟨o,h1,h2⟩ := h
 cases o with
 | go => exact h2.elim
 | ret x X =>
  have h2 : freezeV { X with lock := H.size } 1000000 x = some v := h2
  unfold callA standA standH
  rw [hx];simp only;rw [hh];simp only
  unfold callB
  rw [hk]
  simp only [h1,h2,Option.map_some]
end Go.Ev
namespace Go.Ev
open Go.Proofs
attribute [local irreducible] Wp WpS
def linesB : Nat → List ByteArray → List UInt8
 | _,[] => []
 | i,r :: l => (lineB r i).data.toList ++ linesB (i + 1) l
def hB (l : List ByteArray) : Nat → Heap
 | 0 => bldN
 | j + 1 => bld j (linesB 0 (l.take (j + 1))).length (linesB 0 (l.take (j + 1)))
theorem rows_of {l : List ByteArray} (h : rowsB l = true) : l.length ≤ 200 ∧ ∀ r ∈ l,1 ≤ r.size ∧ r.size ≤ 160 ∧ ∀ b ∈ r.data.toList,32 ≤ b.toNat ∧ b.toNat ≤ 126 := by
 unfold rowsB at h
 rw [Bool.and_eq_true,decide_eq_true_iff,List.all_eq_true] at h
 refine ⟨h.1,fun r hr => ?_⟩
 have h2 := h.2 r hr
 unfold rowB at h2
 rw [Bool.and_eq_true,Bool.and_eq_true,decide_eq_true_iff,decide_eq_true_iff,List.all_eq_true] at h2
 refine ⟨by omega,by omega,fun b hb => ?_⟩
 have h3 := h2.2 b hb
 unfold byteB at h3
 rw [Bool.and_eq_true,decide_eq_true_iff,decide_eq_true_iff] at h3
 omega
end Go.Ev
namespace Go.Ev
open Go.Proofs
attribute [local irreducible] Wp WpS
def nl (s : ByteArray) : Nat := (idxB 10 0 s.data.toList + 1).toNat
def lineOf (s : ByteArray) : ByteArray := s.extract 0 (nl s)
def rowOf (s : ByteArray) : ByteArray := (lineOf s).extract 0 ((lineOf s).size - 4)
def firstR (s : ByteArray) (i : Nat) : Option ByteArray := if rowB (rowOf s) && decide (lineOf s = lineB (rowOf s) i) then some (rowOf s) else none
theorem rows_one (r : ByteArray) : rowsB [r] = rowB r := by
 unfold rowsB
 simp
end Go.Ev
namespace Go.Ev
open Go.Proofs
attribute [local irreducible] Wp WpS
theorem settle_eqN {H : Heap} {N : Nat} (h : H.size = N) : settleH N H = H := by rw [← h];exact settle_same H
theorem trim_eqN {H : Heap} {N : Nat} (h : H.size = N) (vs : List AV) (ms : List Nat) : H.trim N vs ms = H := by rw [← h];exact trim_size H vs ms
def consR (o : Option ByteArray) (k : ByteArray → List ByteArray) : List ByteArray := match o with | none => [] | some r => r :: k r
def readR (s : ByteArray) : Nat → Nat → Nat → List ByteArray
 | 0,_,_ => []
 | m + 1,i,en => consR (firstR (s.extract en s.size) i) fun r => readR s m (i + 1) (en + (r.size + 4))
attribute [local irreducible] firstR
attribute [irreducible] readR
end Go.Ev
namespace Go.Ev
open Go.Proofs
attribute [local irreducible] Wp WpS
theorem get_row {H : Heap} {b v m e sz : Nat} {g : Bool} {cs : List AV} (h : H.get b = some (.cells v m e sz g cs)) : H.row b v = some (m,e,sz,g,cs) := by
 unfold Heap.row;rw [h];simp
theorem settle_live {H : Heap} {n b : Nat} {o : AObj} (hb : n ≤ b) (h : H.get b = some o) : settleH n H = H := by
 unfold settleH
 rw [if_neg]
 intro hall
 have hx : H.objs[b]? = some (some o) := by
  unfold Heap.get at h
  cases hq : H.objs[b]? with
  | none => rw [hq] at h;exact nomatch h
  | some y => rw [hq] at h;cases y with
   | none => exact nomatch h
   | some z => rw [show z = o from Option.some.inj h]
 have hm : some o ∈ H.objs.drop n := by
  refine List.mem_of_getElem? (i := b - n) ?_
  rw [List.getElem?_drop,show n + (b - n) = b by omega,hx]
 have := List.all_eq_true.1 hall _ hm
 exact nomatch this
theorem chunk1 : ∀ l : List AV,chunk 1 l.length l = l
 | [] => rfl
 | x :: r => by
  show (if 1 = 1 then (x :: r).headD undefA else _) :: chunk 1 r.length ((x :: r).drop 1) = _
  rw [if_pos rfl]
  show x :: chunk 1 r.length r = _
  rw [chunk1 r]
end Go.Ev
namespace Go.Ev
open Go.Proofs
attribute [local irreducible] Wp WpS
def rowO (l : List ByteArray) : AObj := .cells 0 0 9 1 true (strs l)
theorem strs_flat (l : List ByteArray) : (strs l).all AV.flat = true := by
 refine List.all_eq_true.2 fun x hx => ?_
 obtain ⟨s, -,rfl⟩ := List.mem_map.1 hx;rfl
theorem strs_cells (l : List ByteArray) : (strs l).flatMap AV.cells = strs l := by
 unfold strs
 induction l with
 | nil => rfl
 | cons a r ih => simp only [List.map_cons,List.flatMap_cons,ih];rfl
theorem nil22 (t : Nat) : binA Try.prog .eql 22 (.tmp t) (.const (.slice none 0 0)) (.v (.slice none 0 0)) (.v (.slice none 0 0)) = some (.v (.bool true)) := by kernel_rfl
theorem nil22F (t : Nat) (xs : List AV) (cap : Option Nat) : binA Try.prog .eql 22 (.tmp t) (.const (.slice none 0 0)) (.vs 1 xs cap) (.v (.slice none 0 0)) = some (.v (.bool false)) := by kernel_rfl
theorem appE0 (H : Heap) (slot : Nat) : appTo 9 1 16 H slot 0 [] (.vs 1 [] (some 0)) = some (.vs 1 [] (some 0),H) := rfl
theorem appE1 (H : Heap) (slot : Nat) (l : List ByteArray) (h0 : 0 < l.length) (hf : fitsA 16 l.length = true) : appTo 9 1 16 H slot l.length (strs l) (.vs 1 [] (some 0)) = some (.sl slot 0 0 l.length none,H.put slot (rowO l)) := by
 unfold appTo rowO
 simp only [List.length_nil,Nat.zero_add,if_true,hf,List.flatMap_nil,List.all_nil,Bool.and_true,List.nil_append]
 rw [if_neg (by simp),if_neg (by omega),show Nat.max (boundL []) (boundL (strs l)) = 0 by rw [strs_bd];rfl]
theorem fn52N {e : Exts} (_he : Quiet e) {X : Heap} {N : Nat} (hN : X.size = N) : Fn' (Cx e) 36 [.v (.slice none 0 0)] X (fun v Y => v = .v (.slice none 0 0) ∧ Y = X) := by
 rw [fn_step (fn_36 e) (show Try.f36.body = some _ from rfl)]
 simp -implicitDefEqProofs only [Try.f36,go_sem,↓reduceIte,Int.reduceEq,Int.reduceLT,Int.reduceLE,List.reduceReplicate,intA,setT_nil,setT_cons,hN,settle_eqN hN,nil22,↓boolP_bool,↓iteB_true,↓iteB_false]
 exact ⟨rfl,rfl⟩
theorem fn52E {e : Exts} (_he : Quiet e) {X : Heap} {N : Nat} (hN : X.size = N) (cap : Option Nat) : Fn' (Cx e) 36 [.vs 1 [] cap] X (fun v Y => v = .vs 1 [] (some 0) ∧ Y = X) := by
 rw [fn_step (fn_36 e) (show Try.f36.body = some _ from rfl)]
 simp -implicitDefEqProofs only [Try.f36,go_sem,↓reduceIte,Int.reduceEq,Int.reduceLT,Int.reduceLE,List.reduceReplicate,intA,setT_nil,setT_cons,hN,settle_eqN hN,nil22F,appE0,List.flatMap_nil,List.all_nil,↓boolP_bool,↓iteB_true,↓iteB_false]
 exact ⟨rfl,rfl⟩
theorem fn52R {e : Exts} (_he : Quiet e) {X : Heap} {N : Nat} (hN : X.size = N) (l : List ByteArray) (h0 : 0 < l.length) (hl : l.length < 100000) (cap : Option Nat) : Fn' (Cx e) 36 [.vs 1 (strs l) cap] X (fun v Y => v = .sl N 0 0 l.length none ∧ Y = X.plus [some (rowO l)]) := by
 rw [fn_step (fn_36 e) (show Try.f36.body = some _ from rfl)]
 have hf : fitsA 16 l.length = true := by unfold fitsA;exact decide_eq_true (by omega)
 have hput : X.put N (rowO l) = X.plus [some (rowO l)] := by rw [← hN];exact put_push _
 have hset : settleH N (X.plus [some (rowO l)]) = X.plus [some (rowO l)] := settle_live (b := N) (o := rowO l) (Nat.le_refl _) (by rw [← hput];exact put_get_eq _ (by omega))
 have hap := fun (slot : Nat) => appE1 X slot l h0 hf
 have hls := strs_len l
 simp -implicitDefEqProofs only [Try.f36,go_sem,↓reduceIte,Int.reduceEq,Int.reduceLT,Int.reduceLE,List.reduceReplicate,intA,setT_nil,setT_cons,hN,settle_eqN hN,nil22F,strs_cells,strs_flat,hls,hap,hput,hset,↓boolP_bool,↓iteB_true,↓iteB_false]
 exact ⟨rfl,rfl⟩
theorem kind52 (e : Exts) {me : FuncId} {d : Option Tmp} (hm : pureF me 36 d = false) (args : List AV) : callKind (Cx e) me 36 d args = 0 := by
 have h1 : (Cx e).pure me 36 d = false := hm
 unfold callKind
 rw [h1];rfl
theorem call52N {e : Exts} (he : Quiet e) (X : Heap) (me : FuncId) (d : Option Tmp) (hm : pureF me 36 d = false := by rfl) : callA (Cx e) (lim (Cx e)) me 36 d [.v (.slice none 0 0)] X = some (.v (.slice none 0 0),X) := by
 rw [call_kept (ext_36 he) (kind52 e hm _) (fn52N he rfl),trim_size]
theorem call52E {e : Exts} (he : Quiet e) (X : Heap) (cap : Option Nat) (me : FuncId) (d : Option Tmp) (hm : pureF me 36 d = false := by rfl) : callA (Cx e) (lim (Cx e)) me 36 d [.vs 1 [] cap] X = some (.vs 1 [] (some 0),X) := by
 rw [call_kept (ext_36 he) (kind52 e hm _) (fn52E he rfl cap),trim_size]
theorem trim_up {H : Heap} {n : Nat} {vs : List AV} {ms : List Nat} (h : n < boundL vs) : H.trim n vs ms = H := by
 unfold Heap.trim
 rw [if_neg]
 have : Nat.ble (boundL vs) n = false := by
  cases hb : Nat.ble (boundL vs) n with
  | false => rfl
  | true => have := Nat.le_of_ble_eq_true hb;omega
 simp only [this,Bool.false_and,Bool.false_eq_true,not_false_eq_true]
theorem call52R {e : Exts} (he : Quiet e) (X : Heap) (l : List ByteArray) (h0 : 0 < l.length) (hl : l.length < 100000) (cap : Option Nat) (me : FuncId) (d : Option Tmp) (hm : pureF me 36 d = false := by rfl) : callA (Cx e) (lim (Cx e)) me 36 d [.vs 1 (strs l) cap] X = some (.sl X.size 0 0 l.length none,X.plus [some (rowO l)]) := by
 rw [call_kept (ext_36 he) (kind52 e hm _) (fn52R he rfl l h0 hl cap),trim_up]
 rw [boundL_cons,bound_sl]
 exact Nat.lt_of_lt_of_le (Nat.lt_succ_self _) (Nat.le_max_left _ _)
end Go.Ev
namespace Go.Ev
open Go.Proofs
theorem rowsB_all {l : List ByteArray} (h : rowsB l = true) : ∀ r ∈ l,rowB r = true := by
 unfold rowsB at h
 rw [Bool.and_eq_true,List.all_eq_true] at h
 exact h.2
end Go.Ev
namespace Go.Ev
open Go.Proofs
attribute [local irreducible] Wp WpS
theorem und22s : sizeT Try.prog 9 = some 1 := by kernel_rfl
theorem slice22 {xs : List AV} {x : AV} (h : SlOf 1 xs x) (H : Heap) (j : Nat) (hj : j ≤ xs.length) : ∃ y,sliceA Try.prog H 22 x none (some (.v (.int .i64 (j : Nat)))) none = some y ∧ SlOf 1 (xs.take j) y := by
 rcases h with ⟨rfl,rfl⟩ | ⟨cap,rfl⟩
 ·obtain rfl : j = 0 := by simpa using hj
  refine ⟨.v (.slice none 0 0), ?_,Or.inl ⟨rfl,rfl⟩⟩
  unfold sliceA
  simp only [und_22,und22s]
  rfl
 ·have b1 : boundA (some (.v (.int .i64 (j : Nat)))) xs.length xs.length = some j := by
   unfold boundA
   simp only [Int.toNat_natCast]
   rw [if_pos (by omega)]
  have b2 : boundA none xs.length xs.length = some xs.length := rfl
  have b3 : boundA none 0 j = some 0 := rfl
  refine ⟨.vs 1 (xs.take j) (capOf none xs.length 0 cap), ?_,Or.inr ⟨_,rfl⟩⟩
  unfold sliceA
  simp only [und_22,und22s,b1,b2,b3,List.drop_zero]
  rfl
end Go.Ev
namespace Go.Ev
open Go.Proofs
attribute [local irreducible] Wp WpS
theorem slice22I {xs : List AV} {x : AV} (h : SlOf 1 xs x) (j : Nat) (hj : j ≤ xs.length) : ∃ y,sliceI Try.prog 22 x (some (.v (.int .i64 (j : Nat)))) none none = some y ∧ SlOf 1 (xs.drop j) y := by
 rcases h with ⟨rfl,rfl⟩ | ⟨cap,rfl⟩
 ·obtain rfl : j = 0 := by simpa using hj
  refine ⟨.v (.slice none 0 0), ?_,Or.inl ⟨rfl,rfl⟩⟩
  unfold sliceI sliceA
  simp only [und_22,und22s]
  rfl
 ·have b1 : boundA (some (.v (.int .i64 (j : Nat)))) 0 xs.length = some j := by
   unfold boundA
   simp only [Int.toNat_natCast]
   rw [if_pos (by omega)]
  have b2 : boundA none xs.length xs.length = some xs.length := rfl
  refine ⟨.vs 1 (xs.drop j) (capOf none xs.length j cap), ?_,Or.inr ⟨_,rfl⟩⟩
  unfold sliceI sliceA
  simp only [und_22,und22s,b1,b2,List.take_length]
  rfl
theorem slice22Ih {xs : List AV} {x : AV} (h : SlOf 1 xs x) (j : Nat) (hj : j ≤ xs.length) : ∃ y,sliceI Try.prog 22 x none (some (.v (.int .i64 (j : Nat)))) none = some y ∧ SlOf 1 (xs.take j) y := by
 obtain ⟨y,h1,h2⟩ := slice22 h ⟨[],0⟩ j hj
 refine ⟨y, ?_,h2⟩
 rcases h with ⟨rfl,rfl⟩ | ⟨cap,rfl⟩ <;> exact h1
theorem strs_drop (l : List ByteArray) (j : Nat) : (strs l).drop j = strs (l.drop j) := by unfold strs;rw [List.map_drop]
theorem strs_take (l : List ByteArray) (j : Nat) : (strs l).take j = strs (l.take j) := by unfold strs;rw [List.map_take]
abbrev Hnk := Nat × Nat × List ByteArray
def hunkL (l m : List ByteArray) : Hnk := (comN l m,(l.drop (comN l m)).length - comN (l.drop (comN l m)).reverse (m.drop (comN l m)).reverse,(m.drop (comN l m)).take ((m.drop (comN l m)).length - comN (l.drop (comN l m)).reverse (m.drop (comN l m)).reverse))
def HunkA (h : Hnk) (v : AV) : Prop := ∃ p,v = .agg [.v (.int .i64 h.1),.v (.int .i64 h.2.1),p] ∧ SlOf 1 (strs h.2.2) p
theorem frzRow {H : Heap} (hk : H.lock = 0) {b v e n : Nat} {cs : List AV} (hr : H.row b v = some (0,e,1,true,cs)) (hn : n = cs.length) (k : Nat) : freezeV H (k + 1) (.sl b v 0 n none) = some (.vs 1 cs none) := by
 subst hn
 unfold freezeV
 simp only [hr]
 rw [if_neg (by omega),if_pos ⟨by omega,by omega⟩,if_pos trivial,List.drop_zero,List.take_of_length_le (by omega),chunk1]
theorem frzHunk {H : Heap} (hk : H.lock = 0) {b v e n : Nat} {cs : List AV} (hr : H.row b v = some (0,e,1,true,cs)) (hn : n = cs.length) (x y : Value) : freezeV H 1000000 (.agg [.v x,.v y,.sl b v 0 n none]) = some (.agg [.v x,.v y,.vs 1 cs none]) := by
 have h1 := frzRow hk hr hn 999995
 have : freezeL H 999999 [.v x,.v y,.sl b v 0 n none] = some [.v x,.v y,.vs 1 cs none] := by
  simp only [freezeL,h1]
  rfl
 show (freezeL H 999999 _).map AV.agg = _
 rw [this];rfl
theorem ans47 {e : Exts} (he : Quiet e) (l m : List ByteArray) (hl : l.length < 100000) (hm : m.length < 100000) (x y : AV) (hx : SlOf 1 (strs l) x) (hy : SlOf 1 (strs m) y) : ∃ v,HunkA (hunkL l m) v ∧ Ans (Cx e) 38 [x,y] v := by
 have c72 := fun me d H => call72 he l m (by omega) x y hx hy me d H
 obtain ⟨k1,k2⟩ := comN_le l m
 obtain ⟨at_,hat⟩ : ∃ n,comN l m = n := ⟨_,rfl⟩
 rw [hat] at c72 k1 k2
 obtain ⟨x1,hx1,hx2⟩ := slice22I hx at_ (by rw [strs_len];omega)
 obtain ⟨y1,hy1,hy2⟩ := slice22I hy at_ (by rw [strs_len];omega)
 rw [strs_drop] at hx2 hy2
 have c72b := fun me d H => call72B he (l.drop at_) (m.drop at_) (by rw [List.length_drop];omega) (by rw [List.length_drop];omega) x1 y1 hx2 hy2 me d H
 obtain ⟨e1,e2⟩ := comN_le (l.drop at_).reverse (m.drop at_).reverse
 rw [List.length_reverse] at e1 e2
 have hh : hunkL l m = (at_,(l.drop at_).length - comN (l.drop at_).reverse (m.drop at_).reverse,(m.drop at_).take ((m.drop at_).length - comN (l.drop at_).reverse (m.drop at_).reverse)) := by unfold hunkL;rw [hat]
 rw [hh]
 have hlx := hx2.len
 have hly := hy2.len
 rw [strs_len] at hlx hly
 have hld : (l.drop at_).length < 100000 := by rw [List.length_drop];omega
 have hmd : (m.drop at_).length < 100000 := by rw [List.length_drop];omega
 obtain ⟨en,hen⟩ : ∃ n,comN (l.drop at_).reverse (m.drop at_).reverse = n := ⟨_,rfl⟩
 rw [hen] at c72b e1 e2 ⊢
 have w1 : IntKind.i64.wrap (((l.drop at_).length : Int) - (en : Int)) = (((l.drop at_).length - en : Nat) : Int) := by rw [wrap_in _ (by omega) (by omega)];omega
 have w2 : IntKind.i64.wrap (((m.drop at_).length : Int) - (en : Int)) = (((m.drop at_).length - en : Nat) : Int) := by rw [wrap_in _ (by omega) (by omega)];omega
 obtain ⟨y2,hy3,hy4⟩ := slice22 hy2 ⟨[some (.cells 0 0 60 1 false [.v (.int .i64 0),.v (.int .i64 0),.v (.slice none 0 0)])],0⟩ ((m.drop at_).length - en) (by rw [strs_len];omega)
 rw [strs_take] at hy4
 generalize hP : (m.drop at_).take ((m.drop at_).length - en) = P at *
 have hPl : P.length < 100000 := by rw [← hP,List.length_take];omega
 generalize (m.drop at_).length - en = pn at *
 generalize (l.drop at_).length - en = dn at *
 simp only [HunkA]
 have key : ∀ p,SlOf 1 (strs P) p → Ans (Cx e) 38 [x,y] (.agg [.v (.int .i64 at_),.v (.int .i64 dn),p]) → ∃ v,(∃ p,v = .agg [.v (.int .i64 at_),.v (.int .i64 dn),p] ∧ SlOf 1 (strs P) p) ∧ Ans (Cx e) 38 [x,y] v := fun p h1 h2 => ⟨_,⟨p,rfl,h1⟩,h2⟩
 rcases hy4 with ⟨rfl,hP0⟩ | ⟨cap,rfl⟩
 ·have c52 := fun X d => call52N he X 38 d
  refine key (.v (.slice none 0 0)) (Or.inl ⟨rfl,hP0⟩) ?_
  unfold Ans
  rw [fn_step (fn_38 e) (show Try.f38.body = some _ from rfl)]
  simp -implicitDefEqProofs only [Try.f38,go_sem,↓reduceIte,Int.reduceEq,Int.reduceLT,Int.reduceLE,List.reduceReplicate,intA,setT_nil,setT_cons,hx.cells,hx.flat,hx.bound,hy.cells,hy.flat,hy.bound,c72,↓boolP_bool,↓iteB_true,↓iteB_false]
  refine wp_drawX [([],[],false),([],[],false),([],[],false),([],[],false),([],[],false),([2],[],false),([],[],false),([],[],false)] (by kernel_rfl) (by kernel_rfl) ?_
  simp -implicitDefEqProofs only [go_sem,↓reduceIte,Int.reduceEq,Int.reduceLT,Int.reduceLE,List.reduceReplicate,intA,setT_nil,setT_cons,hx1,hy1,hx2.cells,hx2.flat,hx2.bound,hy2.cells,hy2.flat,hy2.bound,hlx,hly,c72b,w1,w2,hy3,c52,↓boolP_bool,↓iteB_true,↓iteB_false]
  rfl
 ·rcases hP0 : P with _ | ⟨p0,P'⟩
  ·have c52 := fun X d => call52E he X cap 38 d
   rw [hP0] at hy3
   rw [← hP0]
   refine key (.vs 1 [] (some 0)) (by rw [hP0];exact Or.inr ⟨_,rfl⟩) ?_
   unfold Ans
   rw [fn_step (fn_38 e) (show Try.f38.body = some _ from rfl)]
   simp -implicitDefEqProofs only [Try.f38,go_sem,↓reduceIte,Int.reduceEq,Int.reduceLT,Int.reduceLE,List.reduceReplicate,intA,setT_nil,setT_cons,hx.cells,hx.flat,hx.bound,hy.cells,hy.flat,hy.bound,c72,↓boolP_bool,↓iteB_true,↓iteB_false]
   refine wp_drawX [([],[],false),([],[],false),([],[],false),([],[],false),([],[],false),([2],[],false),([],[],false),([],[],false)] (by kernel_rfl) (by kernel_rfl) ?_
   rw [show strs [] = [] from rfl] at hy3
   simp -implicitDefEqProofs only [go_sem,↓reduceIte,Int.reduceEq,Int.reduceLT,Int.reduceLE,List.reduceReplicate,intA,setT_nil,setT_cons,hx1,hy1,hx2.cells,hx2.flat,hx2.bound,hy2.cells,hy2.flat,hy2.bound,hlx,hly,c72b,w1,w2,hy3,c52,↓boolP_bool,↓iteB_true,↓iteB_false]
   rfl
  ·rw [← hP0]
   have hPpos : 0 < P.length := by rw [hP0];simp
   have c52 := fun X d => call52R he X P hPpos hPl cap 38 d
   have hsp : strs P ≠ [] := by rw [hP0];simp [strs]
   refine key (.vs 1 (strs P) none) (Or.inr ⟨_,rfl⟩) ?_
   unfold Ans
   rw [fn_step (fn_38 e) (show Try.f38.body = some _ from rfl)]
   simp -implicitDefEqProofs only [Try.f38,go_sem,↓reduceIte,Int.reduceEq,Int.reduceLT,Int.reduceLE,List.reduceReplicate,intA,setT_nil,setT_cons,hx.cells,hx.flat,hx.bound,hy.cells,hy.flat,hy.bound,c72,↓boolP_bool,↓iteB_true,↓iteB_false]
   refine wp_drawX [([],[],false),([],[],false),([],[],false),([],[],false),([],[],false),([2],[],false),([],[],false),([],[],false)] (by kernel_rfl) (by kernel_rfl) ?_
   simp -implicitDefEqProofs only [go_sem,↓reduceIte,Int.reduceEq,Int.reduceLT,Int.reduceLE,List.reduceReplicate,intA,setT_nil,setT_cons,hx1,hy1,hx2.cells,hx2.flat,hx2.bound,hy2.cells,hy2.flat,hy2.bound,hlx,hly,c72b,w1,w2,hy3,c52,rowO,bound_sl,↓boolP_bool,↓iteB_true,↓iteB_false]
   exact frzHunk rfl (by unfold Heap.row Heap.get;simp;rfl) (strs_len P).symm _ _
end Go.Ev
namespace Go.Ev
open Go.Proofs
attribute [local irreducible] Wp WpS
theorem cap22 : capA Try.prog [22] [.v (.slice none 0 0)] = some (.v (.int .i64 0)) := by kernel_rfl
theorem slLen_none : slLen (.v (.slice none 0 0)) = some (.v (.int .i64 0)) := rfl
theorem sliceN (H : Heap) : sliceA Try.prog H 22 (.v (.slice none 0 0)) none (some (.v (.int .i64 0))) none = some (.v (.slice none 0 0)) := by
 unfold sliceA
 simp only [und_22,und22s]
 rfl
theorem repStr : ∀ n : Nat,repeatCells [AV.v (.string ⟨#[]⟩)] n = strs (List.replicate n ⟨#[]⟩)
 | 0 => rfl
 | n + 1 => by
  show AV.v (.string ⟨#[]⟩) :: repeatCells [AV.v (.string ⟨#[]⟩)] n = _
  rw [repStr n];rfl
theorem grow22 (H : Heap) (slot n : Nat) (h0 : 0 < n) (hn : n < 100000) : appendA Try.prog H slot [22,3] [.v (.slice none 0 0),.v (.int .i64 n)] = some (.sl slot 0 0 n none,H.put slot (rowO (List.replicate n ⟨#[]⟩))) := by
 have hi : (Try.prog.info? 9).map (fun i => (i.size,i.bytes)) = some (1,16) := by kernel_rfl
 obtain ⟨i,hi1,hi2⟩ := Option.map_eq_some_iff.1 hi
 simp only [Prod.mk.injEq] at hi2
 obtain ⟨hs,hb⟩ := hi2
 have hu3 : Try.prog.underlying 3 = some (.int .i64) := by kernel_rfl
 have hint : isIntT Try.prog 3 = true := by kernel_rfl
 have hf : fitsA 16 n = true := by unfold fitsA;exact decide_eq_true (by omega)
 unfold appendA
 simp only [hint,if_true]
 unfold growA
 simp only [und_22,hu3,hi1,zero_9,hs,hb]
 rw [if_pos ⟨by omega,by omega,by omega,rfl,rfl⟩,Int.toNat_natCast]
 unfold madeA
 rw [hb,hf]
 show some (AV.sl slot 0 0 n none,H.put slot (.cells 0 (Nat.max (boundL []) (boundL (repeatCells [AV.v (.string ⟨#[]⟩)] n))) 9 i.size true ([] ++ repeatCells [AV.v (.string ⟨#[]⟩)] n))) = _
 rw [hs,List.nil_append,repStr,strs_bd]
 rfl
theorem sliceR {X : Heap} {N n : Nat} {l : List ByteArray} (hr : X.row N 0 = some (0,9,1,true,strs l)) (hn : 0 < n) : sliceA Try.prog X 22 (.sl N 0 0 n none) none (some (.v (.int .i64 0))) none = some (.sl N 0 0 0 none) := by
 have b1 : boundA (some (.v (.int .i64 0))) n n = some 0 := by
  unfold boundA
  simp only []
  rw [if_pos (by omega)];rfl
 have b2 : boundA none 0 0 = some 0 := rfl
 unfold sliceA
 simp only [und_22,und22s,b1,b2,hr]
 rw [if_neg (by simp),if_neg (by omega)]
 rfl
theorem fn100Z {e : Exts} (_he : Quiet e) {X : Heap} {N : Nat} (hN : X.size = N) : Fn' (Cx e) 62 [.v (.slice none 0 0),.v (.int .i64 0)] X (fun v Y => v = .v (.slice none 0 0) ∧ Y = X) := by
 rw [fn_step (fn_62 e) (show Try.f62.body = some _ from rfl)]
 simp -implicitDefEqProofs only [Try.f62,go_sem,↓reduceIte,Int.reduceEq,Int.reduceLT,Int.reduceLE,List.reduceReplicate,intA,setT_nil,setT_cons,hN,settle_eqN hN,cap22,slLen_none,Int.sub_zero,show IntKind.i64.wrap 0 = 0 from rfl,↓boolP_bool,↓iteB_true,↓iteB_false]
 exact ⟨rfl,rfl⟩
theorem fn100 {e : Exts} (_he : Quiet e) {X : Heap} {N : Nat} (hN : X.size = N) (n : Nat) (h0 : 0 < n) (hn : n < 100000) : Fn' (Cx e) 62 [.v (.slice none 0 0),.v (.int .i64 n)] X (fun v Y => v = .sl N 0 0 0 none ∧ Y = X.plus [some (rowO (List.replicate n ⟨#[]⟩))]) := by
 rw [fn_step (fn_62 e) (show Try.f62.body = some _ from rfl)]
 have h1 : ¬ (n : Int) < 0 := by omega
 have h2 : (n : Int) > 0 := by omega
 have w1 : IntKind.i64.wrap ((n : Int) - 0) = (n : Int) := by rw [Int.sub_zero,wrap_in _ (by omega) (by omega)]
 have hput : X.put N (rowO (List.replicate n ⟨#[]⟩)) = X.plus [some (rowO (List.replicate n ⟨#[]⟩))] := by rw [← hN];exact put_push _
 have hget : (X.plus [some (rowO (List.replicate n ⟨#[]⟩))]).get N = some (rowO (List.replicate n ⟨#[]⟩)) := by rw [← hput];exact put_get_eq _ (by omega)
 have hset := settle_live (Nat.le_refl N) hget
 have hgr := fun slot => grow22 X slot n h0 hn
 have hsl := sliceR (n := n) (get_row hget) h0
 rw [Int.sub_zero] at w1
 simp -implicitDefEqProofs only [Try.f62,go_sem,↓reduceIte,Int.reduceEq,Int.reduceLT,Int.reduceLE,List.reduceReplicate,intA,setT_nil,setT_cons,hN,settle_eqN hN,h1,h2,w1,cap22,slLen_none,sliceN,hgr,hput,hsl,hset,Int.sub_zero,show IntKind.i64.wrap 0 = 0 from rfl,decide_true,decide_false,↓boolP_bool,↓iteB_true,↓iteB_false]
 exact ⟨rfl,rfl⟩
theorem call100Z {e : Exts} (he : Quiet e) (X : Heap) (me : FuncId) (d : Option Tmp) : callA (Cx e) (lim (Cx e)) me 62 d [.v (.slice none 0 0),.v (.int .i64 0)] X = some (.v (.slice none 0 0),X) := by
 rw [call_kept (ext_62 he) (by unfold callKind;rfl) (fn100Z he rfl),trim_size]
theorem call100 {e : Exts} (he : Quiet e) (X : Heap) (n : Nat) (h0 : 0 < n) (hn : n < 100000) (me : FuncId) (d : Option Tmp) : callA (Cx e) (lim (Cx e)) me 62 d [.v (.slice none 0 0),.v (.int .i64 n)] X = some (.sl X.size 0 0 0 none,X.plus [some (rowO (List.replicate n ⟨#[]⟩))]) := by
 rw [call_kept (ext_62 he) (by unfold callKind;rfl) (fn100 he rfl n h0 hn),trim_up]
 rw [boundL_cons,bound_sl]
 exact Nat.lt_of_lt_of_le (Nat.lt_succ_self _) (Nat.le_max_left _ _)
end Go.Ev
namespace Go.Ev
open Go.Proofs
attribute [local irreducible] Wp WpS
def lens : List (List ByteArray) → Nat
 | [] => 0
 | p :: r => p.length + lens r
theorem lens_flat : ∀ ps : List (List ByteArray),ps.flatten.length = lens ps
 | [] => rfl
 | p :: r => by rw [List.flatten_cons,List.length_append,lens_flat r];rfl
theorem lens_app : ∀ a b : List (List ByteArray),lens (a ++ b) = lens a + lens b
 | [],b => by simp [lens]
 | p :: a,b => by
  show p.length + lens (a ++ b) = p.length + lens a + lens b
  rw [lens_app a b];omega
theorem take_next {α : Type} {l : List α} {j : Nat} {x : α} (h : l[j]? = some x) : l.take (j + 1) = l.take j ++ [x] := by
 rw [List.take_add_one,h];rfl
theorem lens_take (ps : List (List ByteArray)) (j : Nat) (p : List ByteArray) (h : ps[j]? = some p) : lens (ps.take (j + 1)) = lens (ps.take j) + p.length := by
 rw [take_next h,lens_app];simp [lens]
theorem lens_le (ps : List (List ByteArray)) (j : Nat) : lens (ps.take j) ≤ lens ps := by
 have := lens_app (ps.take j) (ps.drop j)
 rw [List.take_append_drop] at this;omega
theorem cells_SlOf {H : Heap} {p : List ByteArray} {y : AV} (h : SlOf 1 (strs p) y) : cellsFrom H 1 y = some (p.length,strs p) := by
 rcases h with ⟨rfl,hp⟩ | ⟨cap,rfl⟩
 ·have : p = [] := by cases p with
   | nil => rfl
   | cons a r => exact nomatch hp
  subst this;rfl
 ·rw [cells_vs',if_pos rfl,strs_len,strs_cells]
def oG (A : List ByteArray) (r : Nat) : AObj := .cells 0 0 9 1 true (strs (A ++ List.replicate r ⟨#[]⟩))
theorem oG0 (A : List ByteArray) : oG A 0 = rowO A := by unfold oG rowO;simp
section
variable {X : Heap} {N : Nat}
theorem size1 (hN : X.size = N) (o : Option AObj) : (X.plus [o]).size = N + 1 := sizeP hN _
theorem settle1 (hN : X.size = N) (o : Option AObj) : settleH (N + 1) (X.plus [o]) = X.plus [o] := settle_eqN (size1 hN o)
theorem settleS (hN : X.size = N) (o : AObj) : settleH N (X.plus [some o]) = X.plus [some o] := by rw [settleP0 hN];rfl
theorem trim1 (hN : X.size = N) (o : Option AObj) (vs : List AV) (ms : List Nat) : (X.plus [o]).trim (N + 1) vs ms = X.plus [o] := trim_eqN (size1 hN o) _ _
theorem appInX (hN : X.size = N) (hk : X.lock ≤ N) (A p : List ByteArray) (r slot : Nat) (hr : p.length ≤ r) : appTo 9 1 16 (X.plus [some (oG A r)]) slot p.length (strs p) (.sl N 0 0 A.length none) = some (.sl N 0 0 (A.length + p.length) none,X.plus [some (oG (A ++ p) (r - p.length))]) := by
 by_cases h0 : p.length = 0
 ·have : p = [] := List.length_eq_zero_iff.1 h0
  subst this
  rw [List.length_nil,appTo_none,List.append_nil];rfl
 ·have hrow : (X.plus [some (oG A r)]).row N 0 = some (0,9,1,true,strs (A ++ List.replicate r ⟨#[]⟩)) := by rw [rowP0 hN];rfl
  have hlen : (strs (A ++ List.replicate r (⟨#[]⟩ : ByteArray))).length = A.length + r := by rw [strs_len];simp
  have hst : storeCells (X.plus [some (oG A r)]) N 0 (0 + A.length * 1) (strs p) = some (X.plus [some (oG (A ++ p) (r - p.length))]) := by
   rw [storeP0 hN hk]
   show stP X [some (oG A r)] 0 0 (0 + A.length * 1) (strs p) (some (oG A r)) = _
   unfold oG
   rw [stP_cells,if_pos ⟨rfl,by rw [hlen,strs_len];omega,strs_flat p⟩,strs_bd]
   have hsp : splice (0 + A.length * 1) (strs p) (strs (A ++ List.replicate r (⟨#[]⟩ : ByteArray))) = strs (A ++ p ++ List.replicate (r - p.length) ⟨#[]⟩) := by
    unfold splice
    rw [show 0 + A.length * 1 = A.length by omega,strs_len,strs_take,strs_drop,List.take_left' rfl,← List.drop_drop,List.drop_left' rfl,List.drop_replicate]
    unfold strs
    rw [List.map_append,List.map_append]
   rw [hsp];rfl
  unfold appTo
  simp only [hrow]
  rw [if_neg h0,if_neg (by simp),if_pos (by rw [hlen];omega),hst]
end
theorem fn86 {e : Exts} (he : Quiet e) {X : Heap} {N : Nat} (hN : X.size = N) (hk : X.lock ≤ N) (ps : List (List ByteArray)) (hps : ps.length < 1000) (htot : lens ps < 100000) (xs : List AV) (hxl : xs.length = ps.length) (hxs : ∀ (j : Nat) (p : List ByteArray),ps[j]? = some p → ∃ y,xs[j]? = some y ∧ SlOf 1 (strs p) y) (x : AV) (hx : SlOf 1 xs x) (K : PostO) (hK0 : lens ps = 0 → AtO K (.v (.slice none 0 0)) X) (hK1 : 0 < lens ps → AtO K (.sl N 0 0 (lens ps) none) (X.plus [some (rowO ps.flatten)])) : Fn' (Cx e) 60 [x] X K := by
 have hlx := hx.len
 rw [hxl] at hlx
 rw [fn_step (fn_60 e) (show Try.f60.body = some _ from rfl)]
 simp -implicitDefEqProofs only [Try.f60,go_sem,↓reduceIte,Int.reduceEq,Int.reduceLT,Int.reduceLE,List.reduceReplicate,intA,setT_nil,setT_cons,hN,settle_eqN hN,trim_eqN hN,size1 hN,settle1 hN,settleS hN,trim1 hN,hx.cells,hx.flat,hx.bound,hlx,↓boolP_bool,↓iteB_true,↓iteB_false]
 refine Lp_ruleQ (P := fun μ a H => ∃ j,j + μ = ps.length ∧ a = ⟨36,[(0,x),(2,.v (.slice none 0 0)),(3,intA (lens (ps.take j) : Nat)),(9,x),(10,intA ps.length),(11,intA (j : Nat))],[]⟩ ∧ X = H) ?_ ps.length _ _ ⟨0,by omega,rfl,rfl⟩
 rintro Q KK hQ hKK μ _ _ ⟨j,hj,rfl,rfl⟩
 cases μ with
 | succ μ =>
  obtain ⟨p,hp⟩ := at_lt ps j (by omega)
  obtain ⟨y,hy1,hy2⟩ := hxs j p hp
  have hlt : (j : Int) < (ps.length : Int) := by omega
  have hix := hx.idx hy1
  have hly := hy2.len
  rw [strs_len] at hly
  have hw := wrap_succ j (by omega)
  have hle := lens_le ps j
  have hle2 := lens_le ps (j + 1)
  have hlt2 := lens_take ps j p hp
  have w1 : IntKind.i64.wrap (((lens (ps.take j) : Nat) : Int) + (p.length : Int)) = ((lens (ps.take (j + 1)) : Nat) : Int) := by rw [wrap_in _ (by omega) (by omega)];omega
  have hneg : ¬ ((lens (ps.take (j + 1)) : Nat) : Int) < 0 := by omega
  simp -implicitDefEqProofs only [go_sem,↓reduceIte,Int.reduceEq,Int.reduceLT,Int.reduceLE,List.reduceReplicate,intA,setT_nil,setT_cons,hN,settle_eqN hN,trim_eqN hN,size1 hN,settle1 hN,settleS hN,trim1 hN,hlt,hix,hy2.cells,hy2.flat,hly,w1,hneg,hw,hx.cells,hx.flat,hx.bound,↓boolP_bool,↓iteB_true,↓iteB_false]
  exact Again.mk' μ (by omega) (hQ _ _ _ ⟨j + 1,by omega,rfl,rfl⟩)
 | zero =>
  obtain rfl : j = ps.length := by omega
  have hlt : ¬ (ps.length : Int) < (ps.length : Int) := by omega
  rw [List.take_length]
  simp -implicitDefEqProofs only [go_sem,↓reduceIte,Int.reduceEq,Int.reduceLT,Int.reduceLE,List.reduceReplicate,intA,setT_nil,setT_cons,hN,settle_eqN hN,trim_eqN hN,size1 hN,settle1 hN,settleS hN,trim1 hN,hlt,↓boolP_bool,↓iteB_true,↓iteB_false]
  refine hKK _ _ _ ?_
  rcases Nat.eq_zero_or_pos (lens ps) with h0 | h0
  ·have c100 := fun X me d => call100Z he X me d
   have hz : ((lens ps : Nat) : Int) = 0 := by omega
   simp -implicitDefEqProofs only [go_sem,↓reduceIte,Int.reduceEq,Int.reduceLT,Int.reduceLE,List.reduceReplicate,intA,setT_nil,setT_cons,hN,settle_eqN hN,trim_eqN hN,size1 hN,settle1 hN,settleS hN,trim1 hN,hz,c100,hx.cells,hx.flat,hx.bound,hlx,↓boolP_bool,↓iteB_true,↓iteB_false]
   refine Lp_ruleQ (P := fun μ a H => ∃ j,j + μ = ps.length ∧ a = ⟨36,[(0,x),(2,.v (.slice none 0 0)),(3,intA 0),(9,x),(10,intA ps.length),(11,intA ps.length),(6,.v (.slice none 0 0)),(25,x),(26,intA ps.length),(27,intA (j : Nat))],[]⟩ ∧ X = H) ?_ ps.length _ _ ⟨0,by omega,rfl,rfl⟩
   rintro Q2 K2 hQ2 hK2 μ2 _ _ ⟨j,hj,rfl,rfl⟩
   cases μ2 with
   | zero =>
    obtain rfl : j = ps.length := by omega
    simp -implicitDefEqProofs only [go_sem,↓reduceIte,Int.reduceEq,Int.reduceLT,Int.reduceLE,List.reduceReplicate,intA,setT_nil,setT_cons,hN,settle_eqN hN,trim_eqN hN,size1 hN,settle1 hN,settleS hN,trim1 hN,hlt,↓boolP_bool,↓iteB_true,↓iteB_false]
    refine hK2 _ _ _ ?_
    simp -implicitDefEqProofs only [go_sem,↓reduceIte,Int.reduceEq,Int.reduceLT,Int.reduceLE,List.reduceReplicate,intA,setT_nil,setT_cons,hN,settle_eqN hN,trim_eqN hN,size1 hN,settle1 hN,settleS hN,trim1 hN,↓boolP_bool,↓iteB_true,↓iteB_false]
    exact hK0 h0
   | succ μ2 =>
    obtain ⟨p,hp⟩ := at_lt ps j (by omega)
    obtain ⟨y,hy1,hy2⟩ := hxs j p hp
    have hltj : (j : Int) < (ps.length : Int) := by omega
    have hix := hx.idx hy1
    have hw := wrap_succ j (by omega)
    have hp0 : p = [] := List.length_eq_zero_iff.1 (by
     have h1 := lens_take ps j p hp
     have h2 := lens_le ps (j + 1)
     omega)
    subst hp0
    have hcl := fun H => cells_SlOf (H := H) hy2
    simp only [List.length_nil,show strs [] = [] from rfl] at hcl
    simp -implicitDefEqProofs only [go_sem,↓reduceIte,Int.reduceEq,Int.reduceLT,Int.reduceLE,List.reduceReplicate,intA,setT_nil,setT_cons,hN,settle_eqN hN,trim_eqN hN,size1 hN,settle1 hN,settleS hN,trim1 hN,hltj,hix,hy2.cells,hy2.flat,hcl,hw,hx.cells,hx.flat,hx.bound,List.all_nil,↓boolP_bool,↓iteB_true,↓iteB_false]
    exact Again.mk' μ2 (by omega) (hQ2 _ _ _ ⟨j + 1,by omega,rfl,rfl⟩)
  ·have c100 := fun X me d => call100 he X (lens ps) h0 htot me d
   simp -implicitDefEqProofs only [go_sem,↓reduceIte,Int.reduceEq,Int.reduceLT,Int.reduceLE,List.reduceReplicate,intA,setT_nil,setT_cons,hN,settle_eqN hN,trim_eqN hN,size1 hN,settle1 hN,settleS hN,trim1 hN,c100,hx.cells,hx.flat,hx.bound,hlx,↓boolP_bool,↓iteB_true,↓iteB_false]
   refine Lp_ruleQ (P := fun μ a H => ∃ j,j + μ = ps.length ∧ a = ⟨36,[(0,x),(2,.v (.slice none 0 0)),(3,intA (lens ps)),(9,x),(10,intA ps.length),(11,intA ps.length),(6,.sl N 0 0 (lens (ps.take j)) none),(25,x),(26,intA ps.length),(27,intA (j : Nat))],[]⟩ ∧ H = X.plus [some (oG (ps.take j).flatten (lens ps - lens (ps.take j)))]) ?_ ps.length _ _ ⟨0,by omega,rfl,rfl⟩
   rintro Q2 K2 hQ2 hK2 μ2 _ _ ⟨j,hj,rfl,rfl⟩
   cases μ2 with
   | zero =>
    obtain rfl : j = ps.length := by omega
    rw [List.take_length,Nat.sub_self]
    rw [oG0]
    simp -implicitDefEqProofs only [go_sem,↓reduceIte,Int.reduceEq,Int.reduceLT,Int.reduceLE,List.reduceReplicate,intA,setT_nil,setT_cons,hN,settle_eqN hN,trim_eqN hN,size1 hN,settle1 hN,settleS hN,trim1 hN,hlt,↓boolP_bool,↓iteB_true,↓iteB_false]
    refine hK2 _ _ _ ?_
    simp -implicitDefEqProofs only [go_sem,↓reduceIte,Int.reduceEq,Int.reduceLT,Int.reduceLE,List.reduceReplicate,intA,setT_nil,setT_cons,hN,settle_eqN hN,trim_eqN hN,size1 hN,settle1 hN,settleS hN,trim1 hN,↓boolP_bool,↓iteB_true,↓iteB_false]
    exact hK1 h0
   | succ μ2 =>
    obtain ⟨p,hp⟩ := at_lt ps j (by omega)
    obtain ⟨y,hy1,hy2⟩ := hxs j p hp
    have hltj : (j : Int) < (ps.length : Int) := by omega
    have hix := hx.idx hy1
    have hw := wrap_succ j (by omega)
    have hcl := fun H => cells_SlOf (H := H) hy2
    have h1 := lens_take ps j p hp
    have h2 := lens_le ps (j + 1)
    have hA : (ps.take j).flatten.length = lens (ps.take j) := lens_flat _
    have hap := fun slot => appInX hN hk (ps.take j).flatten p (lens ps - lens (ps.take j)) slot (by omega)
    rw [hA] at hap
    have hB : oG ((ps.take j).flatten ++ p) (lens ps - lens (ps.take j) - p.length) = oG (ps.take (j + 1)).flatten (lens ps - lens (ps.take (j + 1))) := by
     rw [take_next hp,List.flatten_append,lens_app,show lens [p] = p.length by simp [lens]]
     congr 1
     ·simp
     ·omega
    rw [hB,← h1] at hap
    generalize oG (ps.take j).flatten (lens ps - lens (ps.take j)) = o1 at *
    simp -implicitDefEqProofs only [go_sem,↓reduceIte,Int.reduceEq,Int.reduceLT,Int.reduceLE,List.reduceReplicate,intA,setT_nil,setT_cons,hN,settle_eqN hN,trim_eqN hN,size1 hN,settle1 hN,settleS hN,trim1 hN,hltj,hix,hy2.cells,hy2.flat,hcl,strs_flat,hap,hw,hx.cells,hx.flat,hx.bound,↓boolP_bool,↓iteB_true,↓iteB_false]
    exact Again.mk' μ2 (by omega) (hQ2 _ _ _ ⟨j + 1,by omega,rfl,rfl⟩)
end Go.Ev
namespace Go.Ev
open Go.Proofs
attribute [local irreducible] Wp WpS
def Rw (n : Nat) (L : List ByteArray) (v : AV) (Y : Heap) : Prop := (L = [] ∧ SlOf 1 [] v) ∨ (0 < L.length ∧ ∃ b,n ≤ b ∧ v = .sl b 0 0 L.length none ∧ Y.get b = some (rowO L))
def LiveP (n k : Nat) (X : Heap) (L : List ByteArray) (v : AV) (Y : Heap) : Prop := Y.lock = X.lock ∧ k ≤ Y.size ∧ (∀ c,c < n → Y.get c = X.get c) ∧ Rw k L v Y
def Live {e : Exts} (f : FuncId) (args : List AV) (L : List ByteArray) : Prop := ∀ X : Heap,X.lock ≤ X.size → Fn' (Cx e) f args X (LiveP X.size X.size X L)
theorem get_lt {H : Heap} {b : Nat} {o : AObj} (h : H.get b = some o) : b < H.size := by
 unfold Heap.get at h
 by_cases hb : b < H.objs.length
 ·exact hb
 ·rw [List.getElem?_eq_none (by omega)] at h;exact nomatch h
theorem trim_lock (H : Heap) (n : Nat) (vs : List AV) (ms : List Nat) : (H.trim n vs ms).lock = H.lock := by unfold Heap.trim;split <;> rfl
theorem trim_ge (H : Heap) (n : Nat) (vs : List AV) (ms : List Nat) (h : n ≤ H.size) : n ≤ (H.trim n vs ms).size := by
 unfold Heap.trim
 split
 ·unfold Heap.size at h ⊢;rw [List.length_take];omega
 ·exact h
theorem trim_get (H : Heap) (n : Nat) (vs : List AV) (ms : List Nat) (c : Nat) (h : c < n) : (H.trim n vs ms).get c = H.get c := by
 unfold Heap.trim
 split
 ·unfold Heap.get;rw [List.getElem?_take_of_lt h]
 ·rfl
theorem LiveP.trim {X Y : Heap} {n : Nat} {L : List ByteArray} {v : AV} (h : LiveP n n X L v Y) : LiveP n n X L v (Y.trim n [v] []) := by
 obtain ⟨h1,h2,h3,h4⟩ := h
 refine ⟨(trim_lock ..).trans h1,trim_ge _ _ _ _ h2,fun c hc => (trim_get _ _ _ _ c hc).trans (h3 c hc), ?_⟩
 rcases h4 with h4 | ⟨h4,b,hb,rfl,hg⟩
 ·exact Or.inl h4
 ·refine Or.inr ⟨h4,b,hb,rfl, ?_⟩
  rw [trim_up (by rw [boundL_cons,bound_sl];exact Nat.lt_of_lt_of_le (Nat.lt_succ_of_le hb) (Nat.le_max_left _ _))]
  exact hg
theorem Live.call {e : Exts} {f : FuncId} {args : List AV} {L : List ByteArray} (h : Live (e := e) f args L) {me : FuncId} {d : Option Tmp} (hx : (Cx e).ext f = none) (hk : callKind (Cx e) me f d args = 0) (X : Heap) (hl : X.lock ≤ X.size) : ∃ v Y,LiveP X.size X.size X L v Y ∧ callA (Cx e) (lim (Cx e)) me f d args X = some (v,Y) := by
 have h := h X hl
 unfold Fn' at h
 rw [bindO_iff] at h
 obtain ⟨o,h1,h2⟩ := h
 cases o with
 | go => exact h2.elim
 | ret x Y =>
  refine ⟨x,Y.trim X.size [x] [],LiveP.trim h2, ?_⟩
  unfold callA standA standH
  rw [hx];simp only;rw [show (Cx e).exh f = none from rfl];simp only
  unfold callB
  rw [hk]
  simp only [h1]
theorem Rw.mono {n m : Nat} {L : List ByteArray} {v : AV} {Y : Heap} (h : Rw n L v Y) (hm : m ≤ n) : Rw m L v Y := by
 rcases h with h | ⟨h,b,hb,h2⟩
 ·exact Or.inl h
 ·exact Or.inr ⟨h,b,by omega,h2⟩
theorem LiveP.settle {X Y : Heap} {n m k : Nat} {L : List ByteArray} {v : AV} (h : LiveP n k X L v Y) (hn : n ≤ m) (hm : m ≤ k) : LiveP n m X L v (settleH m Y) := by
 obtain ⟨h1,h2,h3,h4⟩ := h
 have key : settleH m Y = Y ∨ ((∀ b o,m ≤ b → Y.get b = some o → False) ∧ settleH m Y = ⟨Y.objs.take m,Y.lock⟩) := by
  by_cases hz : (Y.objs.drop m).all Option.isNone = true
  ·refine Or.inr ⟨fun b o hb hg => ?_,by unfold settleH;rw [if_pos hz]⟩
   have hlt : b < Y.objs.length := get_lt hg
   have hmem : Y.objs[b]'hlt ∈ Y.objs.drop m := by
    rw [List.mem_drop_iff_getElem]
    exact ⟨b - m,by omega,by congr 1;omega⟩
   have h5 := List.all_eq_true.1 hz _ hmem
   unfold Heap.get at hg
   rw [List.getElem?_eq_getElem hlt] at hg
   have h6 : Y.objs[b]'hlt = some o := hg
   rw [h6] at h5;exact nomatch h5
  ·exact Or.inl (by unfold settleH;rw [if_neg hz])
 rcases key with hk | ⟨hno,hk⟩
 ·rw [hk];exact ⟨h1,by omega,h3,h4.mono hm⟩
 ·rw [hk]
  refine ⟨h1,by unfold Heap.size at *;rw [List.length_take];omega,fun c hc => ?_, ?_⟩
  ·rw [← h3 c hc];unfold Heap.get;rw [List.getElem?_take_of_lt (by omega)]
  ·rcases h4 with h4 | ⟨_,b,hb,_,hg⟩
   ·exact Or.inl h4
   ·exact (hno b _ (by omega) hg).elim
theorem LiveP.under {X : Heap} {E : List (Option AObj)} {Y : Heap} {n k : Nat} {L : List ByteArray} {v : AV} (h : LiveP n k (X.plus E) L v Y) (hn : X.size ≤ n) (hk : X.size ≤ k) : LiveP X.size X.size X L v Y := by
 obtain ⟨h1,h2,h3,h4⟩ := h
 exact ⟨h1,by omega,fun c hc => (h3 c (by omega)).trans (plus_get _ hc),h4.mono hk⟩
theorem effV_live {e : Exts} {f me : FuncId} {d : Option Tmp} {args : List AV} {L : List ByteArray} {base top : Nat} {G : Heap} {cont : AV → Heap → Prop} (h : Live (e := e) f args L) (hx : (Cx e).ext f = none) (hk : callKind (Cx e) me f d args = 0) (hb : base ≤ top) (ht : top = G.size) (hl : G.lock ≤ G.size)
  (hcont : ∀ v G',LiveP base top G L v G' → AtO cont v G') : effV (Cx e) me base top d (.fn (.func f) [] []) args G cont := by
 subst ht
 refine ⟨?_,fun Gh h1 h2 h3 => ?_⟩
 ·show (((Cx e).ext f).isNone && (Nat.beq (callKind (Cx e) me f d ([] ++ args ++ [])) 0)) = true
  rw [hx,List.nil_append,List.append_nil,hk];rfl
 ·obtain ⟨v,Y,⟨y1,y2,y3,y4⟩,hc⟩ := h.call (me := me) (d := d) hx hk Gh (by rw [h1,h2];exact hl)
  rw [h2] at y2 y3 y4
  refine ⟨v,Y, ?_,y2,fun G' g1 g2 g3 g4 => hcont v G' ⟨g1,by rw [g2];exact y2,fun c hc => ?_, ?_⟩⟩
  ·show callA (Cx e) (lim (Cx e)) me f d ([] ++ args ++ []) Gh = _
   rw [List.nil_append,List.append_nil];exact hc
  ·rw [g3 c (Or.inl hc),y3 c (by omega),h3 c (Or.inl hc)]
  ·rcases y4 with y4 | ⟨y4,b,hb,rfl,hg⟩
   ·exact Or.inl y4
   ·exact Or.inr ⟨y4,b,hb,rfl,by rw [g3 b (Or.inr hb)];exact hg⟩
theorem live86 {e : Exts} (he : Quiet e) (ps : List (List ByteArray)) (hps : ps.length < 1000) (htot : lens ps < 100000) (xs : List AV) (hxl : xs.length = ps.length) (hxs : ∀ (j : Nat) (p : List ByteArray),ps[j]? = some p → ∃ y,xs[j]? = some y ∧ SlOf 1 (strs p) y) (x : AV) (hx : SlOf 1 xs x) : Live (e := e) 60 [x] ps.flatten := by
 intro X hl
 refine fn86 he rfl hl ps hps htot xs hxl hxs x hx _ (fun h0 => ?_) (fun h0 => ?_)
 ·exact ⟨rfl,Nat.le_refl _,fun _ _ => rfl,Or.inl ⟨List.length_eq_zero_iff.1 (by rw [lens_flat];exact h0),Or.inl ⟨rfl,rfl⟩⟩⟩
 ·refine ⟨rfl,by rw [size1 rfl];omega,fun c hc => plus_get _ hc,Or.inr ⟨by rw [lens_flat];exact h0,X.size,Nat.le_refl _,by rw [lens_flat], ?_⟩⟩
  rw [plus_get_hi _ (Nat.le_refl _),Nat.sub_self];rfl
end Go.Ev
namespace Go.Ev
open Go.Proofs
attribute [local irreducible] Wp WpS
def chL (l : List ByteArray) (h : Hnk) : List ByteArray := l.take h.1 ++ (h.2.2 ++ l.drop (h.1 + h.2.1))
theorem live71 {e : Exts} (he : Quiet e) (l : List ByteArray) (h : Hnk) (hl : l.length < 30000) (hp : h.2.2.length < 30000) (hh : h.1 + h.2.1 ≤ l.length) (x y : AV) (hx : SlOf 1 (strs l) x) (hy : HunkA h y) : Live (e := e) 53 [x,y] (chL l h) := by
 obtain ⟨a,d,P⟩ := h
 obtain ⟨p,rfl,hp2⟩ := hy
 simp only at hp hh hp2 ⊢
 obtain ⟨x1,hx1,hx2⟩ := slice22Ih hx a (by rw [strs_len];omega)
 obtain ⟨x3,hx3,hx4⟩ := slice22I hx (a + d) (by rw [strs_len];omega)
 rw [strs_take] at hx2
 rw [strs_drop] at hx4
 have w1 : IntKind.i64.wrap ((a : Int) + (d : Int)) = ((a + d : Nat) : Int) := by rw [wrap_in _ (by omega) (by omega)];omega
 have hlv := live86 he [l.take a,P,l.drop (a + d)] (by simp) (by simp [lens];omega) [x1,p,x3] rfl (by
  intro j q hq
  match j,hq with
  | 0,hq => obtain rfl : l.take a = q := by simpa using hq
            exact ⟨_,rfl,hx2⟩
  | 1,hq => obtain rfl : P = q := by simpa using hq
            exact ⟨_,rfl,hp2⟩
  | 2,hq => obtain rfl : l.drop (a + d) = q := by simpa using hq
            exact ⟨_,rfl,hx4⟩
  | j + 3,hq => exact nomatch hq) _ (Or.inr ⟨some 3,rfl⟩)
 rw [show [l.take a,P,l.drop (a + d)].flatten = chL l (a,d,P) by unfold chL;simp] at hlv
 intro X hlk
 rw [fn_step (fn_53 e) (show Try.f53.body = some _ from rfl)]
 obtain ⟨N,hN⟩ : ∃ N,N = X.size := ⟨_,rfl⟩
 have hN := hN.symm
 have hput : ∀ o,X.put N o = X.plus [some o] := fun o => by rw [← hN];exact put_push _
 have hlt0 : ltB N (N + 1) = true := by unfold ltB;exact decide_eq_true (by omega)
 simp -implicitDefEqProofs only [Try.f53,go_sem,↓reduceIte,Int.reduceEq,Int.reduceLT,Int.reduceLE,List.reduceReplicate,intA,setT_nil,setT_cons,hN,hput,settleS hN,settle_eqN hN,trim_eqN hN,hx.cells,hx.flat,hx.bound,hp2.cells,hp2.flat,hp2.bound,↓boolP_bool,↓iteB_true,↓iteB_false]
 refine wp_drawX [([],[],false),([],[],false),([],[],false),([],[],false),([],[],false),([2,3],[],false),([],[],false),([],[],false),([2,3,5],[],false),([],[],false),([2,3,5,8],[],false),([],[],false),([2,3,5],[],false),([],[],false),([],[13],true),([],[],false)] (by kernel_rfl) (by kernel_rfl) ?_
 simp -implicitDefEqProofs only [go_sem,↓reduceIte,Int.reduceEq,Int.reduceLT,Int.reduceLE,List.reduceReplicate,intA,setT_nil,setT_cons,sizeP hN,rowP0 hN,hlt0,List.isEmpty_nil,hx1,hx3,w1,hx2.cells,hx2.flat,hx2.bound,hx4.cells,hx4.flat,hx4.bound,hx.cells,hx.flat,hx.bound,hp2.cells,hp2.flat,hp2.bound,↓boolP_bool,↓iteB_true,↓iteB_false]
 refine effV_live hlv (ext_60 he) rfl (by omega) (by rw [sizeP hN];simp only [List.length_cons,List.length_nil]) (by rw [sizeP hN,plus_lock];simp only [List.length_cons,List.length_nil];omega) fun v G' hG => ?_
 have hfin : LiveP N N X (chL l (a,d,P)) v (settleH (N + 1) G') := by
  have h1 := hG.settle (m := N + 1) (Nat.le_refl _) (by omega)
  have h2 := h1.under (by rw [hN];omega) (by rw [hN];omega)
  rw [hN] at h2;exact h2
 simp -implicitDefEqProofs only [go_sem,↓reduceIte,Int.reduceEq,Int.reduceLT,Int.reduceLE,List.reduceReplicate,intA,setT_nil,setT_cons,hfin,hx.cells,hx.flat,hx.bound,hp2.cells,hp2.flat,hp2.bound,↓boolP_bool,↓iteB_true,↓iteB_false]
 exact hfin
end Go.Ev
namespace Go.Ev
open Go.Proofs
attribute [local irreducible] Wp WpS
theorem SlOf.frz {sz : Nat} {xs : List AV} {x : AV} (h : SlOf sz xs x) (H : Heap) : freezeV H 1000000 x = some x := by
 rcases h with ⟨rfl, -⟩ | ⟨cap,rfl⟩
 ·exact freeze_v _ _
 ·exact freeze_vs _ _ _ _
theorem rw_frz {n : Nat} {L : List ByteArray} {v : AV} {Y : Heap} (h : Rw n L v Y) : ∃ u,SlOf 1 (strs L) u ∧ freezeV { Y with lock := 0 } 1000000 v = some u := by
 rcases h with ⟨rfl,h⟩ | ⟨h0,b, -,rfl,hg⟩
 ·exact ⟨v,h,h.frz _⟩
 ·refine ⟨_,Or.inr ⟨none,rfl⟩,frzRow (H := { Y with lock := 0 }) (e := 9) rfl (get_row (H := { Y with lock := 0 }) hg) (strs_len L).symm 999999⟩
theorem Live.ans {e : Exts} {f : FuncId} {args : List AV} {L : List ByteArray} (h : Live (e := e) f args L) : ∃ u,SlOf 1 (strs L) u ∧ Ans (Cx e) f args u := by
 have h := h ⟨[],0⟩ (Nat.le_refl _)
 unfold Fn' at h
 rw [bindO_iff] at h
 obtain ⟨o,h1,h2⟩ := h
 cases o with
 | go => exact h2.elim
 | ret x Y =>
  obtain ⟨-, -, -,hr⟩ := h2
  obtain ⟨u,hu,hf⟩ := rw_frz hr
  refine ⟨u,hu, ?_⟩
  unfold Ans Fn'
  rw [bindO_iff]
  exact ⟨_,h1,hf⟩
theorem ans71 {e : Exts} (he : Quiet e) (l : List ByteArray) (h : Hnk) (hl : l.length < 30000) (hp : h.2.2.length < 30000) (hh : h.1 + h.2.1 ≤ l.length) (x y : AV) (hx : SlOf 1 (strs l) x) (hy : HunkA h y) : ∃ v,SlOf 1 (strs (chL l h)) v ∧ Ans (Cx e) 53 [x,y] v := (live71 he l h hl hp hh x y hx hy).ans
end Go.Ev
namespace Go.Ev
open Go.Proofs
attribute [local irreducible] Wp WpS
def mrgA (l : List ByteArray) (a b : Hnk) : List ByteArray × Nat :=
 if b.1 ≤ a.1 + a.2.1 then ([],113) else if 200 < (chL (chL l b) a).length then ([],110) else (chL (chL l b) a,0)
def mrgL (l : List ByteArray) (a b : Hnk) : List ByteArray × Nat := if b.1 < a.1 then mrgA l b a else mrgA l a b
def HunkOk (l : List ByteArray) (h : Hnk) : Prop := h.1 + h.2.1 ≤ l.length ∧ h.2.2.length ≤ 200
theorem chL_len (l : List ByteArray) (h : Hnk) (hh : h.1 + h.2.1 ≤ l.length) : (chL l h).length = l.length - h.2.1 + h.2.2.length := by
 unfold chL
 rw [List.length_append,List.length_append,List.length_take,List.length_drop]
 omega
theorem bound_hnk (p : AV) (hp : bound p = 0) {x y : Value} : bound (.agg [.v x,.v y,p]) = 0 := by
 show boundL [.v x,.v y,p] = 0
 simp only [boundL_cons,boundL_nil,hp];rfl
def LiveT (L : List ByteArray) (n : Nat) : PostO := fun v Y => Y.lock = 0 ∧ ∃ u,v = .tup [u,.v (.int .i64 n)] ∧ Rw 0 L u Y
theorem liveT_nil (n : Nat) (Y : Heap) (hk : Y.lock = 0) : AtO (LiveT [] n) (.tup [.v (.slice none 0 0),.v (.int .i64 n)]) Y := ⟨hk,_,rfl,Or.inl ⟨rfl,Or.inl ⟨rfl,rfl⟩⟩⟩
theorem fn53T {e : Exts} (he : Quiet e) (l : List ByteArray) (h k : Hnk) (hl : l.length ≤ 200) (hh : HunkOk l h) (hk : HunkOk l k) (x y z : AV) (hx : SlOf 1 (strs l) x) (hy : HunkA h y) (hz : HunkA k z) : Fn' (Cx e) 37 [x,y,z] ⟨[],0⟩ (LiveT (mrgL l h k).1 (mrgL l h k).2) := by
 have hy0 := hy
 have hz0 := hz
 obtain ⟨a,d,P⟩ := h
 obtain ⟨b,f,Q⟩ := k
 obtain ⟨p,rfl,hp⟩ := hy
 obtain ⟨q,rfl,hq⟩ := hz
 obtain ⟨hh1,hh2⟩ := hh
 obtain ⟨hk1,hk2⟩ := hk
 simp only at hp hq hh1 hh2 hk1 hk2 ⊢
 rw [fn_step (fn_37 e) (show Try.f37.body = some _ from rfl)]
 by_cases hlt : b < a
 ·have hlt' : (b : Int) < (a : Int) := by omega
  have w1 : IntKind.i64.wrap ((b : Int) + (f : Int)) = ((b + f : Nat) : Int) := by rw [wrap_in _ (by omega) (by omega)];omega
  have hm : mrgL l (a,d,P) (b,f,Q) = mrgA l (b,f,Q) (a,d,P) := if_pos hlt
  rw [hm]
  unfold mrgA
  by_cases hge : a ≤ b + f
  ·have hge' : (a : Int) ≤ ((b + f : Nat) : Int) := by omega
   rw [if_pos hge]
   simp -implicitDefEqProofs only [Try.f37,go_sem,↓reduceIte,Int.reduceEq,Int.reduceLT,Int.reduceLE,List.reduceReplicate,intA,setT_nil,setT_cons,hlt',w1,hge',hx.cells,hx.flat,hx.bound,hp.cells,hp.flat,hp.bound,hq.cells,hq.flat,hq.bound,↓boolP_bool,↓iteB_true,↓iteB_false]
   exact liveT_nil 113 _ rfl
  ·have hge' : ¬ (a : Int) ≤ ((b + f : Nat) : Int) := by omega
   rw [if_neg hge]
   have hc1 := chL_len l (a,d,P) hh1
   simp only at hc1
   obtain ⟨v1,hv1,ha1⟩ := ans71 he l (a,d,P) (by omega) (by simp only;omega) hh1 x _ hx hy0
   have hlv := live71 he (chL l (a,d,P)) (b,f,Q) (by omega) (by simp only;omega) (by simp only;omega) v1 _ hv1 hz0
   have c1 := fun dd (hd : (Cx e).pure 37 53 dd = true) => ha1.callI (me := 37) (d := dd) (ext_53 he) hd (by simp only [boundL_cons,hx.bound,boundL_nil,bound_hnk p hp.bound];rfl)
   have c1 := c1 (some 26) rfl
   generalize chL (chL l (a,d,P)) (b,f,Q) = L at *
   simp -implicitDefEqProofs only [Try.f37,go_sem,↓reduceIte,Int.reduceEq,Int.reduceLT,Int.reduceLE,List.reduceReplicate,intA,setT_nil,setT_cons,hlt',w1,hge',hx.cells,hx.flat,hx.bound,hp.cells,hp.flat,hp.bound,hq.cells,hq.flat,hq.bound,↓boolP_bool,↓iteB_true,↓iteB_false]
   refine wp_drawX [([],[],false),([],[],false),([],[],false),([1,2],[],false),([],[],true),([],[],false)] (by kernel_rfl) (by kernel_rfl) ?_
   simp -implicitDefEqProofs only [go_sem,↓reduceIte,Int.reduceEq,Int.reduceLT,Int.reduceLE,List.reduceReplicate,intA,setT_nil,setT_cons,c1,List.isEmpty_nil,hv1.cells,hv1.flat,hv1.bound,hx.cells,hx.flat,hx.bound,hp.cells,hp.flat,hp.bound,hq.cells,hq.flat,hq.bound,↓boolP_bool,↓iteB_true,↓iteB_false]
   refine effV_live hlv (ext_53 he) rfl (by omega) rfl (Nat.zero_le _) fun v G' hG => ?_
   have hS := hG.settle (m := 2) (Nat.le_refl _) (by omega)
   generalize hYe : settleH 2 G' = Y at hS
   obtain ⟨hYl, -, -,hYr⟩ := hS
   obtain ⟨N,hN⟩ : ∃ N,Y.size = N := ⟨_,rfl⟩
   rcases hYr with ⟨hL0,hv0⟩ | ⟨hL0,bb,hbb,rfl,hg⟩
   ·have hlv0 := hv0.len
    rw [hL0,if_neg (by decide)]
    simp -implicitDefEqProofs only [go_sem,↓reduceIte,Int.reduceEq,Int.reduceLT,Int.reduceLE,List.reduceReplicate,intA,setT_nil,setT_cons,hYe,hN,settle_eqN hN,trim_eqN hN,hlv0,hv0.cells,hv0.flat,hv0.bound,List.length_nil,show ¬ (((0 : Nat) : Int) > 200) by decide,hx.cells,hx.flat,hx.bound,hp.cells,hp.flat,hp.bound,hq.cells,hq.flat,hq.bound,↓boolP_bool,↓iteB_true,↓iteB_false]
    exact ⟨hYl,_,rfl,Or.inl ⟨rfl,hv0⟩⟩
   ·have hsl : slLen (.sl bb 0 0 L.length none) = some (.v (.int .i64 (L.length : Nat))) := rfl
    by_cases hbig : 200 < L.length
    ·have hbig' : (200 : Int) < (L.length : Int) := by omega
     rw [if_pos hbig]
     simp -implicitDefEqProofs only [go_sem,↓reduceIte,Int.reduceEq,Int.reduceLT,Int.reduceLE,List.reduceReplicate,intA,setT_nil,setT_cons,hYe,hN,settle_eqN hN,trim_eqN hN,hsl,hbig',decide_true,decide_false,hx.cells,hx.flat,hx.bound,hp.cells,hp.flat,hp.bound,hq.cells,hq.flat,hq.bound,↓boolP_bool,↓iteB_true,↓iteB_false]
     exact liveT_nil 110 _ hYl
    ·have hbig' : ¬ (200 : Int) < (L.length : Int) := by omega
     rw [if_neg hbig]
     simp -implicitDefEqProofs only [go_sem,↓reduceIte,Int.reduceEq,Int.reduceLT,Int.reduceLE,List.reduceReplicate,intA,setT_nil,setT_cons,hYe,hN,settle_eqN hN,trim_eqN hN,hsl,hbig',decide_true,decide_false,hx.cells,hx.flat,hx.bound,hp.cells,hp.flat,hp.bound,hq.cells,hq.flat,hq.bound,↓boolP_bool,↓iteB_true,↓iteB_false]
     exact ⟨hYl,_,rfl,Or.inr ⟨hL0,bb,Nat.zero_le _,rfl,hg⟩⟩
 ·have hlt' : ¬ (b : Int) < (a : Int) := by omega
  have w1 : IntKind.i64.wrap ((a : Int) + (d : Int)) = ((a + d : Nat) : Int) := by rw [wrap_in _ (by omega) (by omega)];omega
  have hm : mrgL l (a,d,P) (b,f,Q) = mrgA l (a,d,P) (b,f,Q) := if_neg hlt
  rw [hm]
  unfold mrgA
  by_cases hge : b ≤ a + d
  ·have hge' : (b : Int) ≤ ((a + d : Nat) : Int) := by omega
   rw [if_pos hge]
   simp -implicitDefEqProofs only [Try.f37,go_sem,↓reduceIte,Int.reduceEq,Int.reduceLT,Int.reduceLE,List.reduceReplicate,intA,setT_nil,setT_cons,hlt',w1,hge',hx.cells,hx.flat,hx.bound,hp.cells,hp.flat,hp.bound,hq.cells,hq.flat,hq.bound,↓boolP_bool,↓iteB_true,↓iteB_false]
   exact liveT_nil 113 _ rfl
  ·have hge' : ¬ (b : Int) ≤ ((a + d : Nat) : Int) := by omega
   rw [if_neg hge]
   have hc1 := chL_len l (b,f,Q) hk1
   simp only at hc1
   obtain ⟨v1,hv1,ha1⟩ := ans71 he l (b,f,Q) (by omega) (by simp only;omega) hk1 x _ hx hz0
   have hlv := live71 he (chL l (b,f,Q)) (a,d,P) (by omega) (by simp only;omega) (by simp only;omega) v1 _ hv1 hy0
   have c1 := fun dd (hd : (Cx e).pure 37 53 dd = true) => ha1.callI (me := 37) (d := dd) (ext_53 he) hd (by simp only [boundL_cons,hx.bound,boundL_nil,bound_hnk q hq.bound];rfl)
   have c1 := c1 (some 26) rfl
   generalize chL (chL l (b,f,Q)) (a,d,P) = L at *
   simp -implicitDefEqProofs only [Try.f37,go_sem,↓reduceIte,Int.reduceEq,Int.reduceLT,Int.reduceLE,List.reduceReplicate,intA,setT_nil,setT_cons,hlt',w1,hge',hx.cells,hx.flat,hx.bound,hp.cells,hp.flat,hp.bound,hq.cells,hq.flat,hq.bound,↓boolP_bool,↓iteB_true,↓iteB_false]
   refine wp_drawX [([],[],false),([],[],false),([],[],false),([1,2],[],false),([],[],true),([],[],false)] (by kernel_rfl) (by kernel_rfl) ?_
   simp -implicitDefEqProofs only [go_sem,↓reduceIte,Int.reduceEq,Int.reduceLT,Int.reduceLE,List.reduceReplicate,intA,setT_nil,setT_cons,c1,List.isEmpty_nil,hv1.cells,hv1.flat,hv1.bound,hx.cells,hx.flat,hx.bound,hp.cells,hp.flat,hp.bound,hq.cells,hq.flat,hq.bound,↓boolP_bool,↓iteB_true,↓iteB_false]
   refine effV_live hlv (ext_53 he) rfl (by omega) rfl (Nat.zero_le _) fun v G' hG => ?_
   have hS := hG.settle (m := 2) (Nat.le_refl _) (by omega)
   generalize hYe : settleH 2 G' = Y at hS
   obtain ⟨hYl, -, -,hYr⟩ := hS
   obtain ⟨N,hN⟩ : ∃ N,Y.size = N := ⟨_,rfl⟩
   rcases hYr with ⟨hL0,hv0⟩ | ⟨hL0,bb,hbb,rfl,hg⟩
   ·have hlv0 := hv0.len
    rw [hL0,if_neg (by decide)]
    simp -implicitDefEqProofs only [go_sem,↓reduceIte,Int.reduceEq,Int.reduceLT,Int.reduceLE,List.reduceReplicate,intA,setT_nil,setT_cons,hYe,hN,settle_eqN hN,trim_eqN hN,hlv0,hv0.cells,hv0.flat,hv0.bound,List.length_nil,show ¬ (((0 : Nat) : Int) > 200) by decide,hx.cells,hx.flat,hx.bound,hp.cells,hp.flat,hp.bound,hq.cells,hq.flat,hq.bound,↓boolP_bool,↓iteB_true,↓iteB_false]
    exact ⟨hYl,_,rfl,Or.inl ⟨rfl,hv0⟩⟩
   ·have hsl : slLen (.sl bb 0 0 L.length none) = some (.v (.int .i64 (L.length : Nat))) := rfl
    by_cases hbig : 200 < L.length
    ·have hbig' : (200 : Int) < (L.length : Int) := by omega
     rw [if_pos hbig]
     simp -implicitDefEqProofs only [go_sem,↓reduceIte,Int.reduceEq,Int.reduceLT,Int.reduceLE,List.reduceReplicate,intA,setT_nil,setT_cons,hYe,hN,settle_eqN hN,trim_eqN hN,hsl,hbig',decide_true,decide_false,hx.cells,hx.flat,hx.bound,hp.cells,hp.flat,hp.bound,hq.cells,hq.flat,hq.bound,↓boolP_bool,↓iteB_true,↓iteB_false]
     exact liveT_nil 110 _ hYl
    ·have hbig' : ¬ (200 : Int) < (L.length : Int) := by omega
     rw [if_neg hbig]
     simp -implicitDefEqProofs only [go_sem,↓reduceIte,Int.reduceEq,Int.reduceLT,Int.reduceLE,List.reduceReplicate,intA,setT_nil,setT_cons,hYe,hN,settle_eqN hN,trim_eqN hN,hsl,hbig',decide_true,decide_false,hx.cells,hx.flat,hx.bound,hp.cells,hp.flat,hp.bound,hq.cells,hq.flat,hq.bound,↓boolP_bool,↓iteB_true,↓iteB_false]
     exact ⟨hYl,_,rfl,Or.inr ⟨hL0,bb,Nat.zero_le _,rfl,hg⟩⟩
end Go.Ev
namespace Go.Ev
open Go.Proofs
attribute [local irreducible] Wp WpS
def mergeL (o a b : List ByteArray) : List ByteArray × Nat :=
 if rowsB o = true ∧ rowsB a = true ∧ rowsB b = true then
  if a = o ∨ a = b then (b,0) else if b = o then (a,0) else mrgL o (hunkL o a) (hunkL o b)
 else ([],110)
theorem hunkL_ok (o a : List ByteArray) (ha : a.length ≤ 200) : HunkOk o (hunkL o a) := by
 obtain ⟨k1,k2⟩ := comN_le o a
 unfold HunkOk hunkL
 simp only [List.length_take,List.length_drop]
 omega
theorem sl3 {l : List ByteArray} {z : AV} (hz : SlOf 1 (strs l) z) : (l = [] ∧ z = .v (.slice none 0 0)) ∨ (l = [] ∧ ∃ cap,z = .vs 1 [] cap) ∨ (0 < l.length ∧ ∃ cap,z = .vs 1 (strs l) cap) := by
 rcases hz with ⟨rfl,hn⟩ | ⟨cap,rfl⟩
 ·refine Or.inl ⟨?_,rfl⟩
  cases l with
  | nil => rfl
  | cons a r => exact nomatch hn
 ·cases l with
  | nil => exact Or.inr (Or.inl ⟨rfl,cap,rfl⟩)
  | cons a r => exact Or.inr (Or.inr ⟨Nat.succ_pos _,cap,rfl⟩)
theorem settle_lock (n : Nat) (H : Heap) : (settleH n H).lock = H.lock := by unfold settleH;split <;> rfl
theorem liveT_call {e : Exts} {f : FuncId} {args : List AV} {L : List ByteArray} {n : Nat} (h : Fn' (Cx e) f args ⟨[],0⟩ (LiveT L n)) {me : FuncId} {d : Option Tmp} (hx : (Cx e).ext f = none) (hk : callKind (Cx e) me f d args = 0) : ∃ u Y,callA (Cx e) (lim (Cx e)) me f d args ⟨[],0⟩ = some (.tup [u,.v (.int .i64 n)],Y) ∧ (settleH 0 Y).lock = 0 ∧ Rw 0 L u (settleH 0 Y) := by
 unfold Fn' at h
 rw [bindO_iff] at h
 obtain ⟨o,h1,h2⟩ := h
 cases o with
 | go => exact h2.elim
 | ret x Y =>
  obtain ⟨hl,u,rfl,hr⟩ := h2
  refine ⟨u,Y.trim 0 [.tup [u,.v (.int .i64 n)]] [], ?_,by rw [settle_lock,trim_lock];exact hl, ?_⟩
  ·unfold callA standA standH
   rw [hx];simp only;rw [show (Cx e).exh f = none from rfl];simp only
   unfold callB
   rw [hk]
   simp only [h1]
   rfl
  ·rcases hr with hr | ⟨h0,b,hb,rfl,hg⟩
   ·exact Or.inl hr
   ·refine Or.inr ⟨h0,b,hb,rfl, ?_⟩
    have ht : Y.trim 0 [.tup [.sl b 0 0 L.length none,.v (.int .i64 n)]] [] = Y := trim_up (by
     rw [boundL_cons,bound_tup,boundL_cons,bound_sl]
     exact Nat.lt_of_lt_of_le (Nat.lt_of_lt_of_le (Nat.succ_pos b) (Nat.le_max_left _ _)) (Nat.le_max_left _ _))
    rw [ht,settle_live (Nat.zero_le b) hg]
    exact hg
theorem fn18T {e : Exts} (he : Quiet e) (o a b : List ByteArray) (ho : FitsR o) (ha : FitsR a) (hb : FitsR b) (x y z : AV) (hx : SlOf 1 (strs o) x) (hy : SlOf 1 (strs a) y) (hz : SlOf 1 (strs b) z) : Fn' (Cx e) 14 [x,y,z] ⟨[],0⟩ (LiveT (mergeL o a b).1 (mergeL o a b).2) := by
 have c50x := fun me d H => call50 he o ho x hx me d H
 have c50y := fun me d H => call50 he a ha y hy me d H
 have c50z := fun me d H => call50 he b hb z hz me d H
 unfold mergeL
 have bad : rowsB o = false ∨ (rowsB o = true ∧ rowsB a = false) ∨ (rowsB o = true ∧ rowsB a = true ∧ rowsB b = false) ∨ (rowsB o = true ∧ rowsB a = true ∧ rowsB b = true) := by
  cases rowsB o <;> cases rowsB a <;> cases rowsB b <;> simp
 rcases bad with h1 | ⟨h1,h2⟩ | ⟨h1,h2,h3⟩ | ⟨h1,h2,h3⟩
 ·rw [h1] at c50x
  rw [if_neg (by simp [h1])]
  rw [fn_step (fn_14 e) (show Try.f14.body = some _ from rfl)]
  simp -implicitDefEqProofs only [Try.f14,go_sem,↓reduceIte,Int.reduceEq,Int.reduceLT,Int.reduceLE,List.reduceReplicate,intA,setT_nil,setT_cons,c50x,c50y,c50z,hx.cells,hx.flat,hx.bound,hy.cells,hy.flat,hy.bound,hz.cells,hz.flat,hz.bound,Bool.not_false,Bool.not_true,↓boolP_bool,↓iteB_true,↓iteB_false]
  exact liveT_nil 110 _ rfl
 ·rw [h1] at c50x
  rw [h2] at c50y
  rw [if_neg (by simp [h2])]
  rw [fn_step (fn_14 e) (show Try.f14.body = some _ from rfl)]
  simp -implicitDefEqProofs only [Try.f14,go_sem,↓reduceIte,Int.reduceEq,Int.reduceLT,Int.reduceLE,List.reduceReplicate,intA,setT_nil,setT_cons,c50x,c50y,c50z,hx.cells,hx.flat,hx.bound,hy.cells,hy.flat,hy.bound,hz.cells,hz.flat,hz.bound,Bool.not_false,Bool.not_true,↓boolP_bool,↓iteB_true,↓iteB_false]
  exact liveT_nil 110 _ rfl
 ·rw [h1] at c50x
  rw [h2] at c50y
  rw [h3] at c50z
  rw [if_neg (by simp [h3])]
  rw [fn_step (fn_14 e) (show Try.f14.body = some _ from rfl)]
  simp -implicitDefEqProofs only [Try.f14,go_sem,↓reduceIte,Int.reduceEq,Int.reduceLT,Int.reduceLE,List.reduceReplicate,intA,setT_nil,setT_cons,c50x,c50y,c50z,hx.cells,hx.flat,hx.bound,hy.cells,hy.flat,hy.bound,hz.cells,hz.flat,hz.bound,Bool.not_false,Bool.not_true,↓boolP_bool,↓iteB_true,↓iteB_false]
  exact liveT_nil 110 _ rfl
 ·rw [h1] at c50x
  rw [h2] at c50y
  rw [h3] at c50z
  rw [if_pos ⟨h1,h2,h3⟩]
  obtain ⟨lo, -⟩ := rows_of h1
  obtain ⟨la, -⟩ := rows_of h2
  obtain ⟨lb, -⟩ := rows_of h3
  have cao := fun me d H => call51 he a o (by omega) y x hy hx me d H
  have cab := fun me d H => call51 he a b (by omega) y z hy hz me d H
  have cbo := fun me d H => call51 he b o (by omega) z x hz hx me d H
  by_cases e1 : a = o
  ·rw [if_pos (Or.inl e1)]
   rw [decide_eq_true e1] at cao
   have hsv := hz
   rcases sl3 hz with ⟨hl0,hz1⟩ | ⟨hl0,cap,hz1⟩ | ⟨hl0,cap,hz1⟩
   ·have c52 := fun X d => call52N he X 14 d
    rw [← hz1] at c52
    rw [fn_step (fn_14 e) (show Try.f14.body = some _ from rfl)]
    simp -implicitDefEqProofs only [Try.f14,go_sem,↓reduceIte,Int.reduceEq,Int.reduceLT,Int.reduceLE,List.reduceReplicate,intA,setT_nil,setT_cons,c50x,c50y,c50z,hx.cells,hx.flat,hx.bound,hy.cells,hy.flat,hy.bound,hz.cells,hz.flat,hz.bound,cao,c52,Bool.not_false,Bool.not_true,decide_true,decide_false,↓boolP_bool,↓iteB_true,↓iteB_false]
    exact ⟨rfl,_,rfl,Or.inl ⟨hl0,by rw [hz1];exact Or.inl ⟨rfl,rfl⟩⟩⟩
   ·have c52 := fun X d => call52E he X cap 14 d
    rw [← hz1] at c52
    rw [fn_step (fn_14 e) (show Try.f14.body = some _ from rfl)]
    simp -implicitDefEqProofs only [Try.f14,go_sem,↓reduceIte,Int.reduceEq,Int.reduceLT,Int.reduceLE,List.reduceReplicate,intA,setT_nil,setT_cons,c50x,c50y,c50z,hx.cells,hx.flat,hx.bound,hy.cells,hy.flat,hy.bound,hz.cells,hz.flat,hz.bound,cao,c52,Bool.not_false,Bool.not_true,decide_true,decide_false,↓boolP_bool,↓iteB_true,↓iteB_false]
    exact ⟨rfl,_,rfl,Or.inl ⟨hl0,Or.inr ⟨_,rfl⟩⟩⟩
   ·have c52 := fun X d => call52R he X b hl0 (by omega) cap 14 d
    rw [← hz1] at c52
    rw [fn_step (fn_14 e) (show Try.f14.body = some _ from rfl)]
    simp -implicitDefEqProofs only [Try.f14,go_sem,↓reduceIte,Int.reduceEq,Int.reduceLT,Int.reduceLE,List.reduceReplicate,intA,setT_nil,setT_cons,c50x,c50y,c50z,hx.cells,hx.flat,hx.bound,hy.cells,hy.flat,hy.bound,hz.cells,hz.flat,hz.bound,cao,c52,Bool.not_false,Bool.not_true,decide_true,decide_false,↓boolP_bool,↓iteB_true,↓iteB_false]
    exact ⟨rfl,_,rfl,Or.inr ⟨hl0,0,Nat.le_refl _,rfl,rfl⟩⟩
  by_cases e2 : a = b
  ·rw [if_pos (Or.inr e2)]
   rw [decide_eq_false e1] at cao
   rw [decide_eq_true e2] at cab
   have hsv := hz
   rcases sl3 hz with ⟨hl0,hz1⟩ | ⟨hl0,cap,hz1⟩ | ⟨hl0,cap,hz1⟩
   ·have c52 := fun X d => call52N he X 14 d
    rw [← hz1] at c52
    rw [fn_step (fn_14 e) (show Try.f14.body = some _ from rfl)]
    simp -implicitDefEqProofs only [Try.f14,go_sem,↓reduceIte,Int.reduceEq,Int.reduceLT,Int.reduceLE,List.reduceReplicate,intA,setT_nil,setT_cons,c50x,c50y,c50z,hx.cells,hx.flat,hx.bound,hy.cells,hy.flat,hy.bound,hz.cells,hz.flat,hz.bound,cao,cab,c52,Bool.not_false,Bool.not_true,decide_true,decide_false,↓boolP_bool,↓iteB_true,↓iteB_false]
    exact ⟨rfl,_,rfl,Or.inl ⟨hl0,by rw [hz1];exact Or.inl ⟨rfl,rfl⟩⟩⟩
   ·have c52 := fun X d => call52E he X cap 14 d
    rw [← hz1] at c52
    rw [fn_step (fn_14 e) (show Try.f14.body = some _ from rfl)]
    simp -implicitDefEqProofs only [Try.f14,go_sem,↓reduceIte,Int.reduceEq,Int.reduceLT,Int.reduceLE,List.reduceReplicate,intA,setT_nil,setT_cons,c50x,c50y,c50z,hx.cells,hx.flat,hx.bound,hy.cells,hy.flat,hy.bound,hz.cells,hz.flat,hz.bound,cao,cab,c52,Bool.not_false,Bool.not_true,decide_true,decide_false,↓boolP_bool,↓iteB_true,↓iteB_false]
    exact ⟨rfl,_,rfl,Or.inl ⟨hl0,Or.inr ⟨_,rfl⟩⟩⟩
   ·have c52 := fun X d => call52R he X b hl0 (by omega) cap 14 d
    rw [← hz1] at c52
    rw [fn_step (fn_14 e) (show Try.f14.body = some _ from rfl)]
    simp -implicitDefEqProofs only [Try.f14,go_sem,↓reduceIte,Int.reduceEq,Int.reduceLT,Int.reduceLE,List.reduceReplicate,intA,setT_nil,setT_cons,c50x,c50y,c50z,hx.cells,hx.flat,hx.bound,hy.cells,hy.flat,hy.bound,hz.cells,hz.flat,hz.bound,cao,cab,c52,Bool.not_false,Bool.not_true,decide_true,decide_false,↓boolP_bool,↓iteB_true,↓iteB_false]
    exact ⟨rfl,_,rfl,Or.inr ⟨hl0,0,Nat.le_refl _,rfl,rfl⟩⟩
  rw [if_neg (by simp [e1,e2])]
  rw [decide_eq_false e1] at cao
  rw [decide_eq_false e2] at cab
  by_cases e3 : b = o
  ·rw [if_pos e3]
   rw [decide_eq_true e3] at cbo
   have hsv := hy
   rcases sl3 hy with ⟨hl0,hz1⟩ | ⟨hl0,cap,hz1⟩ | ⟨hl0,cap,hz1⟩
   ·have c52 := fun X d => call52N he X 14 d
    rw [← hz1] at c52
    rw [fn_step (fn_14 e) (show Try.f14.body = some _ from rfl)]
    simp -implicitDefEqProofs only [Try.f14,go_sem,↓reduceIte,Int.reduceEq,Int.reduceLT,Int.reduceLE,List.reduceReplicate,intA,setT_nil,setT_cons,c50x,c50y,c50z,hx.cells,hx.flat,hx.bound,hy.cells,hy.flat,hy.bound,hz.cells,hz.flat,hz.bound,cao,cab,cbo,c52,Bool.not_false,Bool.not_true,decide_true,decide_false,↓boolP_bool,↓iteB_true,↓iteB_false]
    exact ⟨rfl,_,rfl,Or.inl ⟨hl0,by rw [hz1];exact Or.inl ⟨rfl,rfl⟩⟩⟩
   ·have c52 := fun X d => call52E he X cap 14 d
    rw [← hz1] at c52
    rw [fn_step (fn_14 e) (show Try.f14.body = some _ from rfl)]
    simp -implicitDefEqProofs only [Try.f14,go_sem,↓reduceIte,Int.reduceEq,Int.reduceLT,Int.reduceLE,List.reduceReplicate,intA,setT_nil,setT_cons,c50x,c50y,c50z,hx.cells,hx.flat,hx.bound,hy.cells,hy.flat,hy.bound,hz.cells,hz.flat,hz.bound,cao,cab,cbo,c52,Bool.not_false,Bool.not_true,decide_true,decide_false,↓boolP_bool,↓iteB_true,↓iteB_false]
    exact ⟨rfl,_,rfl,Or.inl ⟨hl0,Or.inr ⟨_,rfl⟩⟩⟩
   ·have c52 := fun X d => call52R he X a hl0 (by omega) cap 14 d
    rw [← hz1] at c52
    rw [fn_step (fn_14 e) (show Try.f14.body = some _ from rfl)]
    simp -implicitDefEqProofs only [Try.f14,go_sem,↓reduceIte,Int.reduceEq,Int.reduceLT,Int.reduceLE,List.reduceReplicate,intA,setT_nil,setT_cons,c50x,c50y,c50z,hx.cells,hx.flat,hx.bound,hy.cells,hy.flat,hy.bound,hz.cells,hz.flat,hz.bound,cao,cab,cbo,c52,Bool.not_false,Bool.not_true,decide_true,decide_false,↓boolP_bool,↓iteB_true,↓iteB_false]
    exact ⟨rfl,_,rfl,Or.inr ⟨hl0,0,Nat.le_refl _,rfl,rfl⟩⟩
  rw [if_neg e3]
  rw [decide_eq_false e3] at cbo
  obtain ⟨u1,hu1,ha1⟩ := ans47 he o a (by omega) (by omega) x y hx hy
  obtain ⟨u2,hu2,ha2⟩ := ans47 he o b (by omega) (by omega) x z hx hz
  have ha3 := fn53T he o (hunkL o a) (hunkL o b) lo (hunkL_ok o a la) (hunkL_ok o b lb) x u1 u2 hx hu1 hu2
  obtain ⟨v,Y0,k3,hYl,hYr⟩ := liveT_call (me := 14) (d := some 43) ha3 (ext_37 he) rfl
  have k1 := fun me d H => ha1.call (me := me) (d := d) (ext_38 he) (pure_38 _ _ _) (by simp only [boundL_cons,hx.bound,hy.bound,boundL_nil];rfl) H
  have k2 := fun me d H => ha2.call (me := me) (d := d) (ext_38 he) (pure_38 _ _ _) (by simp only [boundL_cons,hx.bound,hz.bound,boundL_nil];rfl) H
  generalize hYe : settleH 0 Y0 = Y at hYl hYr
  obtain ⟨N,hN⟩ : ∃ N,Y.size = N := ⟨_,rfl⟩
  obtain ⟨q1,rfl,hq1⟩ := hu1
  obtain ⟨q2,rfl,hq2⟩ := hu2
  rw [fn_step (fn_14 e) (show Try.f14.body = some _ from rfl)]
  simp -implicitDefEqProofs only [Try.f14,go_sem,↓reduceIte,Int.reduceEq,Int.reduceLT,Int.reduceLE,List.reduceReplicate,intA,setT_nil,setT_cons,c50x,c50y,c50z,hx.cells,hx.flat,hx.bound,hy.cells,hy.flat,hy.bound,hz.cells,hz.flat,hz.bound,cao,cab,cbo,k1,k2,k3,hYe,hN,settle_eqN hN,trim_eqN hN,hq1.cells,hq1.flat,hq1.bound,hq2.cells,hq2.flat,hq2.bound,Bool.not_false,Bool.not_true,decide_true,decide_false,↓boolP_bool,↓iteB_true,↓iteB_false]
  exact ⟨hYl,_,rfl,hYr⟩
end Go.Ev
namespace Go.Ev
open Go.Proofs
attribute [local irreducible] Wp WpS
theorem kind_sl {e : Exts} {f me : FuncId} {d : Option Tmp} (hp : (Cx e).pure me f d = true) (b n : Nat) (y : AV) (xs : List AV) (hy : SlOf 1 xs y) : callKind (Cx e) me f d [.sl b 0 0 n none,y] = 2 := by
 have hz : Nat.beq (boundL [.sl b 0 0 n none,y]) 0 = false := by
  cases hz : Nat.beq (boundL [.sl b 0 0 n none,y]) 0
  ·rfl
  ·have h1 := Nat.eq_of_beq_eq_true hz
   rw [boundL_cons,bound_sl] at h1
   have h2 : b + 1 ≤ Nat.max (b + 1) (boundL [y]) := Nat.le_max_left _ _
   omega
 have hi : [.sl b 0 0 n none,y].any isYld = false := by rcases hy with ⟨rfl, -⟩ | ⟨cap,rfl⟩ <;> rfl
 unfold callKind
 rw [hp,hz,hi]
 rfl
theorem call15L {e : Exts} (he : Quiet e) (L : List ByteArray) (hl : L.length < 2 ^ 63) (y : AV) (hy : SlOf 1 (strs L) y) (Y : Heap) (b : Nat) (hg : Y.get b = some (rowO L)) (me : FuncId) (d : Option Tmp) : callA (Cx e) (lim (Cx e)) me 13 d [.sl b 0 0 L.length none,y] Y = some (.v (.bool true),Y) := by
 refine call_seen (ext_13 he) (kind_sl (pure_13 _ _ _) b _ y _ hy) ?_
 have hb : b < Y.size := get_lt hg
 obtain ⟨X,hX⟩ : ∃ X : Heap,X = { Y with lock := Y.size } := ⟨_,rfl⟩
 have hXg : X.get b = some (rowO L) := by rw [hX];exact hg
 have hXs : X.size = Y.size := by rw [hX];rfl
 rw [← hX]
 obtain ⟨N,hN⟩ : ∃ N,X.size = N := ⟨_,rfl⟩
 have hbN : ltB b N = true := by unfold ltB;exact decide_eq_true (by omega)
 have hrow : X.row b 0 = some (0,9,1,true,strs L) := get_row hXg
 have hrowP := fun E => rowLo (X := X) (b := b) (by omega) E 0
 rw [fn_step (fn_13 e) (show Try.f13.body = some _ from rfl)]
 have hlx : slLen (.sl b 0 0 L.length none) = some (.v (.int .i64 (L.length : Nat))) := rfl
 have hly := hy.len
 rw [strs_len] at hly
 simp -implicitDefEqProofs only [Try.f13,go_sem,↓reduceIte,Int.reduceEq,Int.reduceLT,Int.reduceLE,List.reduceReplicate,intA,setT_nil,setT_cons,hN,settle_eqN hN,trim_eqN hN,hy.cells,hy.flat,hy.bound,hlx,hly,decide_true,Bool.not_true,↓boolP_bool,↓iteB_true,↓iteB_false]
 refine Lp_ruleQ (P := fun μ a H => ∃ j,j + μ = L.length ∧ a = ⟨26,[(0,.sl b 0 0 L.length none),(1,y),(4,.v (.bool false)),(10,.v (.bool false)),(5,intA (j : Nat))],[]⟩ ∧ X = H) ?_ L.length _ _ ⟨0,by omega,rfl,rfl⟩
 rintro Q KK hQ hKK μ _ _ ⟨j,hj,rfl,rfl⟩
 cases μ with
 | zero =>
  obtain rfl : j = L.length := by omega
  have hlt : ¬ (L.length : Int) < (L.length : Int) := by omega
  simp -implicitDefEqProofs only [go_sem,↓reduceIte,Int.reduceEq,Int.reduceLT,Int.reduceLE,List.reduceReplicate,intA,setT_nil,setT_cons,hN,settle_eqN hN,trim_eqN hN,hy.cells,hy.flat,hy.bound,hlx,hlt,↓boolP_bool,↓iteB_true,↓iteB_false]
  refine hKK _ _ _ ?_
  simp -implicitDefEqProofs only [go_sem,↓reduceIte,Int.reduceEq,Int.reduceLT,Int.reduceLE,List.reduceReplicate,intA,setT_nil,setT_cons,hN,settle_eqN hN,trim_eqN hN,↓boolP_bool,↓iteB_true,↓iteB_false]
  rfl
 | succ μ =>
  obtain ⟨r,hr⟩ := at_lt L j (by omega)
  have hlt : (j : Int) < (L.length : Int) := by omega
  have hiy := hy.idx (strs_get hr)
  have hw := wrap_succ j (by omega)
  have hpt := strs_get hr
  have hsx : slIdx 1 (.sl b 0 0 L.length none) (.v (.int .i64 (j : Nat))) = some (.ptr b 0 j) := by
   unfold slIdx
   simp only [Int.toNat_natCast]
   rw [if_pos (by omega)]
   congr 2
   omega
  have hset : settleH N (X.plus [none,none,none,none,none,none,none,none,none]) = X := by
   rw [settleP0 hN]
   exact plus_nil _
  simp -implicitDefEqProofs only [go_sem,↓reduceIte,Int.reduceEq,Int.reduceLT,Int.reduceLE,List.reduceReplicate,intA,setT_nil,setT_cons,hN,settle_eqN hN,trim_eqN hN,hy.cells,hy.flat,hy.bound,hlx,hlt,↓boolP_bool,↓iteB_true,↓iteB_false]
  refine wp_drawX [([],[],false),([],[],false),([],[],false),([],[],false),([],[],false),([],[],false),([],[],false),([3],[],false),([],[],false)] (by kernel_rfl) (by kernel_rfl) ?_
  simp -implicitDefEqProofs only [go_sem,↓reduceIte,Int.reduceEq,Int.reduceLT,Int.reduceLE,List.reduceReplicate,intA,setT_nil,setT_cons,hN,settle_eqN hN,trim_eqN hN,sizeP hN,hrowP,hrow,hbN,hpt,hsx,hset,hiy,hw,decide_true,Bool.not_true,↓boolP_bool,↓iteB_true,↓iteB_false]
  exact Again.mk' μ (by omega) (hQ _ _ _ ⟨j + 1,by omega,rfl,rfl⟩)
end Go.Ev
namespace Go.Ev
def tiled (P : Program) : Nat → List Field → Nat → Bool
 | k,[],e => k == e
 | k,f :: r,e => f.offset == k && tiled P (k + P.cellsOf f.type) r e
def plainT (P : Program) : Nat → TypeId → Bool
 | 0,_ => false
 | n + 1,t =>
  match P.underlying t with
  | some .bool => true
  | some (.int _) => true
  | some .string => true
  | some (.slice e) => decide (0 < P.cellsOf e) && plainT P n e
  | some (.struct fs) => tiled P 0 fs.toList (P.cellsOf t) && fs.toList.all fun f => plainT P n f.type
  | _ => false
def elemOf (cs : List AV) : AV := match cs with | [c] => c | cs => .agg cs
def Plain (P : Program) : Nat → TypeId → List AV → Prop
 | 0,_,_ => False
 | n + 1,t,cs =>
  match P.underlying t with
  | some .bool => ∃ b,cs = [.v (.bool b)]
  | some (.int k) => ∃ m,cs = [.v (.int k m)] ∧ (Lit.int k m).wf = true
  | some .string => ∃ s,cs = [.v (.string s)] ∧ s.size ≤ maxLen
  | some (.slice e) => ∃ x xs,cs = [x] ∧ SlOf (P.cellsOf e) xs x ∧ xs.length ≤ maxLen ∧ ∀ y ∈ xs,∃ c,y = elemOf c ∧ c.length = P.cellsOf e ∧ Plain P n e c
  | some (.struct fs) => cs.length = P.cellsOf t ∧ ∀ f ∈ fs.toList,Plain P n f.type ((cs.drop f.offset).take (P.cellsOf f.type))
  | _ => False
theorem elem_cells {cs : List AV} (h : ∀ c ∈ cs,c.flat = true) : (elemOf cs).cells = cs := by
 unfold elemOf
 split
 ·rename_i c
  have := h c (by simp)
  cases c <;> simp_all [AV.cells,AV.flat]
 ·rfl
theorem exists_list {α : Type} {Q : Nat → α → Prop} : ∀ (n : Nat),(∀ i,i < n → ∃ y,Q i y) → ∃ l : List α,l.length = n ∧ ∀ i y,l[i]? = some y → Q i y
 | 0,_ => ⟨[],rfl,fun i y h => by simp at h⟩
 | n + 1,h => by
  obtain ⟨l,hl,hq⟩ := exists_list n fun i hi => h i (by omega)
  obtain ⟨y,hy⟩ := h n (by omega)
  refine ⟨l ++ [y],by simp [hl],fun i z hz => ?_⟩
  by_cases hi : i < l.length
  ·rw [List.getElem?_append_left hi] at hz;exact hq i z hz
  ·have hlt := (List.getElem?_eq_some_iff.1 hz).1
   simp at hlt
   have : i = l.length := by omega
   subst this
   simp at hz;subst hz;rw [hl];exact hy
theorem tile_rep {Z : Fzn} {ρ : Pls} {P : Program} {Q : Field → List AV → Prop} : ∀ (fs : List Field) (k e : Nat) (cs : List Value),tiled P k fs e = true → cs.length = e →
  (∀ f ∈ fs,∃ a,RepL Z ρ a ((cs.drop f.offset).take (P.cellsOf f.type)) ∧ Q f a ∧ ∀ c ∈ a,c.flat = true) →
  k ≤ e → ∃ A,RepL Z ρ A (cs.drop k) ∧ (∀ c ∈ A,c.flat = true) ∧ ∀ f ∈ fs,k ≤ f.offset ∧ f.offset + P.cellsOf f.type ≤ e ∧ Q f ((A.drop (f.offset - k)).take (P.cellsOf f.type))
 | [],k,e,cs,ht,hl,_,_ => by
  have : k = e := by simpa [tiled] using ht
  subst this
  refine ⟨[], ?_,by simp,by simp⟩
  rw [List.drop_of_length_le (by omega)];exact RepL.nil
 | f :: r,k,e,cs,ht,hl,hf,hk => by
  simp only [tiled,Bool.and_eq_true,beq_iff_eq] at ht
  obtain ⟨ho,ht⟩ := ht
  have hle : ∀ (fs : List Field) (k : Nat),tiled P k fs e = true → k ≤ e := by
   intro fs
   induction fs with
   | nil => intro k h;have : k = e := by simpa [tiled] using h
            omega
   | cons g s ih => intro k h;simp only [tiled,Bool.and_eq_true] at h;have := ih _ h.2;omega
  have hle' := hle _ _ ht
  obtain ⟨A,hA,hAf,hAq⟩ := tile_rep r (k + P.cellsOf f.type) e cs ht hl (fun g hg => hf g (List.mem_cons_of_mem _ hg)) hle'
  obtain ⟨a,ha,hq,haf⟩ := hf f List.mem_cons_self
  have hal : a.length = P.cellsOf f.type := by rw [ha.1];simp;omega
  refine ⟨a ++ A, ?_, ?_, ?_⟩
  ·have : cs.drop k = (cs.drop f.offset).take (P.cellsOf f.type) ++ cs.drop (k + P.cellsOf f.type) := by
    rw [ho,← List.drop_drop];exact (List.take_append_drop _ _).symm
   rw [this];exact ha.append hA
  ·intro c hc
   rcases List.mem_append.1 hc with h | h
   ·exact haf c h
   ·exact hAf c h
  ·intro g hg
   rcases List.mem_cons.1 hg with rfl | hg
   ·refine ⟨by omega,by omega, ?_⟩
    rw [ho,Nat.sub_self,List.drop_zero,List.take_append_of_le_length (by omega),List.take_of_length_le (by omega)]
    exact hq
   ·obtain ⟨h1,h2,h3⟩ := hAq g hg
    refine ⟨by omega,h2, ?_⟩
    have : (a ++ A).drop (g.offset - k) = A.drop (g.offset - (k + P.cellsOf f.type)) := by
     rw [List.drop_append,List.drop_of_length_le (by omega),List.nil_append,hal];congr 1;omega
    rw [this];exact h3
section
variable {HH : Type} {enc : TypeId × Value → HH} {P : Program} {w : World}
theorem cells_at {a : Addr} {n : Nat} {cs : List Value} (h : w.cells? 0 a n = some cs) (hn : 0 < n) : a.spot = none ∧ ∃ arr e fr,w.heap[a.block]? = some (.cells arr e fr) ∧ cs.length = n ∧ ∀ j,j < n → arr[a.off + j]? = cs[j]? := by
 obtain ⟨_,hl,hc⟩ := World.cells?_some h
 have h0 := hc 0 hn
 obtain ⟨c0,hc0⟩ : ∃ c0,cs[0]? = some c0 := ⟨cs[0]'(by omega),List.getElem?_eq_getElem _⟩
 have hsp : a.spot = none := by
  have := World.cell?_spot (h0.trans hc0)
  simpa [Addr.add] using this
 have hcell := h0.trans hc0
 have hb : ∀ j,(a.add j).block = a.block := by intro j;unfold Addr.add;split <;> rfl
 have hs : ∀ j,(a.add j).spot = none := by
  intro j;unfold Addr.add;split
  ·exact hsp
  ·rfl
 have ho : ∀ j,(a.add j).off = a.off + j := by
  intro j;unfold Addr.add;split
  ·rename_i hj;subst hj;rfl
  ·rfl
 refine ⟨hsp, ?_⟩
 unfold World.cell? at hcell
 rw [hb] at hcell
 split at hcell
 ·rename_i arr e fr hh
  refine ⟨arr,e,fr,hh,hl,fun j hj => ?_⟩
  have := hc j hj
  unfold World.cell? at this
  rw [hb,hh] at this
  simp only [hs,ho,Option.isSome_none,Bool.false_eq_true,if_false] at this
  exact this
 ·cases hcell
theorem plain_rep : ∀ (N t fuel : Nat) (cs : List Value) (x : DataW HH × List MemPlace),plainT P N t = true → DataW.trod enc P w 0 (fun _ => true) true fuel t cs = some x →
  ∃ A,RepL (allZ w) noPls A cs ∧ Plain P N t A ∧ ∀ c ∈ A,c.flat = true
 | 0,_,_,_,_,hp,_ => by simp [plainT] at hp
 | N + 1,t,fuel,cs,x,hp,h => by
  unfold plainT at hp
  cases hu : P.underlying t with
  | none => rw [hu] at hp;simp at hp
  | some u =>
   rw [hu] at hp
   cases u <;> simp only [Bool.false_eq_true] at hp
   case bool =>
    obtain ⟨b,rfl, -⟩ := DataW.trod_bool hu h
    exact ⟨[.v (.bool b)],RepL.cons (.v rfl) RepL.nil,by unfold Plain;rw [hu];exact ⟨b,rfl⟩,by simp [AV.flat]⟩
   case int k =>
    obtain ⟨n,rfl, -,hw⟩ := DataW.trod_int hu h
    exact ⟨[.v (.int k n)],RepL.cons (.v rfl) RepL.nil,by unfold Plain;rw [hu];exact ⟨n,rfl,hw⟩,by simp [AV.flat]⟩
   case string =>
    obtain ⟨n,rfl, -,hw⟩ := DataW.trod_string hu h
    exact ⟨[.v (.string n)],RepL.cons (.v rfl) RepL.nil,by unfold Plain;rw [hu];exact ⟨n,rfl,hw⟩,by simp [AV.flat]⟩
   case struct fs =>
    rw [Bool.and_eq_true,List.all_eq_true] at hp
    obtain ⟨xs,n, -, -,hl,hlen,hf⟩ := DataW.trod_struct hu h
    have hall : ∀ f ∈ fs.toList,∃ a,RepL (allZ w) noPls a ((cs.drop f.offset).take (P.cellsOf f.type)) ∧ Plain P N f.type a ∧ ∀ c ∈ a,c.flat = true := by
     intro f hfm
     obtain ⟨i,hi⟩ := List.getElem?_of_mem hfm
     have hi' : fs[i]? = some f := by simpa using hi
     have hxi := hf i f hi'
     have hlt : i < xs.length := by
      rw [hlen]
      have := (List.getElem?_eq_some_iff.1 hi).1
      simpa using this
     rw [List.getElem?_eq_getElem hlt] at hxi
     exact plain_rep N f.type n _ _ (hp.2 f hfm) hxi
    obtain ⟨A,hA,hAf,hAq⟩ := tile_rep fs.toList 0 (P.cellsOf t) cs hp.1 hl hall (Nat.zero_le _)
    rw [List.drop_zero] at hA
    refine ⟨A,hA, ?_,hAf⟩
    unfold Plain;rw [hu]
    refine ⟨by rw [hA.1];exact hl,fun f hf => ?_⟩
    have := (hAq f hf).2.2
    rwa [Nat.sub_zero] at this
   case slice e =>
    simp only [Bool.and_eq_true,decide_eq_true_eq] at hp
    rcases DataW.trod_slice hu h with ⟨rfl, -⟩ | ⟨a,len,cap,elems,rest,n, -,rfl, -, -,hlc,hcm,hel,hget, -, -⟩
    ·refine ⟨[.v (.slice none 0 0)],RepL.cons (.v rfl) RepL.nil, ?_,by simp [AV.flat]⟩
     unfold Plain;rw [hu]
     exact ⟨_,[],rfl,Or.inl ⟨rfl,rfl⟩,Nat.zero_le _,by simp⟩
    ·have hone : ∀ i,i < len → ∃ y : AV,∃ A ci,w.cells? 0 (a.add (i * P.cellsOf e)) (P.cellsOf e) = some ci ∧ RepL (allZ w) noPls A ci ∧ Plain P N e A ∧ (∀ c ∈ A,c.flat = true) ∧ y = elemOf A := by
      intro i hi
      have := hget i hi
      rw [List.getElem?_eq_getElem (by omega),Option.bind_eq_some_iff] at this
      obtain ⟨ci,hc1,hc2⟩ := this
      obtain ⟨A,h1,h2,h3⟩ := plain_rep N e n ci _ hp.2 hc2
      exact ⟨_,A,ci,hc1,h1,h2,h3,rfl⟩
     obtain ⟨xs,hxl,hxq⟩ := exists_list len hone
     have hsz : ∀ y ∈ xs,y.cells.length = P.cellsOf e := by
      intro y hy
      obtain ⟨i,hi⟩ := List.getElem?_of_mem hy
      obtain ⟨A,ci,h1,h2,h3,h4,rfl⟩ := hxq i y hi
      rw [elem_cells h4,h2.1]
      exact (World.cells?_some h1).2.1
     have hplain : Plain P (N + 1) t [.vs (P.cellsOf e) xs (some cap)] := by
      unfold Plain;rw [hu]
      refine ⟨_,xs,rfl,Or.inr ⟨_,rfl⟩,by omega,fun y hy => ?_⟩
      obtain ⟨i,hi⟩ := List.getElem?_of_mem hy
      obtain ⟨A,ci,h1,h2,h3,h4,rfl⟩ := hxq i y hi
      exact ⟨A,rfl,by rw [h2.1];exact (World.cells?_some h1).2.1,h3⟩
     by_cases h0 : len = 0
     ·subst h0
      have : xs = [] := List.length_eq_zero_iff.1 hxl
      subst this
      exact ⟨_,RepL.cons (.vs0 (by simp)) RepL.nil,hplain,by simp [AV.flat]⟩
     ·-- the block
      have hpos := hp.1
      obtain ⟨y0,hy0⟩ : ∃ y,xs[0]? = some y := ⟨xs[0]'(by omega),List.getElem?_eq_getElem _⟩
      obtain ⟨A0,c0,hc0, -⟩ := hxq 0 y0 hy0
      obtain ⟨hsp0,arr,et,fr,hh, -, -⟩ := cells_at hc0 hpos
      have hb : ∀ j,(a.add j).block = a.block := by intro j;unfold Addr.add;split <;> rfl
      have ho : ∀ j,(a.add j).off = a.off + j := by
       intro j;unfold Addr.add;split
       ·rename_i hj;subst hj;rfl
       ·rfl
      rw [hb] at hh
      have hsp : a.spot = none := by simpa [Addr.add] using hsp0
      have hall : ∀ i j,i < len → j < P.cellsOf e → ∃ A ci,xs[i]? = some (elemOf A) ∧ (∀ c ∈ A,c.flat = true) ∧ RepL (allZ w) noPls A ci ∧ ci.length = P.cellsOf e ∧ arr[a.off + i * P.cellsOf e + j]? = ci[j]? := by
       intro i j hi hj
       obtain ⟨y,hy⟩ : ∃ y,xs[i]? = some y := ⟨xs[i]'(by omega),List.getElem?_eq_getElem _⟩
       obtain ⟨A,ci,h1,h2,h3,h4,rfl⟩ := hxq i y hy
       obtain ⟨-,arr',et',fr',hh',hl',hg⟩ := cells_at h1 hpos
       rw [hb,hh] at hh'
       obtain ⟨rfl,rfl,rfl⟩ : arr = arr' ∧ et = et' ∧ fr = fr' := by simpa using hh'
       have := hg j hj
       rw [ho] at this
       exact ⟨A,ci,hy,h4,h2,hl',this⟩
      have hfl : (xs.flatMap AV.cells).length = len * P.cellsOf e := by rw [flat_len hsz,hxl]
      have hfit : a.off + len * P.cellsOf e ≤ arr.size := by
       obtain ⟨A,ci, -, -, -,hl',hg⟩ := hall (len - 1) (P.cellsOf e - 1) (by omega) (by omega)
       rw [List.getElem?_eq_getElem (by omega)] at hg
       have := (Array.getElem?_eq_some_iff.1 hg).1
       have e1 : (len - 1) * P.cellsOf e + P.cellsOf e = len * P.cellsOf e := by
        have : len = (len - 1) + 1 := by omega
        conv => rhs;rw [this,Nat.succ_mul]
       omega
      refine ⟨[.vs (P.cellsOf e) xs (some cap)],RepL.cons ?_ RepL.nil,hplain,by simp [AV.flat]⟩
      have hval : (Value.slice (some a) len cap) = .slice (some ⟨a.block,(arr.toList.take a.off).length,none⟩) xs.length cap := by
       have : (arr.toList.take a.off).length = a.off := by simp;omega
       rw [this,hxl];cases a;simp_all
      rw [hval]
      refine .vs (vs := (arr.toList.drop a.off).take (len * P.cellsOf e)) (post := (arr.toList.drop a.off).drop (len * P.cellsOf e)) (pre := arr.toList.take a.off) (e := et) (fz := fr) (arr := arr) hh ?_ hsz ?_ ?_ (by simp) (by omega)
      ·rw [List.append_assoc,List.take_append_drop,List.take_append_drop]
      ·rw [hfl];simp;omega
      ·intro i c v hc hv
       have hi := (List.getElem?_eq_some_iff.1 hc).1
       rw [hfl] at hi
       have hq : i / P.cellsOf e < len := Nat.div_lt_of_lt_mul (by rw [Nat.mul_comm];exact hi)
       have hr : i % P.cellsOf e < P.cellsOf e := Nat.mod_lt _ hpos
       have hdm : i / P.cellsOf e * P.cellsOf e + i % P.cellsOf e = i := by rw [Nat.mul_comm];exact Nat.div_add_mod _ _
       obtain ⟨A,ci,hx,hA,hR,hl',hg⟩ := hall _ _ hq hr
       have hfa := (flat_at hsz hx).1
       rw [elem_cells hA] at hfa
       have hcA : A[i % P.cellsOf e]? = some c := by
        rw [← hfa,List.getElem?_take,if_pos hr,List.getElem?_drop,hdm];exact hc
       have hvA : ci[i % P.cellsOf e]? = some v := by
        rw [← hg]
        rw [List.getElem?_take,if_pos hi,List.getElem?_drop] at hv
        rw [show a.off + i / P.cellsOf e * P.cellsOf e + i % P.cellsOf e = a.off + i by omega]
        simpa using hv
       exact hR.2 _ _ _ hcA hvA
theorem plain_spare {base : Nat} {sp : Nat → Bool} : ∀ (N t fuel : Nat) (cs : List Value) (x : DataW HH × List MemPlace),plainT P N t = true → DataW.trod enc P w base (fun _ => true) true fuel t cs = some x →
  (∀ p ∈ x.2,sp p.block = true) → DataW.trod enc P w base sp true fuel t cs = some x
 | 0,_,_,_,_,hp,_,_ => by simp [plainT] at hp
 | N + 1,t,fuel,cs,x,hp,h,hs => by
  unfold plainT at hp
  cases fuel with
  | zero => simp [DataW.trod] at h
  | succ n =>
   cases hu : P.underlying t with
   | none => rw [hu] at hp;simp at hp
   | some u =>
    rw [hu] at hp
    cases u <;> simp only [Bool.false_eq_true] at hp
    case bool => obtain ⟨b,rfl,rfl⟩ := DataW.trod_bool hu h;rw [DataW.trod_step];unfold DataW.trodStep;rw [hu]
    case int k => obtain ⟨m,rfl,rfl,hw⟩ := DataW.trod_int hu h;rw [DataW.trod_step];unfold DataW.trodStep;rw [hu];simp [hw]
    case string => obtain ⟨m,rfl,rfl,hw⟩ := DataW.trod_string hu h;rw [DataW.trod_step];unfold DataW.trodStep;rw [hu];simp [hw]
    case struct fs =>
     rw [Bool.and_eq_true,List.all_eq_true] at hp
     rw [DataW.trod_step] at h ⊢
     unfold DataW.trodStep at h ⊢
     rw [hu] at h ⊢
     simp only at h ⊢
     split at h
     ·rename_i hl
      rw [if_pos hl]
      simp only [Option.map_eq_some_iff] at h ⊢
      obtain ⟨xs,hxs,rfl⟩ := h
      refine ⟨xs,mapM_carry hxs fun f y hf hy hfy => plain_spare N f.type n _ y (hp.2 f hf) hfy fun p hpm => hs p ?_,rfl⟩
      exact List.mem_flatMap.2 ⟨y,hy,hpm⟩
     ·cases h
    case slice e =>
     simp only [Bool.and_eq_true,decide_eq_true_eq] at hp
     have h0 := h
     rw [DataW.trod_step] at h ⊢
     unfold DataW.trodStep at h ⊢
     rw [hu] at h ⊢
     rcases DataW.trod_slice hu h0 with ⟨rfl,rfl⟩ | ⟨a,len,cap,elems,rest,n',hn',rfl,rfl, -,hlc,hcm,hel,hget,hrest, -⟩
     ·rfl
     ·simp only at h ⊢
      split at h
      ·rename_i hc
       rw [if_pos hc]
       simp only [if_true,Option.bind_eq_some_iff,Option.map_eq_some_iff] at h ⊢
       obtain ⟨es,hes,rs,hrs,heq⟩ := h
       have hin : ∀ y,y ∈ es ++ rs → ∀ p ∈ y.2,sp p.block = true := by
        intro y hy p hpm
        refine hs p ?_
        have := congrArg Prod.snd heq
        simp only at this
        rw [← this]
        exact List.mem_append_right _ (List.mem_flatMap.2 ⟨y,hy,hpm⟩)
       refine ⟨es,mapM_carry hes fun i y _ hy hfy => ?_,rs, ?_,heq⟩
       ·obtain ⟨ci,h1,h2⟩ := Option.bind_eq_some_iff.1 hfy
        rw [h1]
        exact plain_spare N e n ci y hp.2 h2 (hin y (List.mem_append_left _ hy))
       ·have hrl : rs.length = cap - len := by
         have := mapM_some_length hrs
         simpa using this
        by_cases hz : cap - len = 0
        ·have : rs = [] := List.length_eq_zero_iff.1 (by omega)
         subst this
         split
         ·rw [hz] at hrs ⊢;exact hrs
         ·rfl
        ·have hsp : sp a.block = true := by
          have hel' : es.length = len := by
           have := mapM_some_length hes
           simpa using this
          have := congrArg Prod.snd heq
          simp only at this
          have hm : MemPlace.cell a.block (a.off + 0) ∈ MemPlace.row a ((elems.length + rest.length) * P.cellsOf e) ++ (elems ++ rest).flatMap (·.2) := by
           rw [← this]
           refine List.mem_append_left _ (MemPlace.mem_row.2 ⟨0, ?_,rfl⟩)
           exact Nat.mul_pos (by omega) hp.1
          exact hs _ hm
         rw [if_pos hsp]
         refine mapM_carry hrs fun i y _ hy hfy => ?_
         obtain ⟨ci,h1,h2⟩ := Option.bind_eq_some_iff.1 hfy
         rw [h1]
         exact plain_spare N e n ci y hp.2 h2 (hin y (List.mem_append_right _ hy))
      ·cases h
end
end Go.Ev
namespace Go.Ev
open Go.ChangeShapes Go.WideShapes Go.ChangeAt Go.RowKit
def Arg (P : Program) (N : Nat) (t : TypeId) (x : AV) : Prop :=
 match P.underlying t with
 | some (.struct _) => ∃ A,x = .agg A ∧ Plain P N t A
 | _ => Plain P N t [x]
inductive ArgsOf (P : Program) (N : Nat) : List TypeId → List AV → Prop
 | nil : ArgsOf P N [] []
 | cons {t : TypeId} {ts : List TypeId} {x : AV} {xs : List AV} (h : Arg P N t x) (hs : ArgsOf P N ts xs) : ArgsOf P N (t :: ts) (x :: xs)
section
variable {HH : Type} {enc : TypeId × Value → HH} {P : Program} {w : World}
theorem arg_rep {N base : Nat} {t : TypeId} {v : Value} {d : DataW HH} {ps : List MemPlace} (hp : plainT P N t = true) (hok : Value.okWide P w .any base t v) (h : DataW.Trod enc P w 0 (fun _ => true) true t v d ps) :
  ∃ x,Rep (allZ w) noPls x v ∧ Arg P N t x := by
 obtain ⟨fuel,h⟩ := h
 obtain ⟨A,hA,hpl,hfl⟩ := plain_rep N t fuel _ _ hp h
 cases N with
 | zero => simp [plainT] at hp
 | succ N =>
  have one : ∀ (hv : v.cells.toList = [v]),(∃ c,A = [c]) → (∀ fs,P.underlying t ≠ some (.struct fs)) → ∃ x,Rep (allZ w) noPls x v ∧ Arg P (N + 1) t x := by
   rintro hv ⟨c,rfl⟩ hns
   rw [hv] at hA
   obtain ⟨v',ws,e,hr, -⟩ := hA.uncons
   cases e
   refine ⟨c,hr, ?_⟩
   unfold Arg
   split
   ·rename_i fs hu;exact absurd hu (hns fs)
   ·exact hpl
  unfold plainT at hp
  unfold Value.okWide at hok
  have hpl' := hpl
  unfold Plain at hpl'
  cases hu : P.underlying t with
  | none => rw [hu] at hp;simp at hp
  | some u =>
   rw [hu] at hp hok hpl'
   cases u <;> simp only [Bool.false_eq_true] at hp hok hpl'
   case bool =>
    obtain ⟨b,rfl⟩ := hpl'
    refine one ?_ ⟨_,rfl⟩ (by simp [hu])
    unfold Cell.okWide Cell.ok at hok;rw [hu] at hok
    cases v <;> first | rfl | simp at hok
   case int k =>
    obtain ⟨m,rfl, -⟩ := hpl'
    refine one ?_ ⟨_,rfl⟩ (by simp [hu])
    unfold Cell.okWide Cell.ok at hok;rw [hu] at hok
    cases v <;> first | rfl | simp at hok
   case string =>
    obtain ⟨m,rfl, -⟩ := hpl'
    refine one ?_ ⟨_,rfl⟩ (by simp [hu])
    unfold Cell.okWide Cell.ok at hok;rw [hu] at hok
    cases v <;> first | rfl | simp at hok
   case slice e =>
    obtain ⟨x,xs,rfl, -⟩ := hpl'
    refine one ?_ ⟨_,rfl⟩ (by simp [hu])
    unfold Cell.okWide Cell.ok at hok;rw [hu] at hok
    cases v <;> first | rfl | simp at hok
   case struct fs =>
    obtain ⟨cs,rfl, -, -⟩ := hok
    refine ⟨.agg A, ?_, ?_⟩
    ·have := hA.agg
     simpa [Value.cells] using this
    ·unfold Arg;rw [hu];exact ⟨A,rfl,hpl⟩
theorem args_rep {N base : Nat} : ∀ {ts : List TypeId} {vs : List Value} {ds : List (DataW HH)} {ps : List MemPlace},ts.all (plainT P N) = true → (∀ (j : Nat) t v,ts[j]? = some t → vs[j]? = some v → Value.okWide P w .any base t v) →
  DataW.TrodAll enc P w 0 (fun _ => true) true ts vs ds ps → ∃ xs,RepL (allZ w) noPls xs vs ∧ ArgsOf P N ts xs
 | [],vs,ds,ps,_,_,h => by
  cases vs <;> cases ds <;> simp [DataW.TrodAll] at h
  exact ⟨[],RepL.nil,.nil⟩
 | t :: ts,vs,ds,ps,hp,hok,h => by
  obtain ⟨v,vs',d,ds',p,q,rfl,rfl,rfl,h1,h2⟩ := trodAll_cons h
  simp only [List.all_cons,Bool.and_eq_true] at hp
  obtain ⟨x,hx,hax⟩ := arg_rep hp.1 (hok 0 t v rfl rfl) h1
  obtain ⟨xs,hxs,haxs⟩ := args_rep hp.2 (fun j t' v' ht hv => hok (j + 1) t' v' (by simpa using ht) (by simpa using hv)) h2
  exact ⟨x :: xs,RepL.cons hx hxs,.cons hax haxs⟩
theorem trod_after {w' : World} (hh : ∀ k,k < w.heap.size → w'.heap[k]? = w.heap[k]?) {N : Nat} {sp : Nat → Bool} : ∀ {ts : List TypeId} {vs : List Value} {ds : List (DataW HH)} {ps : List MemPlace},ts.all (plainT P N) = true →
  DataW.TrodAll enc P w 0 (fun _ => true) true ts vs ds ps → (∀ p ∈ ps,sp p.block = true) → DataW.TrodAll enc P w' 0 sp true ts vs ds ps
 | [],vs,ds,ps,_,h,_ => by
  cases vs <;> cases ds <;> simp [DataW.TrodAll] at h ⊢
  exact h
 | t :: ts,vs,ds,ps,hp,h,hs => by
  obtain ⟨v,vs',d,ds',p,q,rfl,rfl,rfl,⟨fuel,h1⟩,h2⟩ := trodAll_cons h
  simp only [List.all_cons,Bool.and_eq_true] at hp
  refine ⟨p,q,⟨fuel, ?_⟩,trod_after hh hp.2 h2 fun p hp => hs p (List.mem_append_right _ hp),rfl⟩
  have hlt := DataW.trod_lt _ _ _ _ h1
  refine plain_spare N t fuel _ _ hp.1 (DataW.trod_carry _ _ _ _ h1 fun p hp => ?_) fun p hp => hs p (List.mem_append_left _ hp)
  have := hlt p hp
  cases p with
  | cell b off =>
   have hb : b < w.heap.size := this
   simp only [World.sameAt,World.cell?,hh b hb]
  | map b =>
   have hb : b < w.heap.size := this
   simp only [World.sameAt,hh b hb]
theorem trodAll_len {b : Nat} {sp : Nat → Bool} {hd : Bool} : ∀ {ts : List TypeId} {vs : List Value} {ds : List (DataW HH)} {ps : List MemPlace},DataW.TrodAll enc P w b sp hd ts vs ds ps → ds.length = ts.length
 | [],vs,ds,ps,h => by cases vs <;> cases ds <;> simp [DataW.TrodAll] at h ⊢
 | t :: ts,vs,ds,ps,h => by
  obtain ⟨v,vs',d,ds',p,q,rfl,rfl,rfl,h1,h2⟩ := trodAll_cons h
  simp [trodAll_len h2]
theorem kept_of {w' : World} (hos : w'.os = w.os) (hout : w'.output = w.output) (hh : ∀ k,k < w.heap.size → w'.heap[k]? = w.heap[k]?) : w.keptBut w' (fun _ => False) := by
 refine ⟨hos,hout,fun i hi => ?_⟩
 rw [hh i hi]
 cases h : w.heap[i]? with
 | none => simp
 | some o => cases o <;> simp
theorem post_of_old {f : Func} {s : ChangeSpec} {apart fresh handsOn again : Bool} {W W' : World} {args : Array Value} {v : Value} {ds gs : List (DataW HH)} {before pa pv : List MemPlace}
  (hW : DataW.Whole enc P f.params.toList s.vars apart W args.toList ds gs before)
  (hres : ∀ (b : Nat) (sp : Nat → Bool) (hd : Bool),DataW.TrodAll enc P W' b sp hd f.resultTypes.toList (v.resultList f.resultTypes.size) (s.fn HH (ds ++ gs)).results [])
  (hargs : ∀ sp : Nat → Bool,(∀ p ∈ before,sp p.block = true) → DataW.TrodAll enc P W' 0 sp true f.params.toList args.toList (s.fn HH (ds ++ gs)).args pa)
  (hvars : ∀ sp : Nat → Bool,(∀ p ∈ before,sp p.block = true) → DataW.TrodVars enc P W' sp s.vars (s.fn HH (ds ++ gs)).vars pv)
  (hps : before = pa ++ pv) (hk : W.keptBut W' (· ∈ before)) (hfz : ∀ a : Addr,a.block < W.heap.size → W'.frozen? a = W.frozen? a)
  (hok : ∀ (j : Nat) (t : TypeId) (r : Value),f.resultTypes[j]? = some t → (v.resultList f.resultTypes.size)[j]? = some r → Value.okWide P W' .any 0 t r) :
  s.post enc P f apart fresh handsOn again W args v W' := by
 have hold : ∀ p ∈ before,(fun b => decide (b < W.heap.size)) p.block = true := fun p hp => by simpa using hW.lt p hp
 have hlt := hW.lt
 refine ⟨ds,gs,before,[],pa,pv,hW,hres _ _ _,hargs _ hold,hvars _ hold,World.keptBut_mono (fun p hp => ⟨hp, ?_⟩) hk,fun _ => ?_⟩
 ·rw [hps,List.mem_append] at hp
  exact Or.inr hp
 ·obtain ⟨_,_,_,_,_,hz,hn⟩ := hW
  refine ⟨hok,_,_,([] ++ pa) ++ pv,⟨[] ++ pa,pv,trodAll_append (hargs _ (fun _ _ => rfl)) (hres _ _ _),hvars _ (fun _ _ => rfl),rfl, ?_, ?_⟩, ?_⟩
  ·intro b off hp
   have hp' : MemPlace.cell b off ∈ before := by rw [hps];simpa using hp
   rw [hfz ⟨b,off,none⟩ (hlt _ hp')]
   exact hz b off hp'
  ·intro ha
   have := hn ha
   rw [hps] at this
   simpa using this
  ·intro p hp _
   rw [hps]
   simpa using hp
theorem law_contract {C : Cfg} (hP : C.P = P) (hgo : NoGo P) (hm : P.follows .mixedOrders = true) (hext : ExtOK C) {f : FuncId} {fn : Func} {s : ChangeSpec} {N : Nat} {apart fresh handsOn again : Bool} {tb : TypeId}
  (hpl : fn.params.toList.all (plainT P N) = true) (hvars : s.vars = []) (hspec : ∀ ds : List (DataW HH),ds.length = fn.params.size → s.fn HH ds = { results := [.lit (.bool true)],args := ds })
  (hrt : fn.resultTypes = #[tb]) (htb : P.underlying tb = some .bool)
  (hlaw : ∀ xs,ArgsOf P N fn.params.toList xs → ∃ H',lim C (.call f xs { objs := [],lock := 0 }) = some (.ret (.v (.bool true)) H'))
  {W : World} {base : Nat} {args : Array Value} {ds gs : List (DataW HH)} {before : List MemPlace}
  (hval : ∀ (j : Nat) t v,fn.params[j]? = some t → args[j]? = some v → Value.okWide P W .any base t v)
  (hW : DataW.Whole enc P fn.params.toList s.vars apart W args.toList ds gs before) (hg : laidOk (allZ W) := by intro p hp;cases hp) :
  Calls P f args W fun e W' => ∃ v,e = .returned v ∧ s.post enc P fn apart fresh handsOn again W args v W' := by
 subst hP
 have hW' := hW
 obtain ⟨p,q,hA,hV,rfl,hfz,hnd⟩ := hW
 have hV' := hV
 rw [hvars] at hV'
 obtain ⟨rfl,rfl⟩ := trodVars_none hV'
 obtain ⟨xs,hxs,hax⟩ := args_rep hpl (fun j t v ht hv => hval j t v (by simpa using ht) (by simpa using hv)) hA
 obtain ⟨H',hl⟩ := hlaw xs hax
 have hc := top_calls hg hgo hm hext hl hxs
 have hlen : ds.length = fn.params.size := by have := trodAll_len hA;simpa using this
 have hsf : s.fn HH (ds ++ []) = { results := [.lit (.bool true)],args := ds } := by rw [List.append_nil];exact hspec ds hlen
 refine Calls.mono' hc ?_
 rintro e W' ⟨rfl,hh,hsz,hos,hout, -,hfr⟩
 refine ⟨_,rfl,post_of_old (pa := p) (pv := []) hW' ?_ ?_ ?_ rfl (World.keptBut_mono (fun _ h => h.elim) (kept_of hos hout hh)) hfr ?_⟩
 ·intro b sp hd
  rw [hsf,hrt]
  exact trodAll_mk1 (shut_bool htb true)
 ·intro sp hsp
  rw [hsf]
  exact trod_after hh hpl hA fun x hx => hsp x (List.mem_append_left _ hx)
 ·intro sp hsp
  rw [hsf,hvars]
  rfl
 ·exact ok_one hrt rfl (okWide_bool_mk htb true)
end
end Go.Ev
