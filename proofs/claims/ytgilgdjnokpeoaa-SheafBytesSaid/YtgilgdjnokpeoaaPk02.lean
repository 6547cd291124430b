/- What the proof of this claim stands on, part 3: an evaluator of the model, proved right, and what it answers for functions of the program. -/
import Derived.Test.YtgilgdjnokpeoaaPk01
import Derived.IntWalk
import Derived.Lib.Bytealg
import Derived.WalkKit
import Derived.Shelf.Strings.OnBuilder
import Derived.Test.YtgilgdjnokpeoaaProg
import Derived.KernelRfl
import Derived.Laws.StructEq
set_option maxHeartbeats 8000000
set_option maxRecDepth 1000000
set_option linter.unusedSimpArgs false
namespace Go.Ev
section
variable {P : Program}
@[go_sem] theorem eval_tmp (s : Nat) (l : List (Tmp × AV)) (m : List Nat) (t : Tmp) : (AAct.mk s l m).eval (.tmp t) = assoc t l := rfl
@[go_sem] theorem eval_int (a : AAct) (k : IntKind) (n : Int) : a.eval (.const (.int k n)) = some (.v (.int k n)) := rfl
@[go_sem] theorem eval_bool (a : AAct) (b : Bool) : a.eval (.const (.bool b)) = some (.v (.bool b)) := rfl
@[go_sem] theorem eval_string (a : AAct) (b : ByteArray) : a.eval (.const (.string b)) = some (.v (.string b)) := rfl
@[go_sem] theorem eval_nilslice (a : AAct) : a.eval (.const (.slice none 0 0)) = some (.v (.slice none 0 0)) := rfl
@[go_sem] theorem eval_nilfunc (a : AAct) : a.eval (.const .nilFunc) = some (.v .nilFunc) := rfl
@[go_sem] theorem eval_niliface (a : AAct) : a.eval (.const .nilIface) = some (.v .nilIface) := rfl
@[go_sem] theorem eval_func (a : AAct) (f : FuncId) : a.eval (.func f) = some (.fn (.func f) [] []) := rfl
@[go_sem] theorem assoc_nil (t : Tmp) : assoc t [] = none := rfl
@[go_sem] theorem assoc_cons (t k : Tmp) (v : AV) (r : List (Tmp × AV)) : assoc t ((k,v) :: r) = if k = t then some v else assoc t r := by
 simp only [assoc];by_cases h : k = t <;> simp [h]
@[go_sem] theorem set_nil (t : Tmp) (v : AV) : setAssoc t v [] = [(t,v)] := rfl
@[go_sem] theorem set_cons (t k : Tmp) (v x : AV) (r : List (Tmp × AV)) : setAssoc t v ((k,x) :: r) = if k = t then (k,v) :: r else (k,x) :: setAssoc t v r := by
 simp only [setAssoc];by_cases h : k = t <;> simp [h]
@[go_sem] theorem keepT_put (ks : List Nat) (s d : Tmp) (v : AV) (l : List (Tmp × AV)) : keepT ks (putT s d v l) = if d < s ∧ d ∈ ks then setAssoc d v (keepT ks l) else keepT ks l := by
 have h : ∀ ks : List Nat,memNat d ks = decide (d ∈ ks) := by
  intro ks;induction ks with
  | nil => rfl
  | cons x r ih =>
   simp only [memNat,ih,List.mem_cons]
   by_cases hx : x = d
   ·subst hx;simp
   ·have hb : Nat.beq x d = false := by
     cases hb : Nat.beq x d
     ·rfl
     ·exact absurd (Nat.eq_of_beq_eq_true hb) hx
    have hx' : ¬ d = x := fun e => hx e.symm
    simp [hb,hx']
 have key : ∀ l : List (Tmp × AV),keepT ks (setAssoc d v l) = if d ∈ ks then setAssoc d v (keepT ks l) else keepT ks l := by
  intro l
  induction l with
  | nil => simp only [keepT,set_nil,List.filter_cons,List.filter_nil,h];by_cases hd : d ∈ ks <;> simp [hd]
  | cons x r ih =>
   obtain ⟨k,y⟩ := x
   rw [set_cons]
   by_cases hk : k = d
   ·subst hk
    simp only [if_true,keepT,List.filter_cons,h]
    by_cases hd : k ∈ ks <;> simp [hd,set_cons]
   ·rw [if_neg hk]
    simp only [keepT,List.filter_cons] at ih ⊢
    cases hm : memNat k ks
    ·simp only [Bool.false_eq_true,if_false,ih]
    ·simp only [if_true,ih]
     by_cases hd : d ∈ ks
     ·simp only [hd,if_true];rw [set_cons,if_neg hk]
     ·simp only [hd,if_false]
 unfold putT
 by_cases hs : d < s
 ·rw [if_pos hs,key];by_cases hd : d ∈ ks <;> simp [hs,hd]
 ·rw [if_neg hs,if_neg (fun h => hs h.1)]
@[go_sem] theorem assoc_put (t s d : Tmp) (v : AV) (l : List (Tmp × AV)) : assoc t (putT s d v l) = if d < s ∧ d = t then some v else assoc t l := by
 unfold putT
 by_cases hs : d < s
 ·rw [if_pos hs]
  simp only [hs,true_and]
  induction l with
  | nil => simp only [set_nil,assoc_cons]
  | cons x r ih =>
   obtain ⟨k,y⟩ := x
   rw [set_cons]
   by_cases h : k = d
   ·subst h;simp only [if_true,assoc_cons];split <;> rfl
   ·rw [if_neg h,assoc_cons,assoc_cons,ih]
    by_cases h2 : k = t
    ·subst h2;rw [if_pos rfl,if_pos rfl,if_neg (fun e => h e.symm)]
    ·rw [if_neg h2,if_neg h2]
 ·rw [if_neg hs,if_neg (fun h => hs h.1)]
@[go_sem] theorem evals_nil (a : AAct) : evals a [] = some [] := rfl
def consO (x : Option AV) (y : Option (List AV)) : Option (List AV) := match x,y with | some v,some vs => some (v :: vs) | _,_ => none
@[go_sem] theorem consO_some (v : AV) (vs : List AV) : consO (some v) (some vs) = some (v :: vs) := rfl
@[go_sem] theorem evals_cons (a : AAct) (x : Operand) (r : List Operand) : evals a (x :: r) = consO (a.eval x) (evals a r) := rfl
def consP (i : Nat) (x : Option AV) (y : Option (List (Nat × AV))) : Option (List (Nat × AV)) := match x,y with | some v,some vs => some ((i,v) :: vs) | _,_ => none
@[go_sem] theorem consP_some (i : Nat) (v : AV) (vs : List (Nat × AV)) : consP i (some v) (some vs) = some ((i,v) :: vs) := rfl
@[go_sem] theorem evalParts_nil (a : AAct) : evalParts a [] = some [] := rfl
@[go_sem] theorem evalParts_cons (a : AAct) (i : Nat) (x : Operand) (r : List (Nat × Operand)) : evalParts a ((i,x) :: r) = consP i (a.eval x) (evalParts a r) := rfl
@[go_sem] theorem keepT_nil (ks : List Nat) : keepT ks [] = [] := rfl
@[go_sem] theorem keepT_cons (ks : List Nat) (k : Tmp) (v : AV) (r : List (Tmp × AV)) : keepT ks ((k,v) :: r) = if k ∈ ks then (k,v) :: keepT ks r else keepT ks r := by
 have h : ∀ ks : List Nat,memNat k ks = decide (k ∈ ks) := by
  intro ks;induction ks with
  | nil => rfl
  | cons x r ih =>
   simp only [memNat,ih,List.mem_cons]
   by_cases hx : x = k
   ·subst hx;simp
   ·have hb : Nat.beq x k = false := by
     cases hb : Nat.beq x k
     ·rfl
     ·exact absurd (Nat.eq_of_beq_eq_true hb) hx
    have hx' : ¬ k = x := fun e => hx e.symm
    simp [hb,hx']
 simp only [keepT,List.filter_cons,h]
 by_cases hk : k ∈ ks <;> simp [hk]
variable {t : TypeId} {x y : Operand} {k : IntKind}
@[go_sem] theorem bin_lss (m n : Int) : binA P .lss t x y (.v (.int k m)) (.v (.int k n)) = some (.v (.bool (decide (m < n)))) := by cases k <;> rfl
@[go_sem] theorem bin_leq (m n : Int) : binA P .leq t x y (.v (.int k m)) (.v (.int k n)) = some (.v (.bool (decide (m ≤ n)))) := by cases k <;> rfl
@[go_sem] theorem bin_gtr (m n : Int) : binA P .gtr t x y (.v (.int k m)) (.v (.int k n)) = some (.v (.bool (decide (n < m)))) := by cases k <;> rfl
@[go_sem] theorem bin_geq (m n : Int) : binA P .geq t x y (.v (.int k m)) (.v (.int k n)) = some (.v (.bool (decide (n ≤ m)))) := by cases k <;> rfl
@[go_sem] theorem bin_eql (m n : Int) : binA P .eql t x y (.v (.int k m)) (.v (.int k n)) = some (.v (.bool (decide (m = n)))) := by
 have : (m == n) = decide (m = n) := rfl
 cases k <;> rw [← this] <;> rfl
@[go_sem] theorem bin_neq (m n : Int) : binA P .neq t x y (.v (.int k m)) (.v (.int k n)) = some (.v (.bool (!decide (m = n)))) := by
 have : (m != n) = !decide (m = n) := rfl
 cases k <;> rw [← this] <;> rfl
@[go_sem] theorem bin_add (m n : Int) : binA P .add t x y (.v (.int k m)) (.v (.int k n)) = some (.v (.int k (k.wrap (m + n)))) := by cases k <;> rfl
@[go_sem] theorem bin_sub (m n : Int) : binA P .sub t x y (.v (.int k m)) (.v (.int k n)) = some (.v (.int k (k.wrap (m - n)))) := by cases k <;> rfl
@[go_sem] theorem bin_mul (m n : Int) : binA P .mul t x y (.v (.int k m)) (.v (.int k n)) = some (.v (.int k (k.wrap (m * n)))) := by cases k <;> rfl
@[go_sem] theorem bin_str (op : BinOp) (u w : ByteArray) : binA P op t x y (.v (.string u)) (.v (.string w)) = atomA (strOp op u w) := rfl
theorem wrap_in (n : Int) (h1 : -9223372036854775808 ≤ n) (h2 : n ≤ 9223372036854775807) : IntKind.i64.wrap n = n := IntWalk.i64_in n ⟨h1,h2⟩
theorem bytesEq_iff : ∀ (a b : List UInt8),bytesEq a b = decide (a = b)
 | [],[] => by simp [bytesEq]
 | [],_ :: _ => by simp [bytesEq]
 | _ :: _,[] => by simp [bytesEq]
 | x :: a,y :: b => by
  simp only [bytesEq,bytesEq_iff a b,List.cons.injEq]
  by_cases h : x = y
  ·subst h;simp
  ·have : ¬ x.toNat = y.toNat := fun e => h (UInt8.toNat_inj.1 e)
   simp [h,this]
theorem str_ext (a b : ByteArray) : a = b ↔ a.data.toList = b.data.toList := by
 constructor
 ·rintro rfl;rfl
 ·intro h;cases a;cases b;congr;exact Array.toList_inj.1 h
@[go_sem] theorem str_eql (u w : ByteArray) : strOp .eql u w = some (.bool (decide (u = w))) := by
 simp only [strOp,bytesEq_iff,str_ext]
@[go_sem] theorem str_neq (u w : ByteArray) : strOp .neq u w = some (.bool (!decide (u = w))) := by
 simp only [strOp,bytesEq_iff,str_ext]
@[go_sem] theorem atomA_bool (b : Bool) : atomA (some (.bool b)) = some (.v (.bool b)) := rfl
theorem index_str (h : P.underlying t = some .string) (s : ByteArray) (k : IntKind) (i : Int) : indexA P t (.v (.string s)) (.v (.int k i)) = if 0 ≤ i then (strAt s i.toNat).map fun b => .v (.int .u8 b.toNat) else none := by
 unfold indexA;rw [h]
theorem partOf_one (cs : List AV) (k : Nat) (h : isAggT P t = some false) {n : Nat} (hs : sizeT P t = some n) : partOf P t cs k = cs[k]? := by
 unfold partOf;rw [h,hs]
@[go_sem] theorem load_ro (H : Heap) (z : AV) (k : Nat) : loadA P H t (.ro z k) = partOf P t z.cells k := rfl
def rowPart (P : Program) (t : TypeId) (k : Nat) (r : Option (Nat × TypeId × Nat × Bool × List AV)) : Option AV := match r with | some (_,_,_,_,cs) => partOf P t cs k | _ => none
@[go_sem] theorem rowPart_some (m e sz g) (cs : List AV) (k : Nat) : rowPart P t k (some (m,e,sz,g,cs)) = partOf P t cs k := rfl
@[go_sem] theorem load_ptr (H : Heap) (b v k : Nat) : loadA P H t (.ptr b v k) = rowPart P t k (H.row b v) := rfl
def fieldOff (P : Program) (t : TypeId) (i : Nat) : Option (Nat × Nat) :=
 match P.underlying t with
 | some (.struct fs) => (match fs[i]? with | some f => (sizeT P f.type).map fun n => (f.offset,n) | none => none)
 | _ => none
theorem fieldAddr_off {i off n : Nat} (h : fieldOff P t i = some (off,n + 1)) (x : AV) : fieldAddrA P t x i = match x with | .ptr b v k => some (.ptr b v (k + off)) | .ro z k => some (.ro z (k + off)) | _ => none := by
 unfold fieldOff at h
 unfold fieldAddrA
 cases hu : P.underlying t with
 | none => rw [hu] at h;simp at h
 | some u =>
  rw [hu] at h
  cases u <;> simp only at h ⊢ <;> try (cases h)
  rename_i fs
  cases hf : fs[i]? with
  | none => rw [hf] at h;simp at h
  | some f =>
   rw [hf] at h;simp only at h ⊢
   cases hs : sizeT P f.type with
   | none => rw [hs] at h;simp at h
   | some m =>
    rw [hs] at h;simp only [Option.map_some,Option.some.injEq,Prod.mk.injEq] at h
    obtain ⟨h1,h2⟩ := h
    subst h1;subst h2
    cases x <;> rfl
theorem fieldAddr_ptr {i off n : Nat} (h : fieldOff P t i = some (off,n + 1)) (b v k : Nat) : fieldAddrA P t (.ptr b v k) i = some (.ptr b v (k + off)) := fieldAddr_off h _
theorem len_str (h : P.underlying t = some .string) (H : Heap) (s : ByteArray) (r) : lenA P H (t :: r) [.v (.string s)] = some (.v (.int .i64 s.size)) := by
 unfold lenA;simp only;rw [h]
theorem len_slice {e : TypeId} (h : P.underlying t = some (.slice e)) (H : Heap) (x : AV) (r) : lenA P H (t :: r) [x] = match x with | .v (.slice none 0 0) => some (.v (.int .i64 0)) | .vs _ xs _ => some (.v (.int .i64 xs.length)) | .sl _ _ _ len _ => some (.v (.int .i64 len)) | _ => none := by
 unfold lenA;simp only;rw [h]
 split <;> simp_all
end
end Go.Ev
namespace Go.Ev
section
variable {C : Cfg} {me : FuncId} {rd : Option Nat}
def goP (o : Out) (K : Post) : Prop := match o with | .go e a H => AtK K e a H | _ => False
def Lp (C : Cfg) (me : FuncId) (rd : Option Nat) (ks : List Tmp) (c : Code) (a : AAct) (H : Heap) (K : Post) : Prop := bindO (lim C (.loop me rd ks c a H)) fun o => goP o K
@[congr] theorem Lp_congr {ks ks' : List Tmp} {c : Code} {a a' : AAct} {H H' : Heap} {K : Post} (hk : ks = ks') (ha : a = a') (hH : H = H') : Lp C me rd ks c a H K = Lp C me rd ks' c a' H' K := by rw [hk,ha,hH]
@[go_sem ↓] theorem wp_loopE (c : Code) (a : AAct) (H : Heap) (K : Post) : Wp C me rd (.loop c) a H K = Lp C me rd (a.tmps.map (·.1)) c a H K := by
 show bindO (match lim C (.loop me rd (a.tmps.map (·.1)) c a H) with | some (.go e a' H') => some (e,a',H') | _ => none) _ = bindO _ _
 cases lim C (.loop me rd (a.tmps.map (·.1)) c a H) with
 | none => rfl
 | some o => cases o <;> rfl
def loopK (C : Cfg) (me : FuncId) (rd : Option Nat) (ks : List Tmp) (c : Code) (n : Nat) (K : Post) : Post := fun e a H =>
 match e with
 | .normal => Lp C me rd ks c (a.only ks) (H.trim n ((a.only ks).tmps.map (·.2)) (a.only ks).marks) K
 | .exit i => AtK K (.exit i) (a.only ks) (H.trim n ((a.only ks).tmps.map (·.2)) (a.only ks).marks)
 | .ret => AtK K .ret a H
theorem lim_eq (t : Task) : lim C t = taskA C (lim C) t := by
 cases h : taskA C (lim C) t with
 | some x => exact lim_step.2 h
 | none =>
  cases h' : lim C t with
  | none => rfl
  | some x => rw [lim_step.1 h'] at h;cases h
theorem Lp_step (ks : List Tmp) (c : Code) (a : AAct) (H : Heap) (K : Post) : Lp C me rd ks c a H K = Wp C me rd c a H (loopK C me rd ks c H.size K) := by
 unfold Lp
 rw [lim_eq]
 unfold Wp
 simp only [taskA]
 rcases codeA C (lim C) me rd c a H with _ | ⟨e,a',H'⟩
 ·rfl
 ·cases e <;> rfl
theorem trim_size (H : Heap) (vs : List AV) (ms : List Nat) : H.trim H.size vs ms = H := by
 unfold Heap.trim
 have : H.objs.take H.size = H.objs := List.take_length
 split
 ·rw [this]
 ·rfl
theorem settle_size (H : Heap) : settleH H.size H = H := by
 unfold settleH
 have h : H.objs.take H.size = H.objs := List.take_length
 split
 ·rw [h]
 ·rfl
@[go_sem] theorem trim_same (H : Heap) (vs : List AV) (ms : List Nat) : H.trim H.size vs ms = H := trim_size H vs ms
@[go_sem] theorem settle_same (H : Heap) : settleH H.size H = H := settle_size H
def Fn' (C : Cfg) (f : FuncId) (args : List AV) (H : Heap) (K : PostO) : Prop := bindO (lim C (.call f args H)) fun o => retP o K
def finK (C : Cfg) (rs : List ResultVar) (K : PostO) : Post := fun e a H =>
 match e with
 | .exit _ => False
 | _ => bindO (killAll a.marks H) fun H2 => bindO (resultsA C a H2 rs) fun vs => AtO K (oneOf vs) H2
@[go_sem ↓] theorem finK_ret (rs : List ResultVar) (K : PostO) (a : AAct) (H : Heap) : AtK (finK C rs K) .ret a H = bindO (killAll a.marks H) fun H2 => bindO (resultsA C a H2 rs) fun vs => AtO K (oneOf vs) H2 := rfl
@[go_sem ↓] theorem finK_normal (rs : List ResultVar) (K : PostO) (a : AAct) (H : Heap) : AtK (finK C rs K) .normal a H = bindO (killAll a.marks H) fun H2 => bindO (resultsA C a H2 rs) fun vs => AtO K (oneOf vs) H2 := rfl
theorem fn_step {f : FuncId} {args : List AV} {H : Heap} {K : PostO} {fn : Func} (hf : C.P.funcs[f]? = some fn) {c : Code} (hc : fn.body = some c) (hlay : C.lay f = none := by rfl) :
  Fn' C f args H K = Wp C f none c ⟨args.length + (fn.ntmps - args.length),number 0 args,[]⟩ H (finK C fn.results.toList K) := by
 unfold Fn'
 rw [lim_eq]
 unfold Wp
 simp only [taskA,hlay,hf,hc]
 rcases codeA C (lim C) f none c ⟨args.length + (fn.ntmps - args.length),number 0 args,[]⟩ H with _ | ⟨e,a',H'⟩
 ·rfl
 ·cases e with
  | exit i => rfl
  | normal =>
   simp only [bindO_some,finK]
   rcases killAll a'.marks H' with _ | H2
   ·rfl
   ·simp only [bindO_some];cases resultsA C a' H2 fn.results.toList <;> rfl
  | ret =>
   simp only [bindO_some,finK]
   rcases killAll a'.marks H' with _ | H2
   ·rfl
   ·simp only [bindO_some];cases resultsA C a' H2 fn.results.toList <;> rfl
@[go_sem] theorem kill_nil (H : Heap) : killAll [] H = some H := rfl
@[go_sem] theorem results_nil (a : AAct) (H : Heap) : resultsA C a H [] = some [] := rfl
@[go_sem] theorem results_tmp (s : Nat) (l : List (Tmp × AV)) (m : List Nat) (H : Heap) (t : Tmp) (r : List ResultVar) : resultsA C ⟨s,l,m⟩ H (.tmp t :: r) = consO (assoc t l) (resultsA C ⟨s,l,m⟩ H r) := rfl
@[go_sem] theorem results_cell (s : Nat) (l : List (Tmp × AV)) (m : List Nat) (H : Heap) (t : Tmp) (ty : TypeId) (r : List ResultVar) : resultsA C ⟨s,l,m⟩ H (.cell t ty :: r) = consO ((assoc t l).bind (loadA C.P H ty)) (resultsA C ⟨s,l,m⟩ H r) := rfl
@[go_sem] theorem oneOf_one (v : AV) : oneOf [v] = v := rfl
@[go_sem] theorem oneOf_two (v w : AV) (r : List AV) : oneOf (v :: w :: r) = .tup (v :: w :: r) := rfl
@[go_sem] theorem oneOf_nil : oneOf [] = .tup [] := rfl
@[go_sem] theorem number_nil (n : Nat) : number n [] = [] := rfl
@[go_sem] theorem number_cons (n : Nat) (x : AV) (r : List AV) : number n (x :: r) = (n,x) :: number (n + 1) r := rfl
def ansK (v : AV) : PostO := fun x H => freezeV { H with lock := 0 } 1000000 x = some v
@[go_sem] theorem ansK_at (v x : AV) (l : List (Option AObj)) (k : Nat) : AtO (ansK v) x ⟨l,k⟩ = (freezeV ⟨l,0⟩ 1000000 x = some v) := rfl
def Ans (C : Cfg) (f : FuncId) (args : List AV) (v : AV) : Prop :=
 Fn' C f args { objs := [],lock := 0 } (ansK v)
theorem Ans.iff {f : FuncId} {args : List AV} {v : AV} : Ans C f args v ↔ ∃ x H,lim C (.call f args { objs := [],lock := 0 }) = some (.ret x H) ∧ freezeV { H with lock := 0 } 1000000 x = some v := by
 unfold Ans Fn' ansK
 rw [bindO_iff]
 constructor
 ·rintro ⟨o,h1,h2⟩
  cases o with
  | ret x H => exact ⟨x,H,h1,h2⟩
  | go => exact h2.elim
 ·rintro ⟨x,H,h1,h2⟩;exact ⟨_,h1,h2⟩
theorem Ans.call {f : FuncId} {args : List AV} {v : AV} (h : Ans C f args v) {d : Option Tmp} (hx : C.ext f = none) (hp : C.pure me f d = true) (hb : boundL args = 0) (H : Heap) (hh : C.exh f = none := by rfl) : callA C (lim C) me f d args H = some (v,H) := by
 obtain ⟨x,H',h1,h2⟩ := Ans.iff.1 h
 have hk : callKind C me f d args = 1 := by unfold callKind;rw [hp,hb];rfl
 unfold callA standA standH;rw [hx];simp only;rw [hh];simp only
 unfold callB;rw [hk];simp only [h1,h2,Option.map_some]
def SlOf (sz : Nat) (xs : List AV) (x : AV) : Prop := (x = .v (.slice none 0 0) ∧ xs = []) ∨ ∃ cap,x = .vs sz xs cap
def slLen (x : AV) : Option AV := match x with | .v (.slice none 0 0) => some (.v (.int .i64 0)) | .vs _ xs _ => some (.v (.int .i64 xs.length)) | .sl _ _ _ len _ => some (.v (.int .i64 len)) | _ => none
theorem len_sl {P : Program} {t e : TypeId} (h : P.underlying t = some (.slice e)) (H : Heap) (x : AV) : lenA P H [t] [x] = slLen x := len_slice h H x []
def slIdx (s : Nat) (x ix : AV) : Option AV :=
 match ix with
 | .v (.int _ i) =>
  match x with
  | .sl b v off len _ => if 0 ≤ i ∧ i < (len : Int) then some (.ptr b v (off + i.toNat * s)) else none
  | .vs sz xs _ => if 0 ≤ i ∧ i < (xs.length : Int) ∧ sz = s then (xs[i.toNat]?).map fun y => .ro y 0 else none
  | _ => none
 | _ => none
theorem idx_sl {P : Program} {t e : TypeId} {s : Nat} (h : P.underlying t = some (.slice e)) (hs : sizeT P e = some s) (x ix : AV) : indexAddrA P t x ix = slIdx s x ix := by
 unfold indexAddrA slIdx;rw [h]
 rcases ix with v | _ | _ | _ | _ | _ | _ | _ | _ | _ | _ <;> try rfl
 cases v <;> try rfl
 simp only;rw [hs]
 cases x <;> rfl
theorem SlOf.len {sz : Nat} {xs : List AV} {x : AV} (h : SlOf sz xs x) : slLen x = some (.v (.int .i64 (xs.length : Nat))) := by
 rcases h with ⟨rfl,rfl⟩ | ⟨cap,rfl⟩ <;> rfl
theorem SlOf.idx {sz : Nat} {xs : List AV} {x y : AV} (h : SlOf sz xs x) {j : Nat} (hy : xs[j]? = some y) (k : IntKind) : slIdx sz x (.v (.int k (j : Nat))) = some (.ro y 0) := by
 rcases h with ⟨rfl,rfl⟩ | ⟨cap,rfl⟩
 ·simp at hy
 ·have := (List.getElem?_eq_some_iff.1 hy).1
  unfold slIdx;simp only [Int.toNat_natCast,hy,Option.map_some]
  rw [if_pos ⟨by omega,by omega,trivial⟩]
theorem SlOf.bound {sz : Nat} {xs : List AV} {x : AV} (h : SlOf sz xs x) : bound x = 0 := by
 rcases h with ⟨rfl,rfl⟩ | ⟨cap,rfl⟩ <;> rfl
theorem SlOf.flat {sz : Nat} {xs : List AV} {x : AV} (h : SlOf sz xs x) : x.flat = true := by
 rcases h with ⟨rfl,rfl⟩ | ⟨cap,rfl⟩ <;> rfl
theorem SlOf.cells {sz : Nat} {xs : List AV} {x : AV} (h : SlOf sz xs x) : x.cells = [x] := by
 rcases h with ⟨rfl,rfl⟩ | ⟨cap,rfl⟩ <;> rfl
def bsFin (mt : Bool) (e n : Nat) (H : Heap) (slot len : Nat) (cs : List AV) : Option (AV × Heap) :=
 if cs.all AV.flat = true then (if mt = true ∨ boundL cs ≠ 0 then some (.sl slot 0 0 len (some len),H.put slot (.cells 0 (boundL cs) e n false cs)) else some (.vs n (chunk n len cs) (some len),H)) else none
theorem buildSl_eq {P : Program} {t e n : Nat} {z : AV} (hu : P.underlying t = some (.slice e)) (hs : sizeT P e = some n) (hz : zeroT P e = some z) (hn : 0 < n) (hl : z.cells.length = n) (mt : Bool) (H : Heap) (slot len : Nat) (parts : List (Nat × AV)) :
  buildSliceA P mt H slot t len parts = if len * n ≤ 65536 then (fillA (fun i => some (i * n,n)) (repeatCells z.cells len) parts).bind (bsFin mt e n H slot len) else none := by
 unfold buildSliceA
 rw [hu];simp only;rw [hs,hz];simp only [hn,hl,and_true]
 split
 ·cases fillA (fun i => some (i * n,n)) (repeatCells z.cells len) parts with
  | none => rfl
  | some cs =>
   simp only [Option.bind_some,bsFin]
   cases hf : cs.all AV.flat
   ·rfl
   ·simp only [Bool.true_eq_false,if_false,if_true]
    have : Nat.beq (boundL cs) 0 = decide (boundL cs = 0) := by
     cases boundL cs <;> rfl
    rw [this]
    cases mt <;> by_cases hb : boundL cs = 0 <;> simp [hb]
 ·rfl
@[go_sem] theorem fillA_nil (place : Nat → Option (Nat × Nat)) (cells : List AV) : fillA place cells [] = some cells := rfl
def fill1 (place : Nat → Option (Nat × Nat)) (cells : List AV) (v : AV) (rest : List (Nat × AV)) (p : Option (Nat × Nat)) : Option (List AV) :=
 match p with
 | none => none
 | some (off,size) => if v.cells.length = size ∧ off + size ≤ cells.length then fillA place (splice off v.cells cells) rest else none
@[go_sem] theorem fillA_cons (place : Nat → Option (Nat × Nat)) (cells : List AV) (i : Nat) (v : AV) (rest : List (Nat × AV)) : fillA place cells ((i,v) :: rest) = fill1 place cells v rest (place i) := by
 unfold fill1;simp only [fillA]
 cases place i <;> rfl
@[go_sem] theorem fill1_some (place : Nat → Option (Nat × Nat)) (cells : List AV) (v : AV) (rest : List (Nat × AV)) (off size : Nat) : fill1 place cells v rest (some (off,size)) = if v.cells.length = size ∧ off + size ≤ cells.length then fillA place (splice off v.cells cells) rest else none := rfl
theorem wrap_succ (j : Nat) (h : j + 1 < 2 ^ 63) : IntKind.i64.wrap ((j : Int) + 1) = ((j + 1 : Nat) : Int) := by
 rw [wrap_in _ (by omega) (by omega)];omega
end
end Go.Ev
namespace Go.Ev
@[go_sem] theorem heap_size (l : List (Option AObj)) (k : Nat) : (Heap.mk l k).size = l.length := rfl
@[go_sem] theorem heap_put (l : List (Option AObj)) (k b : Nat) (o : AObj) : (Heap.mk l k).put b o = ⟨setOrPush (some o) b l,k⟩ := rfl
@[go_sem] theorem sop_nil {α : Type} (x : α) (n : Nat) : setOrPush x n [] = [x] := by cases n <;> rfl
@[go_sem] theorem sop_zero {α : Type} (x y : α) (r : List α) : setOrPush x 0 (y :: r) = x :: r := rfl
@[go_sem] theorem sop_succ {α : Type} (x y : α) (n : Nat) (r : List α) : setOrPush x (n + 1) (y :: r) = y :: setOrPush x n r := rfl
def objRow (v : Nat) (o : Option AObj) : Option (Nat × TypeId × Nat × Bool × List AV) := match o with | some (.cells w m e sz g cs) => if w = v then some (m,e,sz,g,cs) else none | _ => none
@[go_sem] theorem objRow_cells (v w m e sz g) (cs : List AV) : objRow v (some (.cells w m e sz g cs)) = if w = v then some (m,e,sz,g,cs) else none := rfl
@[go_sem] theorem heap_row (l : List (Option AObj)) (k b v : Nat) : (Heap.mk l k).row b v = objRow v ((l[b]?).join) := by
 unfold Heap.row Heap.get objRow;rfl
@[go_sem] theorem join_some {α : Type} (x : Option α) : (some x).join = x := rfl
@[go_sem] theorem bound_v (x : Value) : bound (.v x) = 0 := rfl
@[go_sem] theorem bound_agg (l : List AV) : bound (.agg l) = boundL l := rfl
@[go_sem] theorem boundL_nil : boundL [] = 0 := rfl
@[go_sem] theorem boundL_cons (x : AV) (r : List AV) : boundL (x :: r) = Nat.max (bound x) (boundL r) := rfl
@[go_sem] theorem nmax (a b : Nat) : Nat.max a b = if a ≤ b then b else a := by rw [show Nat.max a b = max a b from rfl,Nat.max_def]
@[go_sem] theorem settle_mk (l : List (Option AObj)) (k n : Nat) : settleH n ⟨l,k⟩ = if (l.drop n).all Option.isNone = true then ⟨l.take n,k⟩ else ⟨l,k⟩ := rfl
@[go_sem] theorem isNone_some' {α : Type} (x : α) : (some x).isNone = false := rfl
@[go_sem] theorem isNone_none' {α : Type} : (none : Option α).isNone = true := rfl
@[go_sem] theorem trim_len (l : List (Option AObj)) (k n : Nat) (vs : List AV) (ms : List Nat) (h : l.length ≤ n) : (Heap.mk l k).trim n vs ms = ⟨l,k⟩ := by
 unfold Heap.trim
 have : l.take n = l := List.take_of_length_le h
 split
 ·simp only [this]
 ·rfl
@[go_sem] theorem freeze_v (H : Heap) (x : Value) : freezeV H 1000000 (.v x) = some (.v x) := rfl
@[go_sem] theorem cells_v (x : Value) : AV.cells (.v x) = [.v x] := rfl
@[go_sem] theorem flat_v (x : Value) : AV.flat (.v x) = true := rfl
@[go_sem] theorem cells_sl (b v o n : Nat) (k : Option Nat) : AV.cells (.sl b v o n k) = [.sl b v o n k] := rfl
@[go_sem] theorem flat_sl (b v o n : Nat) (k : Option Nat) : AV.flat (.sl b v o n k) = true := rfl
@[go_sem] theorem cells_agg (l : List AV) : AV.cells (.agg l) = l := rfl
def stObj (l : List (Option AObj)) (k b v off : Nat) (xs : List AV) (o : Option AObj) : Option Heap :=
 match o with
 | some (.cells w m e sz g cs) => if w = v ∧ k ≤ b ∧ off + xs.length ≤ cs.length ∧ xs.all AV.flat = true then some ⟨setOrPush (some (.cells w (Nat.max m (boundL xs)) e sz g (splice off xs cs))) b l,k⟩ else none
 | _ => none
@[go_sem] theorem stObj_cells (l : List (Option AObj)) (k b v off : Nat) (xs : List AV) (w m e sz g) (cs : List AV) : stObj l k b v off xs (some (.cells w m e sz g cs)) = if w = v ∧ k ≤ b ∧ off + xs.length ≤ cs.length ∧ xs.all AV.flat = true then some ⟨setOrPush (some (.cells w (Nat.max m (boundL xs)) e sz g (splice off xs cs))) b l,k⟩ else none := rfl
@[go_sem] theorem store_mk (l : List (Option AObj)) (k b v off : Nat) (xs : List AV) : storeCells ⟨l,k⟩ b v off xs = stObj l k b v off xs ((l[b]?).join) := by
 unfold storeCells
 rw [heap_row]
 unfold objRow stObj
 cases (l[b]?).join with
 | none => rfl
 | some o =>
  cases o with
  | cells w m e sz g cs =>
   simp only
   by_cases hw : w = v
   ·subst hw;simp only [if_true,true_and];rfl
   ·simp only [hw,if_false,false_and]
  | _ => rfl
end Go.Ev
namespace Go.Ev
@[go_sem] theorem obeq_tf : ((some true : Option Bool) == some false) = false := rfl
@[go_sem] theorem obeq_ft : ((some false : Option Bool) == some true) = false := rfl
section
variable {C : Cfg} {me : FuncId} {rd : Option Nat}
def loadI (P : Program) (H : Heap) (t : TypeId) (p : AV) : Option AV :=
 match p with
 | .ptr b v k => if b < H.size then loadA P H t (.ptr b v k) else none
 | .ro z k => loadA P H t (.ro z k)
 | _ => none
def lenI (P : Program) (ts : List TypeId) (l : List AV) : Option AV :=
 match l with
 | .mp _ :: _ => none
 | l => lenA P { objs := [],lock := 0 } ts l
open Classical in
noncomputable def callI (C : Cfg) (me f : FuncId) (d : Option Tmp) (args : List AV) : Option AV :=
 if h : ∃ v,(∀ H,callA C (lim C) me f d args H = some (v,H)) ∧ ((standA C f args).isSome = true ∨ callKind C me f d args = 1) then some h.choose else none
noncomputable def callV (C : Cfg) (me : FuncId) (d : Option Tmp) (g : AV) (l : List AV) : Option AV :=
 match g with
 | .fn (.func f) x y => callI C me f d (x ++ l ++ y)
 | _ => none
def sliceI (P : Program) (t : TypeId) (v : AV) (l h m : Option AV) : Option AV :=
 match v with
 | .sl _ _ _ _ _ => none
 | v => sliceA P { objs := [],lock := 0 } t v l h m
def bareO (d : Option Tmp) (op : Op) : Oper := { dst := d,op := op,type := 0,pos := "",after := #[],guard := none }
noncomputable def opI (C : Cfg) (me : FuncId) (H : Heap) (d : Option Tmp) (op : Op) (a : AAct) : Option AV :=
 match op with
 | .load t x => (a.eval x).bind (loadI C.P H t)
 | .slice t x l h m => (a.eval x).bind fun v => (lookO a l).bind fun l => (lookO a h).bind fun h => (lookO a m).bind fun m => sliceI C.P t v l h m
 | .call c =>
  match c.callee with
  | .builtin .len => (evals a c.args.toList).bind (lenI C.P c.argTypes.toList)
  | .builtin .min => (evals a c.args.toList).bind (mmA false)
  | .value g => (evals a c.args.toList).bind fun l => (a.eval g).bind fun v => callV C me d v l
  | _ => none
 | op => if plainO (bareO d op) then (opA C (lim C) me (bareO d op) a H 0).map fun r => r.1.getD undefA else none
theorem callI_of {f : FuncId} {d : Option Tmp} {args : List AV} {v : AV} (h : ∀ H,callA C (lim C) me f d args H = some (v,H)) (hk : (standA C f args).isSome = true ∨ callKind C me f d args = 1) : callI C me f d args = some v := by
 unfold callI
 have hex : ∃ v,(∀ H,callA C (lim C) me f d args H = some (v,H)) ∧ ((standA C f args).isSome = true ∨ callKind C me f d args = 1) := ⟨v,h,hk⟩
 rw [dif_pos hex]
 have h1 := hex.choose_spec.1 { objs := [],lock := 0 }
 rw [h] at h1
 simp only [Option.some.injEq,Prod.mk.injEq] at h1
 rw [← h1.1]
theorem Ans.callI {f : FuncId} {args : List AV} {v : AV} (h : Ans C f args v) {d : Option Tmp} (hx : C.ext f = none) (hp : C.pure me f d = true) (hb : boundL args = 0) (hh : C.exh f = none := by rfl) : callI C me f d args = some v :=
 callI_of (fun H => h.call hx hp hb H hh) (Or.inr (by unfold callKind;rw [hp,hb];rfl))
theorem ext_call {f : FuncId} {g : List AV → Option AV} (hx : C.ext f = some g) {args : List AV} {v : AV} (h : g args = some v) {d : Option Tmp} (H : Heap) : callA C (lim C) me f d args H = some (v,H) := by
 unfold callA standA;rw [hx];simp only [h]
noncomputable def idleA (C : Cfg) (me : FuncId) (arr : Array Oper) (H : Heap) : List Oper → AAct → Option AAct
 | [],a => some a
 | o :: r,a =>
  match wantedA arr a o with
  | some true => match opI C me H o.dst o.op a with | some v => idleA C me arr H r (a.put o.dst v) | none => none
  | some false => idleA C me arr H r (a.put o.dst undefA)
  | none => none
theorem plain_slot {o : Oper} (hp : plainO o = true) (a : AAct) (H : Heap) (s s' : Nat) : opA C (lim C) me o a H s = opA C (lim C) me o a H s' := by
 unfold plainO at hp
 unfold opA
 cases ho : o.op <;> rw [ho] at hp <;> simp only [] at hp <;> first | (cases hp;done) | rfl
def WpI (C : Cfg) (me : FuncId) (arr : Array Oper) (ops : List Oper) (a : AAct) (H : Heap) (K : AAct → Prop) : Prop := bindO (idleA C me arr H ops a) K
@[congr] theorem WpI_congr {arr : Array Oper} {ops : List Oper} {a a' : AAct} {H H' : Heap} {K : AAct → Prop} (ha : a = a') (hH : H = H') : WpI C me arr ops a H K = WpI C me arr ops a' H' K := by rw [ha,hH]
def drawOk (ops : Array Oper) : Bool := apartM (waitsAll ops.toList) 0 [] (rowsM ops ops.toList) && waitsOk (waitsAll ops.toList) ops.toList.length
def WpJ (C : Cfg) (me : FuncId) (d : Option Tmp) (op : Op) (a : AAct) (H : Heap) (K : PostO) : Prop := bindO (opI C me H d op a) fun v => AtO K v H
section
variable (d : Option Tmp) (a : AAct) (H : Heap) (arr : Array Oper) (r : List Oper) (d' : Option Tmp) (a' : AAct) (H2 : Heap) (K : AAct → Prop)
@[go_sem ↓] theorem wpJ_slice (K : PostO) (t x l h m) : WpJ C me d (.slice t x l h m) a H K = bindO (a.eval x) fun v => bindO (lookO a l) fun l => bindO (lookO a h) fun h => bindO (lookO a m) fun m => bindO (sliceI C.P t v l h m) fun v => AtO K v H := by
 unfold WpJ opI;simp only
 cases a.eval x with
 | none => rfl
 | some v =>
  cases lookO a l with
  | none => rfl
  | some l =>
   cases lookO a h with
   | none => rfl
   | some h =>
    cases lookO a m with
    | none => rfl
    | some m => rfl
@[go_sem ↓] theorem wpJ_len (K : PostO) (args ts) : WpJ C me d (.call ⟨.builtin .len,args,ts⟩) a H K = bindO (evals a args.toList) fun l => bindO (lenI C.P ts.toList l) fun v => AtO K v H := by
 unfold WpJ opI;simp only;cases evals a args.toList with
 | none => rfl
 | some p => rfl
@[go_sem ↓] theorem wpJ_call (K : PostO) (g args ts) : WpJ C me d (.call ⟨.value g,args,ts⟩) a H K = bindO (evals a args.toList) fun l => bindO (a.eval g) fun v => bindO (callV C me d v l) fun v => AtO K v H := by
 unfold WpJ opI;simp only
 cases evals a args.toList with
 | none => rfl
 | some p =>
  simp only [Option.bind_some,bindO_some]
  cases a.eval g with
  | none => rfl
  | some v => rfl
end
@[go_sem] theorem callV_fn (d : Option Tmp) (f : FuncId) (x y l : List AV) : callV C me d (.fn (.func f) x y) l = callI C me f d (x ++ l ++ y) := rfl
theorem SlOf.slice {P : Program} {t et sz : Nat} (hu : P.underlying t = some (.slice et)) (hs : sizeT P et = some sz) {xs : List AV} {x : AV} (h : SlOf sz xs x) (j : Nat) (hj : j ≤ xs.length) : ∃ y,sliceI P t x none (some (.v (.int .i64 j))) none = some y ∧ SlOf sz (xs.take j) y := by
 rcases h with ⟨rfl,rfl⟩ | ⟨cap,rfl⟩
 ·have : j = 0 := by simpa using hj
  subst this
  refine ⟨.v (.slice none 0 0), ?_,Or.inl ⟨rfl,rfl⟩⟩
  unfold sliceI sliceA
  simp [hu,hs,boundA]
 ·refine ⟨.vs sz (xs.take j) (capOf none xs.length 0 cap), ?_,Or.inr ⟨_,rfl⟩⟩
  have h1 : (0 : Int) ≤ (j : Int) ∧ (j : Int) ≤ (xs.length : Int) := by omega
  unfold sliceI sliceA
  simp [hu,hs,boundA,h1]
theorem SlOf.lenI {sz : Nat} {xs : List AV} {x : AV} (h : SlOf sz xs x) (P : Program) (ts : List TypeId) (r : List AV) : lenI P ts (x :: r) = lenA P { objs := [],lock := 0 } ts (x :: r) := by
 rcases h with ⟨rfl,rfl⟩ | ⟨cap,rfl⟩ <;> rfl
end
end Go.Ev
namespace Go.Ev
def moreExt (e : FuncId → Option (List AV → Option AV)) (f : FuncId) (g : List AV → Option AV) : FuncId → Option (List AV → Option AV) := fun f' => if Nat.beq f' f then some g else e f'
theorem extOK_more {C C' : Cfg} (hP : C'.P = C.P) {f : FuncId} {g : List AV → Option AV} (hg : ∀ args v,g args = some v → ∀ (Z : Fzn) (ρ : Pls) (H : Heap) (w : World) (vals : List Value),Sim Z ρ H w → RepL Z ρ args vals → FnMeets C.P f vals w (After Z ρ H w v H))
  (hext : ExtOK C) (he : C'.ext = moreExt C.ext f g) (hlay : C'.lay = C.lay := by rfl) (hexh : C'.exh = C.exh := by rfl) : ExtOK C' := by
 refine ⟨fun f' g' hf' args v hv Z ρ H w vals hs hl => ?_,fun f' g' hf' => by rw [hP];rw [hlay] at hf';exact hext.lay f' g' hf',fun f' g' hf' => by rw [hP];rw [hexh] at hf';exact hext.exh f' g' hf'⟩
 rw [hP]
 rw [he] at hf'
 unfold moreExt at hf'
 split at hf'
 ·rename_i hb
  have := Nat.eq_of_beq_eq_true hb
  subst this
  simp only [Option.some.injEq] at hf'
  subst hf'
  exact hg args v hv Z ρ H w vals hs hl
 ·exact hext.ext f' g' hf' args v hv Z ρ H w vals hs hl
end Go.Ev
namespace Go.Ev
def idxB (c : Nat) : Int → List UInt8 → Int
 | _,[] => -1
 | i,b :: r => if Nat.beq b.toNat c then i else idxB c (i + 1) r
theorem idxB_eq (c : UInt8) : ∀ (l : List UInt8) (i : Int),idxB c.toNat i l = if Lib.indexByte l c = -1 then -1 else Lib.indexByte l c + i
 | [],i => by simp [idxB,Lib.indexByte]
 | b :: l,i => by
  unfold idxB Lib.indexByte
  by_cases h : b = c
  ·subst h
   have h1 : Nat.beq b.toNat b.toNat = true := Nat.beq_refl _
   simp
  ·have h1 : Nat.beq b.toNat c.toNat = false := by
    cases hb : Nat.beq b.toNat c.toNat
    ·rfl
    ·exact absurd (UInt8.toNat_inj.1 (Nat.eq_of_beq_eq_true hb)) h
   have hge := Lib.indexByte_ge l c
   rw [h1,idxB_eq c l (i + 1)]
   simp only [Bool.false_eq_true,if_false,beq_iff_eq,h]
   by_cases h2 : Lib.indexByte l c = -1
   ·simp [h2]
   ·simp only [h2,if_false]
    rw [if_neg (by omega)];omega
def idxStr : List AV → Option AV
 | [.v (.string s),.v (.int .u8 c)] => if 0 ≤ c ∧ c < 256 then some (.v (.int .i64 (idxB c.toNat 0 s.data.toList))) else none
 | _ => none
theorem ext_idx {P : Program} {f : FuncId} {fn : Func} (hf : P.funcs[f]? = some fn) (hb : fn.body = none) (hn : (fn.name == "runtime.NumGoroutine") = false) (h1 : (Extern.findNext fn).isNone = true) (h2 : Extern.find fn = some Extern.BytealgIndexByte.indexByte)
  {args : List AV} {v : AV} (h : idxStr args = some v) (Z : Fzn) (ρ : Pls) (H : Heap) (w : World) (vals : List Value) (hs : Sim Z ρ H w) (hl : RepL Z ρ args vals) : FnMeets P f vals w (After Z ρ H w v H) := by
 unfold idxStr at h
 split at h
 ·rename_i s c
  split at h
  ·rename_i hc
   obtain ⟨v1,ws,rfl,hv1,hl⟩ := hl.uncons
   obtain ⟨v2,ws,rfl,hv2,hl⟩ := hl.uncons
   have : ws = [] := List.length_eq_zero_iff.1 hl.1.symm
   subst this
   obtain ⟨rfl, -⟩ := hv1.v_inv
   obtain ⟨rfl, -⟩ := hv2.v_inv
   simp only [Option.some.injEq] at h
   subst h
   refine Or.inl ⟨.int .i64 (Lib.indexByte s.data.toList c.toNat.toUInt8),w, ?_,Z,ρ, ?_,hs,Ext.refl _ _ _ _⟩
   ·have hfn : Extern.findNext fn = none := Option.isNone_iff_eq_none.1 h1
    have := Lib.run_indexByteString (P := P) s c w
    have hn' : ¬ fn.name = "runtime.NumGoroutine" := by
     intro e;rw [e] at hn;simp at hn
    simp [callFunc,hf,hn',hb,hfn,h2,this]
   ·have hcn : c.toNat.toUInt8.toNat = c.toNat := by
     have : c.toNat < 256 := by omega
     simp [Nat.toUInt8,Nat.mod_eq_of_lt this]
    have := idxB_eq c.toNat.toUInt8 s.data.toList 0
    rw [hcn] at this
    have e : idxB c.toNat 0 s.data.toList = Lib.indexByte s.data.toList c.toNat.toUInt8 := by
     rw [this];split
     ·rename_i h;exact h.symm
     ·omega
    rw [e];exact .v rfl
  ·cases h
 ·cases h
end Go.Ev
namespace Go.Ev
open Go.Proofs Go.Shelf Go.RowKit
theorem Sim.below {Z : Fzn} {ρ : Pls} {H : Heap} {w w' : World} (hs : Sim Z ρ H w) (hb : Below w.heap.size w w') : Sim Z ρ H w' :=
 ⟨fun b o h hl => let ⟨pl,obj,h1,h2,h3,h4⟩ := hs.objs b o h hl; ⟨pl,obj,h1,(hb.block _ (Array.getElem?_eq_some_iff.1 h2).1).trans h2,h3,h4⟩,hs.inj,
  fun k o hk => (hb.block k (Array.getElem?_eq_some_iff.1 (hs.zok k o hk)).1).trans (hs.zok k o hk),hs.fresh,hs.lk,hs.lg⟩
theorem Ext.below {Z : Fzn} {ρ : Pls} {H : Heap} {w w' : World} (hb : Below w.heap.size w w') : Ext Z ρ H w Z ρ H w' :=
 ⟨.refl _,.refl _,fun k hk _ => hb.block k hk,fun _ _ h => h,hb.size,hb.os,hb.output,hb.tape,(fun s => nomatch (show true = false from s)),fun _ ha _ => hb.frozen ha,rfl,fun _ _ => rfl,Nat.le_refl _,fun _ _ _ => rfl,fun _ _ _ => rfl,fun _ _ h _ => ⟨h,fun _ => rfl⟩⟩
end Go.Ev
namespace Go.Ev
open Go.Proofs Go.Shelf Go.RowKit
def ccA (tB : TypeId) : List AV → Heap → Option (AV × Heap)
 | [.ptr b v 0],H =>
  match H.row b v with
  | some (_,e,_,false,[.v (.pointer none),_]) => if e = tB then (storeCells H b v 0 [.ptr b v 0]).map fun H' => (.tup [],H') else none
  | some (_,_,_,false,[.ptr b' v' 0,_]) => if b' = b ∧ v' = v then some (.tup [],H) else none
  | _ => none
 | _,_ => none
theorem extOK_lay {C C' : Cfg} (hP : C'.P = C.P) {f : FuncId} {g : List AV → Heap → Option (AV × Heap)} (hg : ∀ args H v H',g args H = some (v,H') → MeetsCall C.P f args H v H')
  (hext : ExtOK C) (he : C'.ext = C.ext := by rfl) (hexh : C'.exh = C.exh := by rfl) (hlay : C'.lay = fun f' => if Nat.beq f' f then some g else C.lay f') : ExtOK C' := by
 refine ⟨fun f' g' hf' => by rw [hP];rw [he] at hf';exact hext.ext f' g' hf',fun f' g' hf' args H v H' hv => ?_,fun f' g' hf' => by rw [hP];rw [hexh] at hf';exact hext.exh f' g' hf'⟩
 rw [hP]
 rw [hlay] at hf'
 simp only at hf'
 split at hf'
 ·rename_i hb
  have := Nat.eq_of_beq_eq_true hb
  subst this
  simp only [Option.some.injEq] at hf'
  subst hf'
  exact hg args H v H' hv
 ·exact hext.lay f' g' hf' args H v H' hv
end Go.Ev
namespace Go.Ev
open Go.Proofs
def impF : List Nat := [27,30,36,47,62]
def impC : List (Nat × Nat × Nat) := []
def altF : List Nat := []
def keepF : Nat → List Nat
 | 2 => []
 | 3 => [0,1,22,5,6,8,7,9,10,13,11,14,12,15,4]
 | 4 => [0,1,2,25,7,8,9,10,12,11,13,59,58,60,15,14,6]
 | 5 => [0,3,1,34,7,8,2,9,11,10,12,13,15,14,16,17,19,18,20,115,114,116,113,23,122,121,123,24,133,132,134,131,26,140,139,141,27,152,151,153,28,21,6]
 | 6 => [0,6,3,10,18,2]
 | 7 => [0,4,10,14,13,15,6,5,26,2,3]
 | 8 => [0,8,5,12,4,25,2,3]
 | 9 => [0,9,2,3,11,12,13,6,5,4]
 | 10 => [0,11,5,14,6,7,25,37,8,60,2,3,4]
 | 11 => [0,5,2]
 | 12 => [0,5,2]
 | 13 => [0,1,10,5,14,25,4]
 | 14 => [0,1,2,20,21,30,6,7]
 | 15 => [0,1,2,26,27,34,9,8,59,69,10,12,84,6,7]
 | 16 => [0,1,12,3,17,26,2]
 | 17 => [0,1,4,15,3,5,2]
 | 18 => [0,2,7,16,4,1,8,22,6,28,9,5]
 | 19 => [0,2,7,14,4,1,18,6,23,8,5]
 | 20 => [0,2,1,7,15,6,4,5]
 | 21 => [0,2,7,14,1,6,20,4,5]
 | 22 => [0,2,1,7,15,4,6,5]
 | 23 => [0,2,1,7,16,4,6,8,5]
 | 24 => [0,1,4,2]
 | 25 => [0,1,4,11,2]
 | 26 => [0,1,2,3,22,5,27,6,7,59,4]
 | 27 => [0,1,4,5]
 | 28 => [0,1,4]
 | 29 => [0,2]
 | 30 => [0,2]
 | 31 => [3,0,8,17,4,24,42,2]
 | 32 => [0,1,5,4]
 | 33 => [0,1,2]
 | 34 => [0,8,11,10,12,4,22,28,27,29,5,41,3,2]
 | 35 => [0,1,10,13,12,14,5,24,4]
 | 36 => [0,4,2]
 | 37 => [1,2,5,4,13,23,0,8,31,6,7]
 | 38 => [0,1,5,6,4]
 | 39 => [5,0,1,27,6,62,4]
 | 40 => [1,3,0,23,6,4,5]
 | 41 => [0,1,4,21,2,5,37,36,38,35,7,44,3]
 | 42 => [0,2,1,20,19,21,18,5,7,4]
 | 43 => [0,1,2]
 | 44 => [0,1,17,5,27,4,7,6,49,2,3]
 | 45 => [0,2,7,14,4,6,1,25,5]
 | 46 => [0,1,2,6]
 | 47 => [0,6,19]
 | 48 => [1,0,13,12,14,5,6,4]
 | 49 => [1,6,0,14,5,4]
 | 50 => [7,8,1,3,4,6,19,5,0,30]
 | 51 => [0,6,7,1,29,4,5]
 | 52 => [0,1,9,8,10,7,6,2,22,4]
 | 53 => [1,0,3,4]
 | 54 => [7,0,1,2,25,6]
 | 55 => [0,1,4]
 | 56 => [0,1,4]
 | 57 => [0,1,2,4]
 | 59 => [0,1,4]
 | 60 => [0,11,10,12,9,3,5,20,27,26,28,25,6,8,2]
 | 61 => [0,1,4]
 | 62 => [1,6,0,16,4]
 | _ => []
def pureF (h g : Nat) (d : Option Nat) : Bool := !(impF.contains g) && !(impC.contains (h,g,d.getD 100000))
structure Exts where
 x : FuncId → Option (List AV → Option AV)
def Exts.more (e : Exts) (f : FuncId) (g : List AV → Option AV) : Exts := { e with x := fun h => if Nat.beq h f then some g else e.x h }
def frzF (me : FuncId) (d : Option Tmp) : Bool := match d with | some d => decide (me = 3) && decide (d = 25) | none => false
noncomputable def Cx (e : Exts) : Cfg := { P := Try.prog,pure := pureF,alter := fun h _ => altF.contains h,keep := keepF,ext := e.x,lay := fun h => if Nat.beq h 47 then some (ccA 65) else none,frz := frzF }
def Quiet (e : Exts) : Prop := ∀ f,f ≠ 1000000 → f ≠ 1000000 → f ≠ 1000000 → f ≠ 63 → e.x f = none
@[go_sem] theorem Cx_P (e : Exts) : (Cx e).P = Try.prog := rfl
@[go_sem] theorem frz_none (e : Exts) (me : FuncId) : (Cx e).frz me none = false := rfl
@[go_sem] theorem frz_some (e : Exts) (me : FuncId) (d : Tmp) : (Cx e).frz me (some d) = (decide (me = 3) && decide (d = 25)) := rfl
theorem size_3 : sizeT Try.prog 3 = some 1 := by kernel_rfl
theorem size_5 : sizeT Try.prog 5 = some 1 := by kernel_rfl
theorem size_9 : sizeT Try.prog 9 = some 1 := by kernel_rfl
theorem size_22 : sizeT Try.prog 22 = some 1 := by kernel_rfl
theorem size_63 : sizeT Try.prog 63 = some 1 := by kernel_rfl
@[go_sem] theorem zero_3 : zeroT Try.prog 3 = some (.v (.int .i64 0)) := by kernel_rfl
@[go_sem] theorem zero_5 : zeroT Try.prog 5 = some (.v (.int .u8 0)) := by kernel_rfl
@[go_sem] theorem zero_9 : zeroT Try.prog 9 = some (.v (.string ⟨#[]⟩)) := by kernel_rfl
@[go_sem] theorem zero_22 : zeroT Try.prog 22 = some (.v (.slice none 0 0)) := by kernel_rfl
@[go_sem] theorem zero_65 : zeroT Try.prog 65 = some (.agg [.v (.pointer none),.v (.slice none 0 0)]) := by kernel_rfl
@[go_sem] theorem keep_3 (e : Exts) : (Cx e).keep 3 = [0,1,22,5,6,8,7,9,10,13,11,14,12,15,4] := rfl
@[go_sem] theorem alter_3 (e : Exts) (d : Option Tmp) : (Cx e).alter 3 d = false := rfl
theorem fn_3 (e : Exts) : (Cx e).P.funcs[3]? = some Try.f3 := Try.func3
@[go_sem] theorem keep_6 (e : Exts) : (Cx e).keep 6 = [0,6,3,10,18,2] := rfl
theorem fn_6 (e : Exts) : (Cx e).P.funcs[6]? = some Try.f6 := Try.func6
theorem ext_6 {e : Exts} (he : Quiet e) : (Cx e).ext 6 = none := he _ (by decide) (by decide) (by decide) (by decide)
theorem pure_6 (e : Exts) (h : FuncId) (d : Option Tmp) : (Cx e).pure h 6 d = true := by simp [Cx,pureF,impF,impC]
@[go_sem] theorem keep_7 (e : Exts) : (Cx e).keep 7 = [0,4,10,14,13,15,6,5,26,2,3] := rfl
theorem fn_7 (e : Exts) : (Cx e).P.funcs[7]? = some Try.f7 := Try.func7
theorem ext_7 {e : Exts} (he : Quiet e) : (Cx e).ext 7 = none := he _ (by decide) (by decide) (by decide) (by decide)
theorem pure_7 (e : Exts) (h : FuncId) (d : Option Tmp) : (Cx e).pure h 7 d = true := by simp [Cx,pureF,impF,impC]
@[go_sem] theorem keep_8 (e : Exts) : (Cx e).keep 8 = [0,8,5,12,4,25,2,3] := rfl
theorem fn_8 (e : Exts) : (Cx e).P.funcs[8]? = some Try.f8 := Try.func8
theorem ext_8 {e : Exts} (he : Quiet e) : (Cx e).ext 8 = none := he _ (by decide) (by decide) (by decide) (by decide)
theorem pure_8 (e : Exts) (h : FuncId) (d : Option Tmp) : (Cx e).pure h 8 d = true := by simp [Cx,pureF,impF,impC]
@[go_sem] theorem keep_9 (e : Exts) : (Cx e).keep 9 = [0,9,2,3,11,12,13,6,5,4] := rfl
@[go_sem] theorem alter_9 (e : Exts) (d : Option Tmp) : (Cx e).alter 9 d = false := rfl
theorem fn_9 (e : Exts) : (Cx e).P.funcs[9]? = some Try.f9 := Try.func9
theorem ext_9 {e : Exts} (he : Quiet e) : (Cx e).ext 9 = none := he _ (by decide) (by decide) (by decide) (by decide)
theorem pure_9 (e : Exts) (h : FuncId) (d : Option Tmp) : (Cx e).pure h 9 d = true := by simp [Cx,pureF,impF,impC]
@[go_sem] theorem keep_10 (e : Exts) : (Cx e).keep 10 = [0,11,5,14,6,7,25,37,8,60,2,3,4] := rfl
@[go_sem] theorem alter_10 (e : Exts) (d : Option Tmp) : (Cx e).alter 10 d = false := rfl
theorem fn_10 (e : Exts) : (Cx e).P.funcs[10]? = some Try.f10 := Try.func10
theorem ext_10 {e : Exts} (he : Quiet e) : (Cx e).ext 10 = none := he _ (by decide) (by decide) (by decide) (by decide)
theorem pure_10 (e : Exts) (h : FuncId) (d : Option Tmp) : (Cx e).pure h 10 d = true := by simp [Cx,pureF,impF,impC]
@[go_sem] theorem keep_11 (e : Exts) : (Cx e).keep 11 = [0,5,2] := rfl
theorem fn_11 (e : Exts) : (Cx e).P.funcs[11]? = some Try.f11 := Try.func11
theorem ext_11 {e : Exts} (he : Quiet e) : (Cx e).ext 11 = none := he _ (by decide) (by decide) (by decide) (by decide)
theorem pure_11 (e : Exts) (h : FuncId) (d : Option Tmp) : (Cx e).pure h 11 d = true := by simp [Cx,pureF,impF,impC]
@[go_sem] theorem keep_12 (e : Exts) : (Cx e).keep 12 = [0,5,2] := rfl
theorem fn_12 (e : Exts) : (Cx e).P.funcs[12]? = some Try.f12 := Try.func12
theorem ext_12 {e : Exts} (he : Quiet e) : (Cx e).ext 12 = none := he _ (by decide) (by decide) (by decide) (by decide)
theorem pure_12 (e : Exts) (h : FuncId) (d : Option Tmp) : (Cx e).pure h 12 d = true := by simp [Cx,pureF,impF,impC]
@[go_sem] theorem keep_13 (e : Exts) : (Cx e).keep 13 = [0,1,10,5,14,25,4] := rfl
theorem fn_13 (e : Exts) : (Cx e).P.funcs[13]? = some Try.f13 := Try.func13
theorem ext_13 {e : Exts} (he : Quiet e) : (Cx e).ext 13 = none := he _ (by decide) (by decide) (by decide) (by decide)
theorem pure_13 (e : Exts) (h : FuncId) (d : Option Tmp) : (Cx e).pure h 13 d = true := by simp [Cx,pureF,impF,impC]
@[go_sem] theorem keep_27 (e : Exts) : (Cx e).keep 27 = [0,1,4,5] := rfl
theorem fn_27 (e : Exts) : (Cx e).P.funcs[27]? = some Try.f27 := Try.func27
theorem ext_27 {e : Exts} (he : Quiet e) : (Cx e).ext 27 = none := he _ (by decide) (by decide) (by decide) (by decide)
@[go_sem] theorem keep_28 (e : Exts) : (Cx e).keep 28 = [0,1,4] := rfl
theorem fn_28 (e : Exts) : (Cx e).P.funcs[28]? = some Try.f28 := Try.func28
theorem ext_28 {e : Exts} (he : Quiet e) : (Cx e).ext 28 = none := he _ (by decide) (by decide) (by decide) (by decide)
theorem pure_28 (e : Exts) (h : FuncId) (d : Option Tmp) : (Cx e).pure h 28 d = true := by simp [Cx,pureF,impF,impC]
@[go_sem] theorem keep_29 (e : Exts) : (Cx e).keep 29 = [0,2] := rfl
theorem fn_29 (e : Exts) : (Cx e).P.funcs[29]? = some Try.f29 := Try.func29
theorem ext_29 {e : Exts} (he : Quiet e) : (Cx e).ext 29 = none := he _ (by decide) (by decide) (by decide) (by decide)
theorem pure_29 (e : Exts) (h : FuncId) (d : Option Tmp) : (Cx e).pure h 29 d = true := by simp [Cx,pureF,impF,impC]
@[go_sem] theorem keep_30 (e : Exts) : (Cx e).keep 30 = [0,2] := rfl
theorem fn_30 (e : Exts) : (Cx e).P.funcs[30]? = some Try.f30 := Try.func30
theorem ext_30 {e : Exts} (he : Quiet e) : (Cx e).ext 30 = none := he _ (by decide) (by decide) (by decide) (by decide)
@[go_sem] theorem keep_31 (e : Exts) : (Cx e).keep 31 = [3,0,8,17,4,24,42,2] := rfl
theorem fn_31 (e : Exts) : (Cx e).P.funcs[31]? = some Try.f31 := Try.func31
theorem ext_31 {e : Exts} (he : Quiet e) : (Cx e).ext 31 = none := he _ (by decide) (by decide) (by decide) (by decide)
theorem pure_31 (e : Exts) (h : FuncId) (d : Option Tmp) : (Cx e).pure h 31 d = true := by simp [Cx,pureF,impF,impC]
@[go_sem] theorem keep_32 (e : Exts) : (Cx e).keep 32 = [0,1,5,4] := rfl
theorem fn_32 (e : Exts) : (Cx e).P.funcs[32]? = some Try.f32 := Try.func32
theorem ext_32 {e : Exts} (he : Quiet e) : (Cx e).ext 32 = none := he _ (by decide) (by decide) (by decide) (by decide)
theorem pure_32 (e : Exts) (h : FuncId) (d : Option Tmp) : (Cx e).pure h 32 d = true := by simp [Cx,pureF,impF,impC]
@[go_sem] theorem keep_33 (e : Exts) : (Cx e).keep 33 = [0,1,2] := rfl
theorem fn_33 (e : Exts) : (Cx e).P.funcs[33]? = some Try.f33 := Try.func33
theorem ext_33 {e : Exts} (he : Quiet e) : (Cx e).ext 33 = none := he _ (by decide) (by decide) (by decide) (by decide)
theorem pure_33 (e : Exts) (h : FuncId) (d : Option Tmp) : (Cx e).pure h 33 d = true := by simp [Cx,pureF,impF,impC]
@[go_sem] theorem keep_34 (e : Exts) : (Cx e).keep 34 = [0,8,11,10,12,4,22,28,27,29,5,41,3,2] := rfl
@[go_sem] theorem alter_34 (e : Exts) (d : Option Tmp) : (Cx e).alter 34 d = false := rfl
theorem fn_34 (e : Exts) : (Cx e).P.funcs[34]? = some Try.f34 := Try.func34
theorem ext_34 {e : Exts} (he : Quiet e) : (Cx e).ext 34 = none := he _ (by decide) (by decide) (by decide) (by decide)
theorem pure_34 (e : Exts) (h : FuncId) (d : Option Tmp) : (Cx e).pure h 34 d = true := by simp [Cx,pureF,impF,impC]
@[go_sem] theorem keep_46 (e : Exts) : (Cx e).keep 46 = [0,1,2,6] := rfl
theorem fn_46 (e : Exts) : (Cx e).P.funcs[46]? = some Try.f46 := Try.func46
theorem ext_46 {e : Exts} (he : Quiet e) : (Cx e).ext 46 = none := he _ (by decide) (by decide) (by decide) (by decide)
theorem pure_46 (e : Exts) (h : FuncId) (d : Option Tmp) : (Cx e).pure h 46 d = true := by simp [Cx,pureF,impF,impC]
theorem ext_47 {e : Exts} (he : Quiet e) : (Cx e).ext 47 = none := he _ (by decide) (by decide) (by decide) (by decide)
@[go_sem] theorem keep_48 (e : Exts) : (Cx e).keep 48 = [1,0,13,12,14,5,6,4] := rfl
@[go_sem] theorem alter_48 (e : Exts) (d : Option Tmp) : (Cx e).alter 48 d = false := rfl
theorem fn_48 (e : Exts) : (Cx e).P.funcs[48]? = some Try.f48 := Try.func48
theorem ext_48 {e : Exts} (he : Quiet e) : (Cx e).ext 48 = none := he _ (by decide) (by decide) (by decide) (by decide)
theorem pure_48 (e : Exts) (h : FuncId) (d : Option Tmp) : (Cx e).pure h 48 d = true := by simp [Cx,pureF,impF,impC]
@[go_sem] theorem keep_49 (e : Exts) : (Cx e).keep 49 = [1,6,0,14,5,4] := rfl
theorem fn_49 (e : Exts) : (Cx e).P.funcs[49]? = some Try.f49 := Try.func49
theorem ext_49 {e : Exts} (he : Quiet e) : (Cx e).ext 49 = none := he _ (by decide) (by decide) (by decide) (by decide)
theorem pure_49 (e : Exts) (h : FuncId) (d : Option Tmp) : (Cx e).pure h 49 d = true := by simp [Cx,pureF,impF,impC]
@[go_sem] theorem keep_50 (e : Exts) : (Cx e).keep 50 = [7,8,1,3,4,6,19,5,0,30] := rfl
theorem fn_50 (e : Exts) : (Cx e).P.funcs[50]? = some Try.f50 := Try.func50
@[go_sem] theorem keep_51 (e : Exts) : (Cx e).keep 51 = [0,6,7,1,29,4,5] := rfl
@[go_sem] theorem alter_51 (e : Exts) (d : Option Tmp) : (Cx e).alter 51 d = false := rfl
theorem fn_51 (e : Exts) : (Cx e).P.funcs[51]? = some Try.f51 := Try.func51
theorem ext_51 {e : Exts} (he : Quiet e) : (Cx e).ext 51 = none := he _ (by decide) (by decide) (by decide) (by decide)
theorem pure_51 (e : Exts) (h : FuncId) (d : Option Tmp) : (Cx e).pure h 51 d = true := by simp [Cx,pureF,impF,impC]
@[go_sem] theorem keep_52 (e : Exts) : (Cx e).keep 52 = [0,1,9,8,10,7,6,2,22,4] := rfl
theorem fn_52 (e : Exts) : (Cx e).P.funcs[52]? = some Try.f52 := Try.func52
theorem ext_52 {e : Exts} (he : Quiet e) : (Cx e).ext 52 = none := he _ (by decide) (by decide) (by decide) (by decide)
theorem pure_52 (e : Exts) (h : FuncId) (d : Option Tmp) : (Cx e).pure h 52 d = true := by simp [Cx,pureF,impF,impC]
@[go_sem] theorem keep_59 (e : Exts) : (Cx e).keep 59 = [0,1,4] := rfl
theorem fn_59 (e : Exts) : (Cx e).P.funcs[59]? = some Try.f59 := Try.func59
theorem ext_59 {e : Exts} (he : Quiet e) : (Cx e).ext 59 = none := he _ (by decide) (by decide) (by decide) (by decide)
theorem pure_59 (e : Exts) (h : FuncId) (d : Option Tmp) : (Cx e).pure h 59 d = true := by simp [Cx,pureF,impF,impC]
@[go_sem] theorem keep_61 (e : Exts) : (Cx e).keep 61 = [0,1,4] := rfl
theorem fn_61 (e : Exts) : (Cx e).P.funcs[61]? = some Try.f61 := Try.func61
theorem ext_61 {e : Exts} (he : Quiet e) : (Cx e).ext 61 = none := he _ (by decide) (by decide) (by decide) (by decide)
theorem pure_61 (e : Exts) (h : FuncId) (d : Option Tmp) : (Cx e).pure h 61 d = true := by simp [Cx,pureF,impF,impC]
theorem isagg_3 : isAggT Try.prog 3 = some false := by kernel_rfl
@[go_sem] theorem part_3 (cs : List AV) (k : Nat) : partOf Try.prog 3 cs k = cs[k]? := partOf_one cs k isagg_3 size_3
@[go_sem] theorem store_3 (H : Heap) (b v k : Nat) (x : AV) : storeA Try.prog H 3 (.ptr b v k) x = if x.cells.length = 1 then storeCells H b v k x.cells else none := by unfold storeA;rw [size_3]
theorem isagg_9 : isAggT Try.prog 9 = some false := by kernel_rfl
@[go_sem] theorem part_9 (cs : List AV) (k : Nat) : partOf Try.prog 9 cs k = cs[k]? := partOf_one cs k isagg_9 size_9
theorem und_9 : Try.prog.underlying 9 = some .string := by kernel_rfl
@[go_sem] theorem len_9 (H : Heap) (s : ByteArray) : lenA Try.prog H [9] [.v (.string s)] = some (.v (.int .i64 s.size)) := len_str und_9 H s []
@[go_sem] theorem idx_9 (s : ByteArray) (k : IntKind) (n : Int) : indexA Try.prog 9 (.v (.string s)) (.v (.int k n)) = if 0 ≤ n then (strAt s n.toNat).map fun b => .v (.int .u8 b.toNat) else none := index_str und_9 s k n
theorem isagg_22 : isAggT Try.prog 22 = some false := by kernel_rfl
@[go_sem] theorem part_22 (cs : List AV) (k : Nat) : partOf Try.prog 22 cs k = cs[k]? := partOf_one cs k isagg_22 size_22
@[go_sem] theorem store_22 (H : Heap) (b v k : Nat) (x : AV) : storeA Try.prog H 22 (.ptr b v k) x = if x.cells.length = 1 then storeCells H b v k x.cells else none := by unfold storeA;rw [size_22]
theorem und_22 : Try.prog.underlying 22 = some (.slice 9) := by kernel_rfl
@[go_sem] theorem len_22 (H : Heap) (x : AV) : lenA Try.prog H [22] [x] = slLen x := len_sl und_22 H x
@[go_sem] theorem idx_22 (x y : AV) : indexAddrA Try.prog 22 x y = slIdx 1 x y := idx_sl und_22 size_9 x y
@[go_sem] theorem bsl_22 (mt : Bool) (H : Heap) (slot len : Nat) (parts : List (Nat × AV)) : buildSliceA Try.prog mt H slot 22 len parts = if len * 1 ≤ 65536 then (fillA (fun i => some (i * 1,1)) (repeatCells [.v (.string ⟨#[]⟩)] len) parts).bind (bsFin mt 9 1 H slot len) else none := buildSl_eq und_22 size_9 zero_9 (by decide) rfl mt H slot len parts
theorem isagg_63 : isAggT Try.prog 63 = some false := by kernel_rfl
@[go_sem] theorem part_63 (cs : List AV) (k : Nat) : partOf Try.prog 63 cs k = cs[k]? := partOf_one cs k isagg_63 size_63
@[go_sem] theorem store_63 (H : Heap) (b v k : Nat) (x : AV) : storeA Try.prog H 63 (.ptr b v k) x = if x.cells.length = 1 then storeCells H b v k x.cells else none := by unfold storeA;rw [size_63]
theorem und_63 : Try.prog.underlying 63 = some (.slice 5) := by kernel_rfl
@[go_sem] theorem len_63 (H : Heap) (x : AV) : lenA Try.prog H [63] [x] = slLen x := len_sl und_63 H x
@[go_sem] theorem bsl_63 (mt : Bool) (H : Heap) (slot len : Nat) (parts : List (Nat × AV)) : buildSliceA Try.prog mt H slot 63 len parts = if len * 1 ≤ 65536 then (fillA (fun i => some (i * 1,1)) (repeatCells [.v (.int .u8 0)] len) parts).bind (bsFin mt 5 1 H slot len) else none := buildSl_eq und_63 size_5 zero_5 (by decide) rfl mt H slot len parts
theorem foff_65_1 : fieldOff Try.prog 65 1 = some (1,1) := by kernel_rfl
@[go_sem] theorem fptr_65_1 (b v k : Nat) : fieldAddrA Try.prog 65 (.ptr b v k) 1 = some (.ptr b v (k + 1)) := fieldAddr_ptr foff_65_1 b v k
theorem foff_100_0 : fieldOff Try.prog 100 0 = some (0,1) := by kernel_rfl
@[go_sem] theorem fptr_100_0 (b v k : Nat) : fieldAddrA Try.prog 100 (.ptr b v k) 0 = some (.ptr b v (k + 0)) := fieldAddr_ptr foff_100_0 b v k
theorem foff_100_1 : fieldOff Try.prog 100 1 = some (1,1) := by kernel_rfl
@[go_sem] theorem fptr_100_1 (b v k : Nat) : fieldAddrA Try.prog 100 (.ptr b v k) 1 = some (.ptr b v (k + 1)) := fieldAddr_ptr foff_100_1 b v k
@[go_sem] theorem build_100 (ps : List (Nat × AV)) : buildA Try.prog 100 ps = (fillA (fun i => ([(0,1),(1,1)] : List (Nat × Nat))[i]?) [.v (.int .i64 0),.v (.int .i64 0)] ps).map .agg := by kernel_rfl
theorem und_108 : Try.prog.underlying 108 = some (.slice 3) := by kernel_rfl
@[go_sem] theorem len_108 (H : Heap) (x : AV) : lenA Try.prog H [108] [x] = slLen x := len_sl und_108 H x
@[go_sem] theorem idx_108 (x y : AV) : indexAddrA Try.prog 108 x y = slIdx 1 x y := idx_sl und_108 size_3 x y
@[go_sem] theorem bsl_108 (mt : Bool) (H : Heap) (slot len : Nat) (parts : List (Nat × AV)) : buildSliceA Try.prog mt H slot 108 len parts = if len * 1 ≤ 65536 then (fillA (fun i => some (i * 1,1)) (repeatCells [.v (.int .i64 0)] len) parts).bind (bsFin mt 3 1 H slot len) else none := buildSl_eq und_108 size_3 zero_3 (by decide) rfl mt H slot len parts
attribute [go_sem] repeatCells splice chunk bsFin ne_eq not_true_eq_false not_false_eq_true List.headD_cons Bool.false_eq_true Nat.le_refl Nat.zero_mul Nat.one_mul Nat.mul_one decide_true decide_false Bool.not_true Bool.not_false List.mem_cons List.not_mem_nil true_or or_true false_or or_false and_true true_and and_self List.getElem?_cons_succ List.getElem?_cons_zero Option.bind_some Option.map_some Option.map_none List.map_cons List.map_nil List.length_cons List.length_nil List.filterMap_cons List.filterMap_nil List.cons_append List.nil_append List.append_nil Nat.zero_add Nat.add_zero List.take_succ_cons List.take_zero List.take_nil List.drop_succ_cons List.drop_zero List.drop_nil List.all_cons List.all_nil Bool.and_true Bool.true_and Bool.false_and Bool.and_false Bool.or_false Bool.false_or Bool.true_or Bool.or_true beq_iff_eq beq_self_eq_true
attribute [go_sem_proc] Nat.reduceEqDiff Nat.reduceLT Nat.reduceLeDiff Nat.reduceAdd Nat.reduceSub Nat.reduceMul reduceCtorEq
end Go.Ev
namespace Go.Ev
def Heap.plus (H : Heap) (E : List (Option AObj)) : Heap := { H with objs := H.objs ++ E }
theorem plus_size (H : Heap) (E : List (Option AObj)) : (H.plus E).size = H.size + E.length := by simp [Heap.plus,Heap.size]
theorem plus_nil (H : Heap) : H.plus [] = H := by simp [Heap.plus]
theorem plus_plus (H : Heap) (E F : List (Option AObj)) : (H.plus E).plus F = H.plus (E ++ F) := by simp [Heap.plus]
theorem plus_get {H : Heap} {b : Nat} (E : List (Option AObj)) (h : b < H.size) : (H.plus E).get b = H.get b := by
 unfold Heap.get Heap.plus;simp only;rw [List.getElem?_append_left h]
theorem plus_get_hi {H : Heap} {b : Nat} (E : List (Option AObj)) (h : H.size ≤ b) : (H.plus E).get b = (E[b - H.size]?).join := by
 unfold Heap.get Heap.plus;simp only;rw [List.getElem?_append_right h];rfl
theorem plus_row {H : Heap} {b v : Nat} (E : List (Option AObj)) (h : b < H.size) : (H.plus E).row b v = H.row b v := by
 unfold Heap.row;rw [plus_get E h]
theorem sop_left {α : Type} (x : α) : ∀ (b : Nat) (l E : List α),b < l.length → setOrPush x b (l ++ E) = setOrPush x b l ++ E
 | _,[],_,h => by simp at h
 | 0,y :: r,E,_ => rfl
 | n + 1,y :: r,E,h => by simp only [List.cons_append,setOrPush];rw [sop_left x n r E (by simpa using h)]
theorem sop_right {α : Type} (x : α) : ∀ (b : Nat) (l E : List α),l.length ≤ b → setOrPush x b (l ++ E) = l ++ setOrPush x (b - l.length) E
 | b,[],E,_ => rfl
 | 0,y :: r,E,h => by simp at h
 | n + 1,y :: r,E,h => by
  simp only [List.cons_append,setOrPush];rw [sop_right x n r E (by simpa using h)];simp
theorem plus_put {H : Heap} {b : Nat} (E : List (Option AObj)) (o : AObj) (h : b < H.size) : (H.plus E).put b o = (H.put b o).plus E := by
 unfold Heap.put Heap.plus;simp only;rw [sop_left _ _ _ _ h]
theorem plus_put_hi {H : Heap} {b : Nat} (E : List (Option AObj)) (o : AObj) (h : H.size ≤ b) : (H.plus E).put b o = H.plus (setOrPush (some o) (b - H.size) E) := by
 unfold Heap.put Heap.plus;simp only;rw [sop_right _ _ _ _ h];rfl
theorem put_push {H : Heap} (o : AObj) : H.put H.size o = H.plus [some o] := by
 have h := plus_put_hi (H := H) (b := H.size) [] o (Nat.le_refl _)
 rw [plus_nil] at h
 rw [h,Nat.sub_self];rfl
theorem plus_push {H : Heap} (E : List (Option AObj)) (o : AObj) : (H.plus E).put (H.plus E).size o = H.plus (E ++ [some o]) := by rw [put_push,plus_plus]
section
variable {C : Cfg} {me : FuncId}
def bodyK (l n : Nat) (K : Bool → Heap → Prop) : Post := fun e _ H3 =>
 ∃ r3 j,loopObj H3 l = some r3 ∧ jumpOf e = some j ∧ K j.isNone ((H3.put l (.loop { r3 with state := if j.isNone then .ready else .done,pending := j })).trim n [] [])
def asgK (C : Cfg) (l n : Nat) (r : ALoop) (K : Bool → Heap → Prop) : Post := fun e a1 H1 =>
 e = .normal ∧ ∃ r1,loopObj H1 l = some r1 ∧ r1.state = .ready ∧ Wp C r.fn (some l) r.body a1 (H1.put l (.loop { r1 with state := .busy })) (bodyK l n K)
theorem round_step {l : Nat} {args : List AV} {H : Heap} {r : ALoop} {K : Bool → Heap → Prop} (hr : loopObj H l = some r) (ha : args.length = r.params.size) (hl : H.lock ≤ l)
  (h : Wp C r.fn (some l) r.assign ⟨r.size,setTmps r.size r.tmps (r.params.toList.zip args),[]⟩ H (asgK C l H.size r K)) :
  ∃ b H',lim C (.round l args H) = some (.ret (.v (.bool b)) H') ∧ K b H' := by
 unfold Wp at h
 rw [bindO_iff] at h
 obtain ⟨⟨e1,a1,H1⟩,h1,he,r1,hr1,hs1,h2⟩ := h
 simp only at he h2 hr1
 subst he
 unfold Wp at h2
 rw [bindO_iff] at h2
 obtain ⟨⟨e2,a2,H3⟩,h3,r3,j,hr3,hj,hK⟩ := h2
 simp only at hr3 hj hK
 refine ⟨j.isNone,_, ?_,hK⟩
 rw [lim_eq]
 simp only [taskA,hr]
 rw [if_pos ⟨ha,hl⟩,h1]
 simp only [hr1,hs1,if_true,h3,hr3,hj]
def runIt {S : Type} (stp : S → List AV → Bool × S) : List (List AV) → S → Bool × S
 | [],s => (true,s)
 | x :: r,s => if (stp s x).1 then runIt stp r (stp s x).2 else (false,(stp s x).2)
theorem callB_yld {f : FuncId} {d : Option Tmp} {args : List AV} {l : Nat} (hy : AV.yld l ∈ args) {H H' : Heap} {v : AV} (h : lim C (.call f args H) = some (.ret v H')) : callB C (lim C) me f d args H = some (v,H'.trim H.size [v] []) := by
 have hb : Nat.beq (boundL args) 0 = false := by
  have h1 : ¬ boundL args ≤ 0 := fun hle => by
   have := boundL_le.1 hle _ hy
   simp [bound] at this
  cases hq : Nat.beq (boundL args) 0
  ·rfl
  ·exact absurd (Nat.le_of_eq (Nat.eq_of_beq_eq_true hq)) h1
 have hany : args.any isYld = true := List.any_eq_true.2 ⟨_,hy,rfl⟩
 have hk : callKind C me f d args = 0 := by
  unfold callKind;rw [hb,hany];split <;> rfl
 unfold callB;rw [hk];simp only [h]
theorem wp_range0 {g : Operand} {ps : Array Tmp} {asg body : Code} {a : AAct} {H : Heap} {K : Post} {f : FuncId} {first cap : List AV} (hg : a.eval g = some (.fn (.func f) first cap))
  {v : AV} {H2 : Heap} (hc : callB C (lim C) me f none (first ++ [.yld (H.size + 1)] ++ cap) ((H.put H.size .dfr).put (H.size + 1) (.loop { fn := me,state := .ready,pending := none,size := a.size,tmps := a.tmps,params := ps,assign := asg,body := body,dfr := H.size })) = some (v,H2))
  {r : ALoop} (hr : loopObj H2 (H.size + 1) = some r) (hs : r.state ≠ .busy) (hd : r.dfr = H.size)
  (hK : match r.pending with
   | none => AtK K .normal { a with marks := H.size :: a.marks } (H2.put (H.size + 1) .dead)
   | some .ret => AtK K .ret { a with marks := H.size :: a.marks } (H2.put (H.size + 1) .dead)
   | some (.exit id) => AtK K (.exit id) { a with marks := H.size :: a.marks } (H2.put (H.size + 1) .dead)
   | _ => False) : Wp C me none (.rangeFunc g ps asg body) a H K := by
 unfold Wp
 simp only [codeA,hg,hc,hr]
 rw [if_neg (by rintro (h | h);exact hs h;exact h hd)]
 split at hK
 ·rename_i hp;simp only [hp];exact hK
 ·rename_i hp;simp only [hp];exact hK
 ·rename_i hp;simp only [hp];exact hK
 ·exact hK.elim
end
end Go.Ev
namespace Go.Ev
theorem plus_mid_put {X : Heap} {n : Nat} (hn : X.size = n) (A B : List (Option AObj)) (o : Option AObj) (o' : AObj) : (X.plus (A ++ o :: B)).put (n + A.length) o' = X.plus (A ++ some o' :: B) := by
 subst hn
 rw [plus_put_hi _ _ (by omega)]
 congr 1
 rw [sop_right _ _ _ _ (by omega)]
 congr 1
 rw [show X.size + A.length - X.size - A.length = 0 by omega];rfl
theorem plus_mid_get {X : Heap} {n : Nat} (hn : X.size = n) (A B : List (Option AObj)) (o : Option AObj) : (X.plus (A ++ o :: B)).get (n + A.length) = o := by
 subst hn
 rw [plus_get_hi _ (by omega)]
 rw [show X.size + A.length - X.size = A.length by omega,List.getElem?_append_right (Nat.le_refl _),Nat.sub_self];rfl
theorem plus_put_end {X : Heap} {n : Nat} (hn : X.size = n) (E : List (Option AObj)) (o : AObj) : (X.plus E).put (n + E.length) o = X.plus (E ++ [some o]) := by
 subst hn;rw [← plus_size];exact plus_push E o
end Go.Ev
namespace Go.Ev
end Go.Ev
namespace Go.Ev
section
variable {C : Cfg}
theorem asgK_mk {l n : Nat} {r r1 : ALoop} {K : Bool → Heap → Prop} {a1 : AAct} {H1 : Heap} (h1 : loopObj H1 l = some r1) (hs : r1.state = .ready) (h : Wp C r.fn (some l) r.body a1 (H1.put l (.loop { r1 with state := .busy })) (bodyK l n K)) : AtK (asgK C l n r K) .normal a1 H1 :=
 ⟨rfl,r1,h1,hs,h⟩
theorem bodyK_mk {l n : Nat} {K : Bool → Heap → Prop} {e : AExit} {a : AAct} {H3 : Heap} {r3 : ALoop} {j : Option Code} (h1 : loopObj H3 l = some r3) (hj : jumpOf e = some j) (h : K j.isNone ((H3.put l (.loop { r3 with state := if j.isNone then .ready else .done,pending := j })).trim n [] [])) : AtK (bodyK l n K) e a H3 :=
 ⟨r3,j,h1,hj,h⟩
def wBox (l t : Nat) : AObj := .cells 0 (l + 1) t 1 false [.yld l]
def hq {S : Type} (hp : S → Heap) (E : List (Option AObj)) (l t : Nat) (q : S × ALoop) : Heap := (hp q.1).plus (E ++ [some (wBox l t),some .dfr,some (.loop q.2)])
variable {l t n : Nat} {S : Type} {hp : S → Heap} {stp : S → List AV → Bool × S} {ok : List AV → Prop} {live : S → Prop}
end
end Go.Ev
namespace Go.Ev
def pend : AExit → Option Code
 | .normal => none
 | .ret => some .ret
 | .exit i => some (.exit i)
theorem jumpOf_pend (e : AExit) : jumpOf e = some (pend e) := by cases e <;> rfl
def isGo : AExit → Bool
 | .normal => true
 | _ => false
theorem pend_none (e : AExit) : (pend e).isNone = isGo e := by cases e <;> rfl
def foldE {S : Type} (stp : S → List AV → AExit × S) : List (List AV) → S → AExit × S
 | [],s => (.normal,s)
 | x :: r,s => match (stp s x).1 with | .normal => foldE stp r (stp s x).2 | e => (e,(stp s x).2)
theorem foldE_go {S : Type} {stp : S → List AV → AExit × S} {x : List AV} {r : List (List AV)} {s : S} (h : (stp s x).1 = .normal) : foldE stp (x :: r) s = foldE stp r (stp s x).2 := by
 simp only [foldE,h]
theorem foldE_out {S : Type} {stp : S → List AV → AExit × S} {x : List AV} {r : List (List AV)} {s : S} (h : (stp s x).1 ≠ .normal) : foldE stp (x :: r) s = stp s x := by
 simp only [foldE]
def busyL (me : FuncId) (n : Nat) (ts : List (Tmp × AV)) (ps : Array Tmp) (asg body : Code) (d : Nat) (st : LoopState) (p : Option Code) : ALoop := { fn := me,state := st,pending := p,size := n,tmps := ts,params := ps,assign := asg,body := body,dfr := d }
def stateOf (e : AExit) : LoopState := if (pend e).isNone then .ready else .done
section
variable {C : Cfg} {me : FuncId} {S : Type} {hb : S → Heap} {stp : S → List AV → AExit × S} {lv : S → Prop} {ok : List AV → Prop} {n0 : Nat}
theorem run_range (stp : S → List AV → AExit × S) : ∀ (items : List (List AV)) (s : S),runIt (fun (q : S × AExit) x => (isGo (stp q.1 x).1,((stp q.1 x).2,(stp q.1 x).1))) items (s,.normal) = (isGo (foldE stp items s).1,((foldE stp items s).2,(foldE stp items s).1))
 | [],s => rfl
 | x :: r,s => by
  have ih := run_range stp r (stp s x).2
  unfold runIt
  simp only
  cases h : (stp s x).1 with
  | normal =>
   rw [if_pos (show isGo .normal = true from rfl),ih,foldE_go h]
  | exit i => rw [if_neg (show ¬ isGo (.exit i) = true from fun h => nomatch h),foldE_out (by rw [h];intro h;cases h),h];rfl
  | ret => rw [if_neg (show ¬ isGo .ret = true from fun h => nomatch h),foldE_out (by rw [h];intro h;cases h),h];rfl
end
end Go.Ev
namespace Go.Ev
section
variable {C : Cfg} {me : FuncId} {rd : Option Nat}
abbrev Inv := Nat → AAct → Heap → Prop
def Again (P : Inv) (m : Nat) (a : AAct) (H : Heap) : Prop := ∃ m',m' < m ∧ P m' a H
@[congr] theorem Again_congr {P : Inv} {m : Nat} {a a' : AAct} {H H' : Heap} (ha : a = a') (hH : H = H') : Again P m a H = Again P m a' H' := by rw [ha,hH]
def itK (P : Inv) (m : Nat) (ks : List Tmp) (n : Nat) (K : Post) : Post := fun e a H =>
 match e with
 | .normal => Again P m (a.only ks) (H.trim n ((a.only ks).tmps.map (·.2)) (a.only ks).marks)
 | .exit i => AtK K (.exit i) (a.only ks) (H.trim n ((a.only ks).tmps.map (·.2)) (a.only ks).marks)
 | .ret => AtK K .ret a H
@[go_sem ↓] theorem itK_normal (P : Inv) (m : Nat) (ks : List Tmp) (n : Nat) (K : Post) (s : Nat) (l : List (Tmp × AV)) (ms : List Nat) (H : Heap) : AtK (itK P m ks n K) .normal ⟨s,l,ms⟩ H = bindO (nf (ks.filterMap fun k => (assoc k l).map fun v => (k,v))) fun l' => bindO (nf (H.trim n (l'.map (·.2)) ms)) fun H' => Again P m ⟨s,l',ms⟩ H' := rfl
@[go_sem ↓] theorem itK_exit (P : Inv) (m : Nat) (ks : List Tmp) (n i : Nat) (K : Post) (s : Nat) (l : List (Tmp × AV)) (ms : List Nat) (H : Heap) : AtK (itK P m ks n K) (.exit i) ⟨s,l,ms⟩ H = bindO (nf (ks.filterMap fun k => (assoc k l).map fun v => (k,v))) fun l' => bindO (nf (H.trim n (l'.map (·.2)) ms)) fun H' => AtK K (.exit i) ⟨s,l',ms⟩ H' := rfl
@[go_sem ↓] theorem itK_ret (P : Inv) (m : Nat) (ks : List Tmp) (n : Nat) (K : Post) (a : AAct) (H : Heap) : AtK (itK P m ks n K) .ret a H = AtK K .ret a H := rfl
theorem Lp_rule {ks : List Tmp} {c : Code} {K : Post} (P : Inv) (hstep : ∀ m a H,P m a H → Wp C me rd c a H (itK P m ks H.size K)) : ∀ m a H,P m a H → Lp C me rd ks c a H K := by
 intro m
 induction m using Nat.strongRecOn with
 | _ m ih =>
  intro a H hp
  rw [Lp_step]
  refine Wp_mono (hstep m a H hp) ?_
  intro e a' H' h
  cases e with
  | normal =>
   obtain ⟨m',hm,hp'⟩ := h
   exact ih m' hm _ _ hp'
  | exit i => exact h
  | ret => exact h
theorem Lp_ruleQ {ks : List Tmp} {c : Code} {K : Post} (P : Inv) (hstep : ∀ (Q : Inv) (KK : Post),(∀ m a H,P m a H → Q m a H) → (∀ e a H,AtK K e a H → AtK KK e a H) → ∀ m a H,P m a H → Wp C me rd c a H (itK Q m ks H.size KK)) : ∀ m a H,P m a H → Lp C me rd ks c a H K :=
 Lp_rule P (hstep P K (fun _ _ _ h => h) (fun _ _ _ h => h))
theorem Again.mk' {P : Inv} {m : Nat} {a : AAct} {H : Heap} (m' : Nat) (h : m' < m) (hp : P m' a H) : Again P m a H := ⟨m',h,hp⟩
end
theorem take_len {α : Type} (l : List α) : l.take l.length = l := List.take_length
theorem drop_len {α : Type} (l : List α) : l.drop l.length = [] := List.drop_length
attribute [go_sem] take_len drop_len
end Go.Ev
namespace Go.Ev
abbrev Fm := List (Nat × AObj)
def Has (m : Fm) (H : Heap) : Prop := ∀ p ∈ m,H.get p.1 = some p.2
def keyIn (b : Nat) (m : Fm) : Prop := ∃ p ∈ m,p.1 = b
def Anch (n0 : Nat) (m : Fm) : Prop := ∀ n,n0 ≤ n → (∃ p ∈ m,n ≤ p.1) → ∃ p ∈ m,p.1 < n ∧ n < p.2.bound
structure Moves (m : Fm) (H : Heap) (m' : Fm) (H' : Heap) : Prop where
 lock : H'.lock = H.lock
 size : H.size ≤ H'.size
 same : ∀ b,b < H.size → ¬ keyIn b m → H'.get b = H.get b
 keys : ∀ p ∈ m',keyIn p.1 m ∨ H.size ≤ p.1
theorem boundsOk_getI {n : Nat} : ∀ {l : List (Option AObj)} {b : Nat} {o : AObj},boundsOk n l = true → l[b]? = some (some o) → o.bound ≤ n
 | [],b,o,_,h => by simp at h
 | none :: r,0,o,_,h => by simp at h
 | none :: r,b + 1,o,hb,h => boundsOk_getI (l := r) (b := b) (by simpa [boundsOk] using hb) (by simpa using h)
 | some x :: r,0,o,hb,h => by
  simp at h;subst h
  simp only [boundsOk,Bool.and_eq_true] at hb
  exact Nat.le_of_ble_eq_true hb.1
 | some x :: r,b + 1,o,hb,h => by
  simp only [boundsOk,Bool.and_eq_true] at hb
  exact boundsOk_getI (l := r) (b := b) hb.2 (by simpa using h)
theorem trim_cases (H : Heap) (n : Nat) (vs : List AV) (ms : List Nat) : H.trim n vs ms = H ∨ (H.trim n vs ms = { H with objs := H.objs.take n } ∧ boundsOk n (H.objs.take n) = true) := by
 unfold Heap.trim
 split
 ·rename_i h
  simp only [Bool.and_eq_true] at h
  exact Or.inr ⟨rfl,h.1.2⟩
 ·exact Or.inl rfl
theorem take_get {H : Heap} {n b : Nat} (h : b < n) : (Heap.mk (H.objs.take n) H.lock).get b = H.get b := by
 unfold Heap.get;simp only;rw [List.getElem?_take,if_pos h]
theorem get_objs {H : Heap} {b : Nat} {o : AObj} (h : H.get b = some o) : H.objs[b]? = some (some o) := by
 unfold Heap.get at h
 cases hb : H.objs[b]? with
 | none => rw [hb] at h;cases h
 | some x => rw [hb] at h;cases x with
  | none => cases h
  | some y => cases h;rfl
theorem Has.trim {m : Fm} {H : Heap} {n0 n : Nat} (h : Has m H) (ha : Anch n0 m) (hn : n0 ≤ n) (vs : List AV) (ms : List Nat) : Has m (H.trim n vs ms) := by
 rcases trim_cases H n vs ms with h1 | ⟨h1,h2⟩
 ·rw [h1];exact h
 ·rw [h1]
  have key : ∀ p ∈ m,p.1 < n := by
   intro p hp
   rcases Nat.lt_or_ge p.1 n with hlt | hge
   ·exact hlt
   ·obtain ⟨q,hq,hq1,hq2⟩ := ha n hn ⟨p,hp,hge⟩
    have := boundsOk_getI h2 (b := q.1) (o := q.2) (by rw [List.getElem?_take,if_pos hq1];exact get_objs (h q hq))
    omega
  intro p hp
  show (Heap.mk (H.objs.take n) H.lock).get p.1 = _
  rw [take_get (key p hp)];exact h p hp
theorem Has.settle {m : Fm} {H : Heap} (h : Has m H) (n : Nat) : Has m (settleH n H) := by
 unfold settleH
 split
 ·rename_i hn
  have key : ∀ p ∈ m,p.1 < n := by
   intro p hp
   rcases Nat.lt_or_ge p.1 n with hlt | hge
   ·exact hlt
   ·have h1 := get_objs (h p hp)
    have h2 : (H.objs.drop n)[p.1 - n]? = some (some p.2) := by rw [List.getElem?_drop,show n + (p.1 - n) = p.1 by omega];exact h1
    have := List.all_eq_true.1 hn _ (List.mem_of_getElem? h2)
    simp at this
  intro p hp
  show (Heap.mk (H.objs.take n) H.lock).get p.1 = _
  rw [take_get (key p hp)];exact h p hp
 ·exact h
theorem Moves.refl (m : Fm) (H : Heap) : Moves m H m H := ⟨rfl,Nat.le_refl _,fun _ _ _ => rfl,fun p hp => Or.inl ⟨p,hp,rfl⟩⟩
theorem Moves.trans {m m' m'' : Fm} {H H' H'' : Heap} (h : Moves m H m' H') (k : Moves m' H' m'' H'') : Moves m H m'' H'' := by
 refine ⟨k.lock.trans h.lock,Nat.le_trans h.size k.size,fun b hb hm => ?_,fun p hp => ?_⟩
 ·have h1 : ¬ keyIn b m' := by
   rintro ⟨p,hp,rfl⟩
   rcases h.keys p hp with h2 | h2
   ·exact hm h2
   ·omega
  rw [k.same b (Nat.lt_of_lt_of_le hb h.size) h1,h.same b hb hm]
 ·rcases k.keys p hp with ⟨q,hq,he⟩ | h2
  ·rcases h.keys q hq with h3 | h3
   ·exact Or.inl (he ▸ h3)
   ·exact Or.inr (he ▸ h3)
  ·exact Or.inr (Nat.le_trans h.size h2)
theorem Moves.trim {m m' : Fm} {H H' : Heap} (h : Moves m H m' H') (vs : List AV) (ms : List Nat) {n : Nat} (hn : n = H.size) : Moves m H m' (H'.trim n vs ms) := by
 subst hn
 rcases trim_cases H' H.size vs ms with h1 | ⟨h1, -⟩
 ·rw [h1];exact h
 ·rw [h1]
  refine ⟨h.lock, ?_,fun b hb hm => ?_,h.keys⟩
  ·show H.size ≤ (H'.objs.take H.size).length
   have := h.size
   rw [List.length_take];unfold Heap.size at *;omega
  ·show (Heap.mk (H'.objs.take H.size) H'.lock).get b = _
   rw [take_get hb];exact h.same b hb hm
theorem Moves.settle {m m' : Fm} {H H' : Heap} (h : Moves m H m' H') {n : Nat} (hn : n = H.size) : Moves m H m' (settleH n H') := by
 subst hn
 unfold settleH
 split
 ·refine ⟨h.lock, ?_,fun b hb hm => ?_,h.keys⟩
  ·show H.size ≤ (H'.objs.take H.size).length
   have := h.size
   rw [List.length_take];unfold Heap.size at *;omega
  ·show (Heap.mk (H'.objs.take H.size) H'.lock).get b = _
   rw [take_get hb];exact h.same b hb hm
 ·exact h
theorem Moves.plus (m : Fm) (H : Heap) (E : List (Option AObj)) : Moves m H m (H.plus E) :=
 ⟨rfl,by rw [plus_size];omega,fun b hb _ => plus_get E hb,fun p hp => Or.inl ⟨p,hp,rfl⟩⟩
theorem Has.plus {m : Fm} {H : Heap} (h : Has m H) (E : List (Option AObj)) : Has m (H.plus E) := fun p hp => by rw [plus_get E (get_ltS (h p hp))];exact h p hp
theorem Moves.put {m m' : Fm} {H H' : Heap} (h : Moves m H m' H') {b : Nat} (o : AObj) (hb : H.size ≤ b) (hb2 : b < H'.size) : Moves m H m' (H'.put b o) := by
 refine ⟨h.lock,by rw [put_sizeI o hb2];exact h.size,fun c hc hm => ?_,h.keys⟩
 rw [put_get_ne o (by omega) (by omega)];exact h.same c hc hm
theorem Has.put {m : Fm} {H : Heap} (h : Has m H) {b : Nat} (o : AObj) (hb : b ≤ H.size) (hm : ¬ keyIn b m) : Has m (H.put b o) := fun p hp => by
 rw [put_get_ne o hb (fun e => hm ⟨p,hp,e⟩)];exact h p hp
def okRun {S : Type} (stp : S → List AV → Bool × S) (ok : S → List AV → Prop) : List (List AV) → S → Prop
 | [],_ => True
 | x :: r,s => ok s x ∧ ((stp s x).1 = true → okRun stp ok r (stp s x).2)
structure Src2 (C : Cfg) (l : Nat) (S : Type) (R : S → Fm → Prop) (stp : S → List AV → Bool × S) (ok : S → List AV → Prop) (live : S → Prop) (n0 k : Nat) : Prop where
 anch : ∀ s m,R s m → Anch n0 m
 klock : k ≤ n0
 step : ∀ s x,live s → ok s x → (stp s x).1 = true → live (stp s x).2
 round : ∀ s m x H,live s → ok s x → R s m → Has m H → H.lock = k → n0 ≤ H.size → ∃ H' m',lim C (.round l x H) = some (.ret (.v (.bool (stp s x).1)) H') ∧ R (stp s x).2 m' ∧ Has m' H' ∧ Moves m H m' H'
def Yields2 (C : Cfg) (f : FuncId) (cap : List AV) (items : List (List AV)) : Prop :=
 ∀ (l : Nat) (S : Type) (R : S → Fm → Prop) (stp : S → List AV → Bool × S) (ok : S → List AV → Prop) (live : S → Prop) (n0 k : Nat),Src2 C l S R stp ok live n0 k →
  ∀ s m H,okRun stp ok items s → live s → R s m → Has m H → H.lock = k → n0 ≤ H.size → ∃ H' m',lim C (.call f ([.yld l] ++ cap) H) = some (.ret (.tup []) H') ∧ R (runIt stp items s).2 m' ∧ Has m' H' ∧ Moves m H m' H'
theorem Src2.round' {C : Cfg} {l : Nat} {S : Type} {R : S → Fm → Prop} {stp : S → List AV → Bool × S} {ok : S → List AV → Prop} {live : S → Prop} {n0 k : Nat} (h : Src2 C l S R stp ok live n0 k) (s : S) (m : Fm) (x : List AV) (H : Heap) (h1 : live s) (h2 : ok s x) (h3 : R s m) (h4 : Has m H) (h5 : H.lock = k) (h6 : n0 ≤ H.size) :
  ∃ H' H2 m',lim C (.round l x H) = some (.ret (.v (.bool (stp s x).1)) H') ∧ settleH H.size H' = H2 ∧ R (stp s x).2 m' ∧ Has m' H2 ∧ Moves m H m' H2 := by
 obtain ⟨H',m',a,b,c,d⟩ := h.round s m x H h1 h2 h3 h4 h5 h6
 exact ⟨H',_,m',a,rfl,b,c.settle _,d.settle rfl⟩
end Go.Ev
namespace Go.Ev
section
variable {C : Cfg} {me : FuncId} {rd : Option Nat}
def okFoot (base top w : Nat) (ft : Foot) : Bool := match ft.reads with | some l => l.all fun b => Nat.blt b base || Nat.ble top b || w.testBit (b - base) | none => false
def callFoot : Foot := ⟨some [],some [],[],false,false,0,false,noKept⟩
def idleFoot (C : Cfg) (me : FuncId) (o : Oper) (a : AAct) (slot : Nat) : Foot :=
 match o.op with
 | .call c => match c.callee with | .value _ => callFoot | _ => footA C me o a slot
 | _ => footA C me o a slot
def frOne (o : Option Foot) (f : Foot) : Bool := match o with | some g => !clash g f | none => false
def freeT (feet : List Foot) (u : List Nat) (ft : Foot) : Bool := u.all fun k => frOne (feet[k]?) ft
def ltB (a b : Nat) : Bool := decide (a < b)
def okFootT (base : Nat) (w : List Nat) (ft : Foot) : Bool := match ft.reads with | some l => l.all fun b => ltB b base || w.any fun k => b == base + k | none => false
abbrev Tab := List (List Nat × List Nat × Bool)
noncomputable def callX (C : Cfg) (me : FuncId) (d : Option Tmp) (v : AV) (l : List AV) (H : Heap) : Option (AV × Heap) :=
 match v with
 | .fn (.func f) x y => callA C (lim C) me f d (x ++ l ++ y) H
 | .yld b => (match lim C (.round b l H) with | some (.ret v H') => some (v,H') | _ => none)
 | _ => none
def kind0 (C : Cfg) (me : FuncId) (d : Option Tmp) (v : AV) (l : List AV) : Bool :=
 match v with
 | .fn (.func f) x y => (C.ext f).isNone && Nat.beq (callKind C me f d (x ++ l ++ y)) 0
 | .yld _ => true
 | _ => false
def SameOut (base top : Nat) (G G' : Heap) : Prop := ∀ b,(b < base ∨ top ≤ b) → G'.get b = G.get b
def effV (C : Cfg) (me : FuncId) (base top : Nat) (d : Option Tmp) (v : AV) (l : List AV) (G : Heap) (cont : AV → Heap → Prop) : Prop :=
 kind0 C me d v l = true ∧ ∀ Gh : Heap,Gh.lock = G.lock → Gh.size = G.size → SameOut base top G Gh → ∃ r Y,callX C me d v l Gh = some (r,Y) ∧ G.size ≤ Y.size ∧
  ∀ G' : Heap,G'.lock = G.lock → G'.size = Y.size → SameOut base top Y G' → (∀ b,base ≤ b → b < top → G'.get b = G.get b ∨ G'.get b = Y.get b) → cont r G'
def effO (C : Cfg) (me : FuncId) (base top : Nat) (o : Oper) (a : AAct) (G : Heap) (cont : AV → Heap → Prop) : Prop :=
 match o.op with
 | .call c => (match c.callee with | .value g => bindO (evals a c.args.toList) fun l => bindO (a.eval g) fun v => effV C me base top o.dst v l G cont | _ => False)
 | _ => False
def kind2 (C : Cfg) (me : FuncId) (d : Option Tmp) (v : AV) (l : List AV) : Bool :=
 match v with
 | .fn (.func f) x y => (C.ext f).isNone && Nat.beq (callKind C me f d (x ++ l ++ y)) 2
 | _ => false
def SameVis (base top : Nat) (vl : List Nat) (G G' : Heap) : Prop := ∀ b,(b < base ∨ top ≤ b ∨ (base ≤ b ∧ vl.contains (b - base) = true)) → G'.get b = G.get b
def stillV (C : Cfg) (me : FuncId) (base top : Nat) (vl : List Nat) (d : Option Tmp) (v : AV) (l : List AV) (G : Heap) (cont : AV → Heap → Prop) : Prop :=
 kind2 C me d v l = true ∧ ∃ r,(∀ Gh : Heap,Gh.lock = G.lock → Gh.size = G.size → SameVis base top vl G Gh → ∃ Y,callX C me d v l Gh = some (r,Y)) ∧ cont r G
def stillO (C : Cfg) (me : FuncId) (base top : Nat) (vl : List Nat) (o : Oper) (a : AAct) (G : Heap) (cont : AV → Heap → Prop) : Prop :=
 match o.op with
 | .call c => (match c.callee with | .value g => bindO (evals a c.args.toList) fun l => bindO (a.eval g) fun v => stillV C me base top vl o.dst v l G cont | _ => False)
 | _ => False
def stillFoot : Foot := ⟨none,some [],[],false,false,0,false,noKept⟩
def effFoot : Foot := ⟨none,none,[],false,true,0,false,noKept⟩
def drawP (C : Cfg) (me : FuncId) (arr : Array Oper) (base : Nat) : Tab → List Oper → Nat → List Foot → AAct → Heap → PostS → Prop
 | _,[],_,_,a,G,K => AtS K a G
 | tb,o :: r,i,feet,a,G,K => bindO (wantedA arr a o) fun w => iteB w
   (iteB (plainO o) (WpO C me o.dst o.op a G (base + i) fun v _ => drawP C me arr base tb.tail r (i + 1) (feet ++ [noFoot]) (a.put o.dst v) G K)
    (iteB (locOp o.op) (iteB (okFootT base (tb.headD ([],[],false)).2.1 (footA C me o a (base + i)) && freeT feet (tb.headD ([],[],false)).1 (footA C me o a (base + i)))
      (WpO C me o.dst o.op a G (base + i) fun v G' => drawP C me arr base tb.tail r (i + 1) (feet ++ [footA C me o a (base + i)]) (a.put o.dst v) G' K) False)
     (iteB (tb.headD ([],[],false)).2.2
      (iteB (tb.headD ([],[],false)).1.isEmpty (effO C me base (base + arr.toList.length) o a G fun v G' => drawP C me arr base tb.tail r (i + 1) (feet ++ [effFoot]) (a.put o.dst v) G' K)
       (iteB (freeT feet (tb.headD ([],[],false)).1 stillFoot) (stillO C me base (base + arr.toList.length) (tb.headD ([],[],false)).2.1 o a G fun v G' => drawP C me arr base tb.tail r (i + 1) (feet ++ [stillFoot]) (a.put o.dst v) G' K) False))
      (iteB (freeT feet (tb.headD ([],[],false)).1 (idleFoot C me o a (base + i)))
       (bindO (opI C me { objs := [],lock := 0 } o.dst o.op a) fun v => drawP C me arr base tb.tail r (i + 1) (feet ++ [idleFoot C me o a (base + i)]) (a.put o.dst v) G K) False))))
   (drawP C me arr base tb.tail r (i + 1) (feet ++ [noFoot]) (a.put o.dst undefA) G K)
def plainAt (l : List Oper) (i : Nat) : Bool := match l[i]? with | some o => plainO o | none => false
def rowOk (l : List Oper) (wi : Nat) (i : Nat) (u w : List Nat) : Bool := plainAt l i || ((List.range i).all fun k => wi.testBit k || plainAt l k || u.contains k) && w.all fun k => wi.testBit k
def tabOk (l : List Oper) (ws : List Nat) (tb : Tab) : Bool := (List.range l.length).all fun i => rowOk l (ws.getD i 0) i (tb.getD i ([],[],false)).1 (tb.getD i ([],[],false)).2.1
theorem clash_no (ft : Foot) : clash noFoot ft = false := by
 obtain ⟨rx,wx,fx,px,gx⟩ := ft
 have e1 : ∀ z,meet (some []) z = false := fun _ => rfl
 simp [clash,noFoot,e1]
theorem free_of {l : List Oper} {wi i : Nat} {u w : List Nat} {feet : List Foot} {ft : Foot} (hr : rowOk l wi i u w = true) (hnp : plainAt l i = false) (hp : ∀ k o,k < i → l[k]? = some o → plainO o = true → feet[k]? = some noFoot) (hf : freeT feet u ft = true) : freeOf feet wi ft i = true := by
 unfold rowOk at hr
 rw [hnp,Bool.false_or] at hr
 simp only [Bool.and_eq_true,List.all_eq_true] at hr
 have key : ∀ n,n ≤ i → freeOf feet wi ft n = true := by
  intro n
  induction n with
  | zero => intro _;rfl
  | succ k ih =>
   intro hk
   unfold freeOf
   rw [ih (by omega),Bool.and_true]
   have := hr.1 k (List.mem_range.2 (by omega))
   simp only [Bool.or_eq_true] at this
   rcases this with (h | h) | h
   ·rw [h,Bool.true_or]
   ·unfold plainAt at h
    split at h
    ·rename_i o ho
     rw [hp k o (by omega) ho h]
     simp only [clash_no,Bool.not_false,Bool.or_true]
    ·cases h
   ·have h2 := List.all_eq_true.1 hf k (by simpa using h)
    unfold frOne at h2
    rw [Bool.or_eq_true]
    exact Or.inr h2
 exact key i (Nat.le_refl _)
theorem ok_of {l : List Oper} {wi i base top : Nat} {u w : List Nat} {ft : Foot} (hr : rowOk l wi i u w = true) (hnp : plainAt l i = false) (h : okFootT base w ft = true) : okFoot base top wi ft = true := by
 unfold rowOk at hr
 rw [hnp,Bool.false_or] at hr
 simp only [Bool.and_eq_true,List.all_eq_true] at hr
 unfold okFootT at h
 unfold okFoot
 split at h
 ·rename_i rl hrl
  rw [List.all_eq_true] at h ⊢
  intro b hb
  have := h b hb
  simp only [Bool.or_eq_true] at this ⊢
  rcases this with h1 | h1
  ·left;left;exact Nat.ble_eq_true_of_le (of_decide_eq_true h1)
  ·obtain ⟨k,hk,he⟩ := List.any_eq_true.1 h1
   right
   have : b = base + k := by simpa using he
   rw [this,Nat.add_sub_cancel_left];exact hr.2 k hk
 ·cases h
theorem free_no {feet : List Foot} {w : Nat} : ∀ n,n ≤ feet.length → freeOf feet w noFoot n = true
 | 0,_ => rfl
 | k + 1,hn => by
  unfold freeOf
  rw [free_no k (by omega),Bool.and_true,Bool.or_eq_true]
  right
  cases h : feet[k]? with
  | none => exact absurd (List.getElem?_eq_none_iff.1 h) (by omega)
  | some f =>
   obtain ⟨rx,wx,fx,px,gx⟩ := f
   have e2 : ∀ r : Option (List Nat),meet r (some []) = false := by
    intro r;unfold meet;split <;> simp_all
   simp [clash,noFoot,e2]
theorem vis_of {ft : Foot} {base top w slot : Nat} {l : List Nat} (hr : ft.reads = some l) (h : okFoot base top w ft = true) : (∀ b ∈ l,visB base top w slot ft b = true) ∧ visB base top w slot ft slot = true := by
 unfold okFoot at h
 rw [hr] at h
 simp only [List.all_eq_true] at h
 refine ⟨fun b hb => ?_, ?_⟩
 ·unfold visB
  rw [hr]
  simp only [h b hb,Bool.true_and,Bool.or_eq_true]
  exact Or.inr (List.any_eq_true.2 ⟨b,hb,Nat.beq_refl b⟩)
 ·unfold visB;rw [Nat.beq_refl];rfl
theorem foot_grows {o : Oper} {a : AAct} {slot : Nat} : (footA C me o a slot).grows = false := by
 unfold footA
 split <;> try rfl
 split <;> try rfl
 split <;> try rfl
 split <;> try rfl
 split <;> rfl
theorem opI_any {o : Oper} {a : AAct} {v : AV} (hp : plainO o = false) (hl : locOp o.op = false) (h : opI C me { objs := [],lock := 0 } o.dst o.op a = some v) (slot : Nat) :
  (∀ G : Heap,opA C (lim C) me o a G slot = some (some v,G)) ∧ (footA C me o a slot).idle = true ∧ idleFoot C me o a slot = footA C me o a slot := by
 obtain ⟨dst,op,ty,pos,after,guard⟩ := o
 simp only at hl h hp
 unfold opI at h
 split at h
 ·cases hl
 ·rename_i t x l hh m
  simp only [Option.bind_eq_some_iff] at h
  obtain ⟨u,hu,l',hl',h',hh',m',hm',h⟩ := h
  have hs : ∀ G : Heap,sliceA C.P G t u l' h' m' = some v := by
   intro G
   unfold sliceI at h
   split at h
   ·cases h
   ·rename_i hne
    rw [← h]
    unfold sliceA
    cases C.P.underlying t with
    | none => cases u <;> rfl
    | some d => cases d <;> cases u <;> first | rfl | (exact absurd rfl (hne _ _ _ _ _)) | (rename_i y;cases y <;> first | rfl | (rename_i p n c;cases p <;> first | rfl | (cases n <;> first | rfl | (cases c <;> rfl))))
  refine ⟨fun G => ?_,rfl,rfl⟩
  simp only [opA,hu]
  show (match (some u),lookO a l,lookO a hh,lookO a m with | some v,some l,some h,some m => (sliceA C.P G t v l h m).map fun v => (some v,G) | _,_,_,_ => none) = _
  rw [hl',hh',hm']
  simp only [hs G,Option.map_some]
 ·rename_i c
  obtain ⟨cal,args,ts⟩ := c
  simp only at h
  split at h
  ·obtain ⟨l,hev,h⟩ := Option.bind_eq_some_iff.1 h
   have hs : ∀ G : Heap,lenA C.P G ts.toList l = some v := by
    intro G
    unfold lenI at h
    split at h
    ·cases h
    ·rename_i hne
     rw [← h]
     unfold lenA
     cases ts.toList with
     | nil => rfl
     | cons t r =>
      cases l with
      | nil => rfl
      | cons x s =>
       simp only
       cases C.P.underlying t with
       | none => cases x <;> rfl
       | some d => cases d <;> cases x <;> first | rfl | (exact absurd rfl (hne _ _)) | (rename_i y;cases y <;> first | rfl | (rename_i p;cases p <;> rfl) | (rename_i p n c;cases p <;> first | rfl | (cases n <;> first | rfl | (cases c <;> rfl))))
   refine ⟨fun G => ?_, ?_,rfl⟩
   ·simp only [opA,hev,hs G,Option.map_some]
   ·simp only [footA];rfl
  ·obtain ⟨l,hev,h⟩ := Option.bind_eq_some_iff.1 h
   refine ⟨fun G => ?_,rfl,rfl⟩
   cases l with
   | nil => cases h
   | cons x r =>
    have h : minmaxA false x r = some v := h
    simp only [opA,hev,h,Option.map_some]
  ·rename_i g
   simp only [Option.bind_eq_some_iff] at h
   obtain ⟨l,hev,gv,hg,h⟩ := h
   unfold callV at h
   split at h
   ·rename_i f x y
    unfold callI at h
    split at h
    ·rename_i hex
     cases h
     obtain ⟨h1,h2⟩ := hex.choose_spec
     have hfe : ∀ ty pos after guard,footA C me ⟨dst,.call ⟨.value g,args,ts⟩,ty,pos,after,guard⟩ a slot = callFoot := by
      intro ty pos after guard
      simp only [footA,hg,hev]
      rcases h2 with h2 | h2
      ·rw [if_pos h2];rfl
      ·split
       ·rfl
       ·rw [h2];rfl
     refine ⟨fun G => ?_, ?_, ?_⟩
     ·simp only [opA,hev,hg]
      rw [h1 G];rfl
     ·rw [hfe];rfl
     ·rw [hfe];rfl
    ·cases h
   ·cases h
  ·cases h
 ·rename_i h1 h2 h3
  have : plainO (bareO dst op) = false := hp
  rw [this] at h
  simp at h
theorem drawP_runs {arr : Array Oper} {ops : List Oper} {ws : List Nat} {base n : Nat} {K : PostS} (hnear : ∀ d,C.near me d = false) (hn : arr.toList.length = n) : ∀ (l : List Oper) (tb : Tab) (i : Nat) (feetM feet : List Foot) (a : AAct) (G : Heap),feet.length = i → feetM.length = i → i + l.length ≤ n → base + n ≤ G.size → (∀ (k : Nat) (ft : Foot),frOne (feetM[k]?) ft = true → frOne (feet[k]?) ft = true) → (∀ k,l[k]? = ops[i + k]?) →
  (∀ k,i + k < i + l.length → rowOk ops (ws.getD (i + k) 0) (i + k) (tb.getD k ([],[],false)).1 (tb.getD k ([],[],false)).2.1 = true) → (∀ k o,k < i → ops[k]? = some o → plainO o = true → feet[k]? = some noFoot) → drawP C me arr base tb l i feetM a G K →
  ∃ r,drawA C (lim C) me arr base (base + n) ws l i feet a G = some r ∧ K r.1 r.2
 | [],tb,i,feetM,feet,a,G,_,_,_,_,_,_,_,_,h => ⟨(a,G),rfl,(by unfold drawP at h;exact h)⟩
 | o :: r,tb,i,feetM,feet,a,G,hf,hfM,hi,hs,hle,hops,htb,hpl,h => by
  have hle' : ∀ f f' : Foot,(∀ ft,frOne (some f) ft = true → frOne (some f') ft = true) → ∀ (k : Nat) (ft : Foot),frOne ((feetM ++ [f])[k]?) ft = true → frOne ((feet ++ [f'])[k]?) ft = true := by
   intro f f' hff k ft hk
   rcases Nat.lt_or_ge k i with h1 | h1
   ·rw [List.getElem?_append_left (by omega)] at hk ⊢;exact hle k ft hk
   ·rw [List.getElem?_append_right (by omega)] at hk ⊢
    rw [hfM] at hk;rw [hf]
    cases hki : k - i with
    | zero => rw [hki] at hk;exact hff ft hk
    | succ z => rw [hki] at hk;simp [frOne] at hk
  have hsame : ∀ f : Foot,∀ ft,frOne (some f) ft = true → frOne (some f) ft = true := fun _ _ h => h
  have hfree : ∀ (u : List Nat) (ft : Foot),freeT feetM u ft = true → freeT feet u ft = true := fun u ft h => List.all_eq_true.2 fun k hk => hle k ft (List.all_eq_true.1 h k hk)
  have hrow := htb 0 (by simp)
  have ho0 : ops[i]? = some o := by have := hops 0;simpa using this.symm
  have hops' : ∀ k,r[k]? = ops[i + 1 + k]? := fun k => by have := hops (k + 1);rw [List.getElem?_cons_succ] at this;rw [this,show i + (k + 1) = i + 1 + k by omega]
  have htd : ∀ k,tb.tail.getD k ([],[],false) = tb.getD (k + 1) ([],[],false) := fun k => by cases tb <;> simp
  have htb' : ∀ k,i + 1 + k < i + 1 + r.length → rowOk ops (ws.getD (i + 1 + k) 0) (i + 1 + k) (tb.tail.getD k ([],[],false)).1 (tb.tail.getD k ([],[],false)).2.1 = true := fun k hk => by
   rw [htd,show i + 1 + k = i + (k + 1) by omega];exact htb (k + 1) (by simp;omega)
  have hhd : tb.getD 0 ([],[],false) = tb.headD ([],[],false) := by cases tb <;> rfl
  have hpl' : ∀ (ft : Foot),(plainO o = true → ft = noFoot) → ∀ k o',k < i + 1 → ops[k]? = some o' → plainO o' = true → (feet ++ [ft])[k]? = some noFoot := by
   intro ft hft k o' hk ho' hp
   rcases Nat.lt_or_ge k i with h1 | h1
   ·rw [List.getElem?_append_left (by omega)];exact hpl k o' h1 ho' hp
   ·have : k = i := by omega
    subst this
    rw [ho0] at ho';cases ho'
    rw [List.getElem?_append_right (by omega),hf,Nat.sub_self,hft hp];rfl
  rw [hhd,Nat.add_zero] at hrow
  have hi' : i + (r.length + 1) ≤ n := by simpa using hi
  unfold drawP at h
  rw [bindO_iff] at h
  obtain ⟨w,hw,h⟩ := h
  unfold drawA stepD
  rw [hw]
  cases w
  ·simp only [iteB_false] at h
   simp only
   rw [free_no i (by omega),if_pos rfl]
   exact drawP_runs hnear hn r _ (i + 1) _ _ _ G (by simp [hf]) (by simp [hfM]) (by omega) hs (hle' _ _ (hsame _)) hops' htb' (hpl' noFoot fun _ => rfl) h
  ·simp only [iteB_true] at h
   simp only
   by_cases hp : plainO o = true
   ·rw [hp] at h
    simp only [iteB_true] at h
    rw [if_pos hp]
    unfold WpO at h
    rw [bindO_iff,← opA_same] at h
    obtain ⟨⟨v,G1⟩,hop,h⟩ := h
    rw [hop]
    simp only
    rw [free_no i (by omega),if_pos rfl]
    exact drawP_runs hnear hn r _ (i + 1) _ _ _ G (by simp [hf]) (by simp [hfM]) (by omega) hs (hle' _ _ (hsame _)) hops' htb' (hpl' noFoot fun _ => rfl) h
   ·have hp' : plainO o = false := by simpa using hp
    rw [hp'] at h
    simp only [iteB_false] at h
    rw [if_neg hp]
    have hnp : plainAt ops i = false := by unfold plainAt;rw [ho0];exact hp'
    by_cases hl : locOp o.op = true
    ·rw [hl] at h
     simp only [iteB_true] at h
     generalize hft : footA C me o a (base + i) = ft at h ⊢
     cases hokT : okFootT base (tb.headD ([],[],false)).2.1 ft && freeT feetM (tb.headD ([],[],false)).1 ft
     ·rw [hokT] at h;exact h.elim
     ·rw [hokT] at h
      simp only [iteB_true] at h
      simp only [Bool.and_eq_true] at hokT
      have hok : okFoot base (base + n) (ws.getD i 0) ft = true ∧ freeOf feet (ws.getD i 0) ft i = true := ⟨ok_of hrow hnp hokT.1,free_of hrow hnp hpl (hfree _ _ hokT.2)⟩
      unfold WpO at h
      rw [bindO_iff,← opA_same] at h
      obtain ⟨⟨v,G1⟩,hop,h⟩ := h
      obtain ⟨reads,hr,eff,he1,he2,he3⟩ := opA_loc hl hop
      rw [hft] at hr
      obtain ⟨hv1,hv2⟩ := vis_of (slot := base + i) hr hok.1
      generalize hvis : visB base (base + n) (ws.getD i 0) (base + i) ft = vis at hv1 hv2 ⊢
      have hrl : ∀ b ∈ reads,b < G.size → (G.hide vis).get b = G.get b := fun b hb hbs => by rw [hide_get,if_pos hbs,if_pos (hv1 b hb)]
      have hrl2 : ∀ b ∈ reads,(G.hide vis).get b = G.get b := fun b hb => by
       rcases Nat.lt_or_ge b G.size with h1 | h1
       ·exact hrl b hb h1
       ·rw [hide_get,if_neg (by omega),get_none (by omega)]
      have hrun := he3 (G.hide vis) rfl hrl2
      simp only at hrun
      rw [hrun]
      simp only
      have heff : ∀ b o',eff = some (b,o') → b < G.size ∧ vis b = true := by
       intro b o' he
       rcases he1 b o' he with ⟨h1,h2⟩ | h1
       ·obtain ⟨o2,ho2⟩ := Option.isSome_iff_exists.1 h2
        exact ⟨get_ltS ho2,hv1 b h1⟩
       ·subst h1;exact ⟨by omega,hv2⟩
      obtain ⟨hm1,hm2,hm3⟩ := merge_putO heff
      have hg : ({ ft with grows := false } : Foot) = ft := by rw [← hft];have := foot_grows (C := C) (me := me) (o := o) (a := a) (slot := base + i);cases hq : footA C me o a (base + i);rw [hq] at this;simp only at this;subst this;rfl
      have hcont := drawP_runs (n := n) (ws := ws) (ops := ops) hnear hn r _ (i + 1) _ (feet ++ [ft]) _ G1 (by simp [hf]) (by simp [hfM]) (by omega) (by rw [he2,hm3];exact hs) (hle' _ _ (hsame _)) hops' htb' (hpl' ft fun h => absurd h hp) h
      by_cases hid : ft.idle = true
      ·rw [if_pos hid]
       have hG1 : G1 = G := by
        have hW : ∃ W,(footA C me o a (base + i)).writes = some W ∧ W ++ (footA C me o a (base + i)).fresh = [] := by
         rw [hft]
         unfold Foot.idle at hid
         split at hid
         ·rename_i hw;exact ⟨[],hw,by simpa using hid⟩
         ·cases hid
        obtain ⟨W,hW1,hW2⟩ := hW
        have := opA_keeps hop (by omega) hW1
        rw [hW2] at this
        exact heap_ext this.1 this.2.1 fun b => this.2.2 b (by simp)
       simp only [footI,hnear,Bool.false_eq_true,if_false]
       simp only [hok.2,if_true]
       rw [hG1] at hcont
       exact hcont
      ·rw [if_neg hid,hm2,Nat.ble_eq_true_of_le (Nat.le_refl _)]
       simp only [footN,hnear,Bool.false_eq_true,if_false]
       simp only [if_true,hm1,Nat.beq_refl,Bool.not_true,hg,hok.2]
       rw [he2] at hcont
       exact hcont
    ·have hl' : locOp o.op = false := by simpa using hl
     rw [hl'] at h
     simp only [iteB_false] at h
     cases hflag : (tb.headD ([],[],false)).2.2
     case false =>
      rw [hflag] at h
      simp only [iteB_false] at h
      generalize hft : idleFoot C me o a (base + i) = ft at h
      cases hokT : freeT feetM (tb.headD ([],[],false)).1 ft
      ·rw [hokT] at h;exact h.elim
      ·rw [hokT] at h
       simp only [iteB_true] at h
       have hok : freeOf feet (ws.getD i 0) ft i = true := free_of hrow hnp hpl (hfree _ _ hokT)
       rw [bindO_iff] at h
       obtain ⟨v,hv,h⟩ := h
       obtain ⟨h1,h2,h3⟩ := opI_any hp' hl' hv (base + i)
       rw [hft] at h3
       rw [← h3] at h2 ⊢
       rw [h1]
       simp only
       rw [if_pos h2]
       simp only [footI,hnear,Bool.false_eq_true,if_false]
       simp only [hok,if_true]
       exact drawP_runs hnear hn r _ (i + 1) _ _ _ G (by simp [hf]) (by simp [hfM]) (by omega) hs (hle' _ _ (hsame _)) hops' htb' (hpl' _ fun h => absurd h hp) h
     case true =>
      rw [hflag] at h
      simp only [iteB_true] at h
      cases hem : (tb.headD ([],[],false)).1.isEmpty
      ·rw [hem] at h
       simp only [iteB_false] at h
       cases hokT : freeT feetM (tb.headD ([],[],false)).1 stillFoot
       ·rw [hokT] at h;exact h.elim
       ·rw [hokT] at h
        simp only [iteB_true] at h
        have hok : freeOf feet (ws.getD i 0) stillFoot i = true := free_of hrow hnp hpl (hfree _ _ hokT)
        obtain ⟨dst,op,ty,pos,after,guard⟩ := o
        unfold stillO at h
        simp only at h
        split at h
        ·rename_i c
         split at h
         ·rename_i g hcal
          rw [bindO_iff] at h
          obtain ⟨l,hev,h⟩ := h
          rw [bindO_iff] at h
          obtain ⟨v,hg,h⟩ := h
          obtain ⟨hk,rv,hrun,h⟩ := h
          obtain ⟨cal,args,ts⟩ := c
          simp only at hcal hev
          subst hcal
          cases v <;> simp only [kind2] at hk <;> try (cases hk;done)
          rename_i f x y
          cases f <;> simp only [Bool.and_eq_true] at hk <;> try (cases hk;done)
          rename_i f
          have hft : footA C me ⟨dst,.call ⟨.value g,args,ts⟩,ty,pos,after,guard⟩ a (base + i) = stillFoot := by
           have h1 : (standA C f (x ++ l ++ y)).isSome = false := by
            have := hk.1
            unfold standA
            cases hx : C.ext f <;> rw [hx] at this <;> simp_all
           have h2 := Nat.eq_of_beq_eq_true hk.2
           simp only [footA,hg,hev,h1,h2,Bool.false_eq_true,if_false,stillFoot]
          rw [hft]
          generalize hvis : visB base (base + n) (ws.getD i 0) (base + i) stillFoot = vis
          have hwl : ∀ k,(tb.headD ([],[],false)).2.1.contains k = true → (ws.getD i 0).testBit k = true := by
           have hr2 := hrow
           unfold rowOk at hr2
           rw [hnp,Bool.false_or,Bool.and_eq_true] at hr2
           exact fun k hk => List.all_eq_true.1 hr2.2 k (List.contains_iff_mem.1 hk)
          have hvo : ∀ b,(b < base ∨ base + n ≤ b ∨ (base ≤ b ∧ (tb.headD ([],[],false)).2.1.contains (b - base) = true)) → vis b = true := by
           intro b hb
           rw [← hvis]
           unfold visB stillFoot
           simp only [Bool.and_true,Bool.or_eq_true]
           right
           rcases hb with hb | hb | hb
           ·left;left;exact Nat.ble_eq_true_of_le hb
           ·left;right;exact Nat.ble_eq_true_of_le hb
           ·right;exact hwl _ hb.2
          obtain ⟨Y,hY⟩ := hrun (G.hide vis) rfl (hide_size G vis) (fun b hb => by
           rcases Nat.lt_or_ge b G.size with h1 | h1
           ·rw [hide_get,if_pos h1,if_pos (hvo b (by rw [hn] at hb;exact hb))]
           ·rw [hide_get,if_neg (by omega),get_none (by omega)])
          have hop : opA C (lim C) me ⟨dst,.call ⟨.value g,args,ts⟩,ty,pos,after,guard⟩ a (G.hide vis) (base + i) = some (some rv,Y) := by
           simp only [opA,hev,hg]
           unfold callX at hY
           simp only at hY ⊢
           rw [hY];rfl
          rw [hop]
          simp only
          rw [if_pos (by rfl)]
          simp only [footI,hnear,Bool.false_eq_true,if_false]
          simp only [hok,if_true]
          exact drawP_runs hnear hn r _ (i + 1) _ _ _ G (by simp [hf]) (by simp [hfM]) (by omega) hs (hle' _ _ (hsame _)) hops' htb' (hpl' _ fun h => absurd h hp) h
         ·exact h.elim
        ·exact h.elim
      ·rw [hem] at h
       simp only [iteB_true] at h
       have hu : (tb.headD ([],[],false)).1 = [] := List.isEmpty_iff.1 hem
       rw [hu] at hrow
       obtain ⟨dst,op,ty,pos,after,guard⟩ := o
       unfold effO at h
       simp only at h
       split at h
       ·rename_i c
        split at h
        ·rename_i g hcal
         rw [bindO_iff] at h
         obtain ⟨l,hev,h⟩ := h
         rw [bindO_iff] at h
         obtain ⟨v,hg,h⟩ := h
         obtain ⟨hk,h⟩ := h
         obtain ⟨cal,args,ts⟩ := c
         simp only at hcal hev
         subst hcal
         have hft : footA C me ⟨dst,.call ⟨.value g,args,ts⟩,ty,pos,after,guard⟩ a (base + i) = ⟨none,none,[],false,false,0,false,noKept⟩ := by
          simp only [footA,hg,hev]
          cases v <;> simp only [kind0] at hk <;> try (cases hk;done)
          ·rename_i f x y
           cases f <;> simp only [Bool.and_eq_true] at hk <;> try (cases hk;done)
           rename_i f
           have h1 : (standA C f (x ++ l ++ y)).isSome = false := by
            have := hk.1
            unfold standA
            cases hx : C.ext f <;> rw [hx] at this <;> simp_all
           have h2 := Nat.eq_of_beq_eq_true hk.2
           simp only [h1,h2,Bool.false_eq_true,if_false]
          ·rfl
         rw [hft]
         generalize hvis : visB base (base + n) (ws.getD i 0) (base + i) ⟨none,none,[],false,false,0,false,noKept⟩ = vis
         have hvo : ∀ b,(b < base ∨ base + n ≤ b) → vis b = true := by
          intro b hb
          rw [← hvis]
          unfold visB
          simp only [Bool.and_true,Bool.or_eq_true]
          right
          rcases hb with hb | hb
          ·left;left;exact Nat.ble_eq_true_of_le hb
          ·left;right;exact Nat.ble_eq_true_of_le hb
         obtain ⟨rv,Y,hY,hYs,hcont⟩ := h (G.hide vis) rfl (hide_size G vis) (fun b hb => by
          rcases Nat.lt_or_ge b G.size with h1 | h1
          ·rw [hide_get,if_pos h1,if_pos (hvo b (by rw [hn] at hb;exact hb))]
          ·rw [hide_get,if_neg (by omega),get_none (by omega)])
         have hop : opA C (lim C) me ⟨dst,.call ⟨.value g,args,ts⟩,ty,pos,after,guard⟩ a (G.hide vis) (base + i) = some (some rv,Y) := by
          simp only [opA,hev,hg]
          unfold callX at hY
          cases v with
          | fn f x y =>
           cases f with
           | func f =>
            simp only at hY ⊢
            rw [hY];rfl
           | _ => simp at hY
          | yld b =>
           simp only at hY ⊢
           split at hY
           ·rename_i hr
            simp only [Option.some.injEq,Prod.mk.injEq] at hY
            obtain ⟨rfl,rfl⟩ := hY
            rw [hr]
           ·cases hY
          | _ => simp at hY
         rw [hop]
         simp only
         rw [if_neg (by simp [Foot.idle]),Nat.ble_eq_true_of_le hYs,if_pos rfl]
         simp only [footN,hnear,Bool.false_eq_true,if_false]
         have hok : ∀ gr : Bool,freeOf feet (ws.getD i 0) ⟨none,none,[],false,gr,0,false,noKept⟩ i = true := fun gr => free_of hrow hnp hpl rfl
         rw [hok,if_pos rfl]
         have hG' := hcont (G.merge vis Y) rfl (merge_size vis hYs) (fun b hb => by
          rw [merge_get _ hYs]
          rcases Nat.lt_or_ge b G.size with h1 | h1
          ·rw [if_pos h1,if_pos (hvo b (by rw [hn] at hb;exact hb))]
          ·rw [if_neg (by omega)]) (fun b h1 h2 => by
          rw [merge_get _ hYs]
          split
          ·split
           ·exact Or.inr rfl
           ·exact Or.inl rfl
          ·exact Or.inr rfl)
         refine drawP_runs hnear hn r _ (i + 1) _ _ _ _ (by simp [hf]) (by simp [hfM]) (by omega) (by rw [merge_size vis hYs];omega) (hle' effFoot _ ?_) hops' htb' (hpl' _ fun h => absurd h hp) hG'
         intro ft hft'
         obtain ⟨r',w',f',p',g'⟩ := ft
         unfold frOne effFoot clash at hft'
         unfold frOne clash
         simp only [Bool.not_eq_true',Bool.or_eq_false_iff,Bool.true_and] at hft' ⊢
         obtain ⟨⟨⟨⟨⟨⟨q1,q2⟩,q3⟩,q4⟩,q5⟩,q6⟩,q7⟩ := hft'
         exact ⟨⟨⟨⟨⟨⟨q1,q2⟩,q3⟩,q4⟩,q5⟩,by rw [q6,Bool.and_false]⟩,q7⟩
        ·exact h.elim
       ·exact h.elim
theorem wp_drawD {id : Nat} {ops : Array Oper} {a : AAct} {H : Heap} {K : Post} (tb : Tab) (hok : drawOk ops = true) (htb : tabOk ops.toList (waitsAll ops.toList) tb = true)
  (h : drawP C me ops H.size tb ops.toList 0 [] a ⟨H.objs ++ List.replicate ops.toList.length none,H.lock⟩ (setK C me H.size K)) (hnear : ∀ d,C.near me d = false := by intro d;rfl) : Wp C me rd (.region id ops true) a H K := by
 obtain ⟨r,h1,h2⟩ := drawP_runs (ops := ops.toList) (ws := waitsAll ops.toList) (n := ops.toList.length) hnear rfl ops.toList tb 0 [] [] a _ rfl rfl (by omega) (by unfold Heap.size;simp) (fun _ _ h => h) (fun k => by rw [Nat.zero_add]) (fun k hk => by rw [Nat.zero_add] at hk ⊢;exact List.all_eq_true.1 htb k (List.mem_range.2 (by omega))) (fun k o hk => by omega) h
 have hreg : regionA C (lim C) me ops true a H = some r := by
  unfold regionA
  unfold drawOk at hok
  simp only [if_true]
  rw [if_pos hok];exact h1
 unfold Wp
 simp only [codeA,hreg,Option.map_some,bindO_some]
 exact h2
@[congr] theorem drawP_congr {arr : Array Oper} {base : Nat} {tb : Tab} {l : List Oper} {i i' : Nat} {feet feet' : List Foot} {a a' : AAct} {G G' : Heap} {K : PostS} (hi : i = i') (hf : feet = feet') (ha : a = a') (hG : G = G') : drawP C me arr base tb l i feet a G K = drawP C me arr base tb l i' feet' a' G' K := by rw [hi,hf,ha,hG]
section eqs
variable {arr : Array Oper} {base : Nat} {tb : Tab}
@[go_sem ↓] theorem drawP_nil (i : Nat) (feet : List Foot) (a : AAct) (G : Heap) (K : PostS) : drawP C me arr base tb [] i feet a G K = AtS K a G := by unfold drawP;rfl
def plainOp (op : Op) : Bool :=
 match op with
 | .move _ | .assign _ | .pick .. | .build .. | .nilCheck _ | .binOp .. | .unOp .. | .convert .. | .makeInterface .. | .makeFunc .. | .fieldAddr .. | .field .. | .indexAddr .. | .index .. | .extract .. => true
 | _ => false
theorem plainOp_eq (o : Oper) : plainO o = plainOp o.op := rfl
def footD (C : Cfg) (me : FuncId) (d : Option Tmp) (op : Op) (a : AAct) (slot : Nat) : Foot := footA C me (bareO d op) a slot
def contP (C : Cfg) (me : FuncId) (arr : Array Oper) (base : Nat) (tb : Tab) (r : List Oper) (i : Nat) (feet : List Foot) (d : Option Tmp) (a : AAct) (K : PostS) : PostO := fun v G => drawP C me arr base tb r i feet (a.put d v) G K
def contQ (C : Cfg) (me : FuncId) (arr : Array Oper) (base : Nat) (tb : Tab) (r : List Oper) (i : Nat) (feet : List Foot) (d : Option Tmp) (a : AAct) (G : Heap) (K : PostS) : PostO := fun v _ => drawP C me arr base tb r i feet (a.put d v) G K
@[go_sem ↓] theorem contP_some (r : List Oper) (i : Nat) (feet : List Foot) (d : Tmp) (s : Nat) (l : List (Tmp × AV)) (m : List Nat) (K : PostS) (v : AV) (G : Heap) : AtO (contP C me arr base tb r i feet (some d) ⟨s,l,m⟩ K) v G = drawP C me arr base tb r i feet ⟨s,putT s d v l,m⟩ G K := by
 unfold AtO contP;simp only [AAct.put,putT];split <;> rfl
@[go_sem ↓] theorem contP_none (r : List Oper) (i : Nat) (feet : List Foot) (a : AAct) (K : PostS) (v : AV) (G : Heap) : AtO (contP C me arr base tb r i feet none a K) v G = drawP C me arr base tb r i feet a G K := rfl
@[go_sem ↓] theorem contQ_some (r : List Oper) (i : Nat) (feet : List Foot) (d : Tmp) (s : Nat) (l : List (Tmp × AV)) (m : List Nat) (G : Heap) (K : PostS) (v : AV) (G' : Heap) : AtO (contQ C me arr base tb r i feet (some d) ⟨s,l,m⟩ G K) v G' = drawP C me arr base tb r i feet ⟨s,putT s d v l,m⟩ G K := by
 unfold AtO contQ;simp only [AAct.put,putT];split <;> rfl
def stepDP (C : Cfg) (me : FuncId) (arr : Array Oper) (base : Nat) (tb : Tab) (d : Option Tmp) (op : Op) (r : List Oper) (i : Nat) (feet : List Foot) (a : AAct) (G : Heap) (K : PostS) : Prop :=
 iteB (plainOp op) (WpO C me d op a G 0 (contQ C me arr base tb.tail r (i + 1) (feet ++ [noFoot]) d a G K))
  (iteB (locOp op) (iteB (okFootT base (tb.headD ([],[],false)).2.1 (footD C me d op a (base + i)) && freeT feet (tb.headD ([],[],false)).1 (footD C me d op a (base + i)))
    (WpO C me d op a G (base + i) (contP C me arr base tb.tail r (i + 1) (feet ++ [footD C me d op a (base + i)]) d a K)) False)
   (iteB (tb.headD ([],[],false)).2.2
    (iteB (tb.headD ([],[],false)).1.isEmpty (effO C me base (base + arr.toList.length) (bareO d op) a G (contP C me arr base tb.tail r (i + 1) (feet ++ [effFoot]) d a K)) (iteB (freeT feet (tb.headD ([],[],false)).1 stillFoot) (stillO C me base (base + arr.toList.length) (tb.headD ([],[],false)).2.1 (bareO d op) a G (contP C me arr base tb.tail r (i + 1) (feet ++ [stillFoot]) d a K)) False))
    (iteB (freeT feet (tb.headD ([],[],false)).1 (idleFoot C me (bareO d op) a (base + i)))
     (WpJ C me d op a { objs := [],lock := 0 } (contQ C me arr base tb.tail r (i + 1) (feet ++ [idleFoot C me (bareO d op) a (base + i)]) d a G K)) False)))
@[congr] theorem stepDP_congr {d : Option Tmp} {op : Op} {r : List Oper} {i i' : Nat} {feet feet' : List Foot} {a a' : AAct} {G G' : Heap} {K : PostS} (hi : i = i') (hf : feet = feet') (ha : a = a') (hG : G = G') : stepDP C me arr base tb d op r i feet a G K = stepDP C me arr base tb d op r i' feet' a' G' K := by rw [hi,hf,ha,hG]
theorem drawP_step (o : Oper) (r : List Oper) (i : Nat) (feet : List Foot) (a : AAct) (G : Heap) (K : PostS) :
  drawP C me arr base tb (o :: r) i feet a G K = bindO (wantedA arr a o) fun w => iteB w (stepDP C me arr base tb o.dst o.op r i feet a G K) (drawP C me arr base tb.tail r (i + 1) (feet ++ [noFoot]) (a.put o.dst undefA) G K) := by
 have e1 : ∀ s,footA C me o a s = footD C me o.dst o.op a s := fun s => rfl
 have e2 : ∀ s,idleFoot C me o a s = idleFoot C me (bareO o.dst o.op) a s := fun s => rfl
 conv => lhs;unfold drawP
 unfold stepDP
 rw [plainOp_eq,e1,e2]
 congr 1
 funext w
 cases w
 ·rfl
 ·simp only [iteB_true]
  cases hp : plainOp o.op
  ·simp only [iteB_false]
   rfl
  ·simp only [iteB_true]
   unfold WpO
   have := plain_slot (C := C) (me := me) (o := bareO o.dst o.op) hp a G (base + i) 0
   show bindO (opA C (lim C) me (bareO o.dst o.op) a G (base + i)) _ = bindO (opA C (lim C) me (bareO o.dst o.op) a G 0) _
   rw [this];rfl
@[go_sem ↓] theorem drawP_op (d : Option Tmp) (op : Op) (ty : TypeId) (p : String) (af : Array Edge) (r : List Oper) (i : Nat) (feet : List Foot) (a : AAct) (G : Heap) (K : PostS) :
  drawP C me arr base tb (⟨d,op,ty,p,af,none⟩ :: r) i feet a G K = stepDP C me arr base tb d op r i feet a G K := by
 rw [drawP_step];rfl
@[go_sem ↓] theorem drawP_guard (d : Tmp) (op : Op) (ty : TypeId) (p : String) (af : Array Edge) (j : Nat) (w : Bool) (r : List Oper) (i : Nat) (feet : List Foot) (s : Nat) (l : List (Tmp × AV)) (m : List Nat) (G : Heap) (K : PostS) :
  drawP C me arr base tb (⟨some d,op,ty,p,af,some (j,w)⟩ :: r) i feet ⟨s,l,m⟩ G K = bindO (yieldAt ((arr.toList[j]?).bind (·.dst)) ⟨s,l,m⟩) fun y => iteB (y == some w) (stepDP C me arr base tb (some d) op r i feet ⟨s,l,m⟩ G K) (drawP C me arr base tb.tail r (i + 1) (feet ++ [noFoot]) ⟨s,putT s d undefA l,m⟩ G K) := by
 rw [drawP_step]
 have e : (AAct.mk s l m).put (some d) undefA = ⟨s,putT s d undefA l,m⟩ := by simp only [AAct.put,putT];split <;> rfl
 rw [e]
 simp only [wantedA,yieldedA,yieldAt,Array.getElem?_toList]
 cases (arr[j]?).bind (·.dst) with
 | none => rfl
 | some d =>
  simp only
  rcases assoc d l with _ | v
  ·rfl
  ·rcases v with v | _ | l | _ | _ | _ | _ | _ | _ | _ | _ <;> try rfl
   ·cases v <;> rfl
   ·cases l <;> rfl
@[go_sem ↓] theorem stepDP_move (d : Option Tmp) (x) (r : List Oper) (i : Nat) (feet : List Foot) (a : AAct) (G : Heap) (K : PostS) : stepDP C me arr base tb d (.move x) r i feet a G K = WpO C me d (.move x) a G 0 (contQ C me arr base tb.tail r (i + 1) (feet ++ [noFoot]) d a G K) := rfl
@[go_sem ↓] theorem stepDP_assign (d : Option Tmp) (x) (r : List Oper) (i : Nat) (feet : List Foot) (a : AAct) (G : Heap) (K : PostS) : stepDP C me arr base tb d (.assign x) r i feet a G K = WpO C me d (.assign x) a G 0 (contQ C me arr base tb.tail r (i + 1) (feet ++ [noFoot]) d a G K) := rfl
@[go_sem ↓] theorem stepDP_pick (d : Option Tmp) (x y z) (r : List Oper) (i : Nat) (feet : List Foot) (a : AAct) (G : Heap) (K : PostS) : stepDP C me arr base tb d (.pick x y z) r i feet a G K = WpO C me d (.pick x y z) a G 0 (contQ C me arr base tb.tail r (i + 1) (feet ++ [noFoot]) d a G K) := rfl
@[go_sem ↓] theorem stepDP_nilCheck (d : Option Tmp) (x) (r : List Oper) (i : Nat) (feet : List Foot) (a : AAct) (G : Heap) (K : PostS) : stepDP C me arr base tb d (.nilCheck x) r i feet a G K = WpO C me d (.nilCheck x) a G 0 (contQ C me arr base tb.tail r (i + 1) (feet ++ [noFoot]) d a G K) := rfl
@[go_sem ↓] theorem stepDP_binOp (d : Option Tmp) (o t x y z) (r : List Oper) (i : Nat) (feet : List Foot) (a : AAct) (G : Heap) (K : PostS) : stepDP C me arr base tb d (.binOp o t x y z) r i feet a G K = WpO C me d (.binOp o t x y z) a G 0 (contQ C me arr base tb.tail r (i + 1) (feet ++ [noFoot]) d a G K) := rfl
@[go_sem ↓] theorem stepDP_unOp (d : Option Tmp) (o t x) (r : List Oper) (i : Nat) (feet : List Foot) (a : AAct) (G : Heap) (K : PostS) : stepDP C me arr base tb d (.unOp o t x) r i feet a G K = WpO C me d (.unOp o t x) a G 0 (contQ C me arr base tb.tail r (i + 1) (feet ++ [noFoot]) d a G K) := rfl
@[go_sem ↓] theorem stepDP_fieldAddr (d : Option Tmp) (t x j) (r : List Oper) (i : Nat) (feet : List Foot) (a : AAct) (G : Heap) (K : PostS) : stepDP C me arr base tb d (.fieldAddr t x j) r i feet a G K = WpO C me d (.fieldAddr t x j) a G 0 (contQ C me arr base tb.tail r (i + 1) (feet ++ [noFoot]) d a G K) := rfl
@[go_sem ↓] theorem stepDP_indexAddr (d : Option Tmp) (t x y) (r : List Oper) (i : Nat) (feet : List Foot) (a : AAct) (G : Heap) (K : PostS) : stepDP C me arr base tb d (.indexAddr t x y) r i feet a G K = WpO C me d (.indexAddr t x y) a G 0 (contQ C me arr base tb.tail r (i + 1) (feet ++ [noFoot]) d a G K) := rfl
@[go_sem ↓] theorem stepDP_load (d : Option Tmp) (t x) (r : List Oper) (i : Nat) (feet : List Foot) (a : AAct) (G : Heap) (K : PostS) : stepDP C me arr base tb d (.load t x) r i feet a G K = bindO (nf (footD C me d (.load t x) a (base + i))) fun ft => iteB (okFootT base (tb.headD ([],[],false)).2.1 ft && freeT feet (tb.headD ([],[],false)).1 ft) (WpO C me d (.load t x) a G (base + i) (contP C me arr base tb.tail r (i + 1) (feet ++ [ft]) d a K)) False := rfl
@[go_sem ↓] theorem stepDP_store (d : Option Tmp) (t x y) (r : List Oper) (i : Nat) (feet : List Foot) (a : AAct) (G : Heap) (K : PostS) : stepDP C me arr base tb d (.store t x y) r i feet a G K = bindO (nf (footD C me d (.store t x y) a (base + i))) fun ft => iteB (okFootT base (tb.headD ([],[],false)).2.1 ft && freeT feet (tb.headD ([],[],false)).1 ft) (WpO C me d (.store t x y) a G (base + i) (contP C me arr base tb.tail r (i + 1) (feet ++ [ft]) d a K)) False := rfl
@[go_sem ↓] theorem stepDP_buildSlice (d : Option Tmp) (t n x) (r : List Oper) (i : Nat) (feet : List Foot) (a : AAct) (G : Heap) (K : PostS) : stepDP C me arr base tb d (.buildSlice t n x) r i feet a G K = bindO (nf (footD C me d (.buildSlice t n x) a (base + i))) fun ft => iteB (okFootT base (tb.headD ([],[],false)).2.1 ft && freeT feet (tb.headD ([],[],false)).1 ft) (WpO C me d (.buildSlice t n x) a G (base + i) (contP C me arr base tb.tail r (i + 1) (feet ++ [ft]) d a K)) False := rfl
@[go_sem ↓] theorem stepDP_unsafeStr (d : Option Tmp) (args ts) (r : List Oper) (i : Nat) (feet : List Foot) (a : AAct) (G : Heap) (K : PostS) : stepDP C me arr base tb d (.call ⟨.builtin .unsafeString,args,ts⟩) r i feet a G K = bindO (nf (footD C me d (.call ⟨.builtin .unsafeString,args,ts⟩) a (base + i))) fun ft => iteB (okFootT base (tb.headD ([],[],false)).2.1 ft && freeT feet (tb.headD ([],[],false)).1 ft) (WpO C me d (.call ⟨.builtin .unsafeString,args,ts⟩) a G (base + i) (contP C me arr base tb.tail r (i + 1) (feet ++ [ft]) d a K)) False := rfl
@[go_sem ↓] theorem stepDP_sliceData (d : Option Tmp) (args ts) (r : List Oper) (i : Nat) (feet : List Foot) (a : AAct) (G : Heap) (K : PostS) : stepDP C me arr base tb d (.call ⟨.builtin .unsafeSliceData,args,ts⟩) r i feet a G K = bindO (nf (footD C me d (.call ⟨.builtin .unsafeSliceData,args,ts⟩) a (base + i))) fun ft => iteB (okFootT base (tb.headD ([],[],false)).2.1 ft && freeT feet (tb.headD ([],[],false)).1 ft) (WpO C me d (.call ⟨.builtin .unsafeSliceData,args,ts⟩) a G (base + i) (contP C me arr base tb.tail r (i + 1) (feet ++ [ft]) d a K)) False := rfl
@[go_sem ↓] theorem stepDP_slice (d : Option Tmp) (t x l h m) (r : List Oper) (i : Nat) (feet : List Foot) (a : AAct) (G : Heap) (K : PostS) : stepDP C me arr base tb d (.slice t x l h m) r i feet a G K = iteB (tb.headD ([],[],false)).2.2 (iteB (tb.headD ([],[],false)).1.isEmpty (effO C me base (base + arr.toList.length) (bareO d (.slice t x l h m)) a G (contP C me arr base tb.tail r (i + 1) (feet ++ [effFoot]) d a K)) (iteB (freeT feet (tb.headD ([],[],false)).1 stillFoot) (stillO C me base (base + arr.toList.length) (tb.headD ([],[],false)).2.1 (bareO d (.slice t x l h m)) a G (contP C me arr base tb.tail r (i + 1) (feet ++ [stillFoot]) d a K)) False)) (bindO (nf (idleFoot C me (bareO d (.slice t x l h m)) a (base + i))) fun ft => iteB (freeT feet (tb.headD ([],[],false)).1 ft) (WpJ C me d (.slice t x l h m) a { objs := [],lock := 0 } (contQ C me arr base tb.tail r (i + 1) (feet ++ [ft]) d a G K)) False) := rfl
@[go_sem ↓] theorem stepDP_len (d : Option Tmp) (args ts) (r : List Oper) (i : Nat) (feet : List Foot) (a : AAct) (G : Heap) (K : PostS) : stepDP C me arr base tb d (.call ⟨.builtin .len,args,ts⟩) r i feet a G K = iteB (tb.headD ([],[],false)).2.2 (iteB (tb.headD ([],[],false)).1.isEmpty (effO C me base (base + arr.toList.length) (bareO d (.call ⟨.builtin .len,args,ts⟩)) a G (contP C me arr base tb.tail r (i + 1) (feet ++ [effFoot]) d a K)) (iteB (freeT feet (tb.headD ([],[],false)).1 stillFoot) (stillO C me base (base + arr.toList.length) (tb.headD ([],[],false)).2.1 (bareO d (.call ⟨.builtin .len,args,ts⟩)) a G (contP C me arr base tb.tail r (i + 1) (feet ++ [stillFoot]) d a K)) False)) (bindO (nf (idleFoot C me (bareO d (.call ⟨.builtin .len,args,ts⟩)) a (base + i))) fun ft => iteB (freeT feet (tb.headD ([],[],false)).1 ft) (WpJ C me d (.call ⟨.builtin .len,args,ts⟩) a { objs := [],lock := 0 } (contQ C me arr base tb.tail r (i + 1) (feet ++ [ft]) d a G K)) False) := rfl
@[go_sem ↓] theorem stepDP_callv (d : Option Tmp) (g args ts) (r : List Oper) (i : Nat) (feet : List Foot) (a : AAct) (G : Heap) (K : PostS) : stepDP C me arr base tb d (.call ⟨.value g,args,ts⟩) r i feet a G K = iteB (tb.headD ([],[],false)).2.2 (iteB (tb.headD ([],[],false)).1.isEmpty (effO C me base (base + arr.toList.length) (bareO d (.call ⟨.value g,args,ts⟩)) a G (contP C me arr base tb.tail r (i + 1) (feet ++ [effFoot]) d a K)) (iteB (freeT feet (tb.headD ([],[],false)).1 stillFoot) (stillO C me base (base + arr.toList.length) (tb.headD ([],[],false)).2.1 (bareO d (.call ⟨.value g,args,ts⟩)) a G (contP C me arr base tb.tail r (i + 1) (feet ++ [stillFoot]) d a K)) False)) (bindO (nf (idleFoot C me (bareO d (.call ⟨.value g,args,ts⟩)) a (base + i))) fun ft => iteB (freeT feet (tb.headD ([],[],false)).1 ft) (WpJ C me d (.call ⟨.value g,args,ts⟩) a { objs := [],lock := 0 } (contQ C me arr base tb.tail r (i + 1) (feet ++ [ft]) d a G K)) False) := rfl
def objsE (o : Option AV) : List Nat := match o with | some v => objsOf v | none => []
@[go_sem] theorem objsE_some (v : AV) : objsE (some v) = objsOf v := rfl
@[go_sem] theorem objs_ptr (b v k : Nat) : objsOf (.ptr b v k) = [b] := rfl
@[go_sem] theorem objs_sl (b v o n : Nat) (c : Option Nat) : objsOf (.sl b v o n c) = [b] := rfl
@[go_sem] theorem objs_v (x : Value) : objsOf (.v x) = [] := rfl
@[go_sem] theorem objs_ro (x : AV) (k : Nat) : objsOf (.ro x k) = [] := rfl
def objsL (a : AAct) : List Operand → List Nat
 | [] => []
 | x :: r => objsE (a.eval x) ++ objsL a r
theorem objsL_eq (a : AAct) : ∀ l : List Operand,l.flatMap (objsO a) = objsL a l
 | [] => rfl
 | x :: r => by rw [List.flatMap_cons,objsL_eq a r];rfl
@[go_sem] theorem objsL_nil (a : AAct) : objsL a [] = [] := rfl
@[go_sem] theorem objsL_cons (a : AAct) (x : Operand) (r : List Operand) : objsL a (x :: r) = objsE (a.eval x) ++ objsL a r := rfl
def objs1 (a : AAct) (l : List Operand) : List Nat := match l with | [] => [] | x :: _ => objsE (a.eval x)
@[go_sem] theorem objs1_cons (a : AAct) (x : Operand) (r : List Operand) : objs1 a (x :: r) = objsE (a.eval x) := rfl
@[go_sem] theorem footD_load (d : Option Tmp) (t x) (a : AAct) (s : Nat) : footD C me d (.load t x) a s = ⟨some (objsE (a.eval x)),some [],[],false,false,0,false,noKept⟩ := rfl
@[go_sem] theorem footD_store (d : Option Tmp) (t x y) (a : AAct) (s : Nat) : footD C me d (.store t x y) a s = ⟨some (objsE (a.eval x)),some (objsE (a.eval x)),[],false,false,0,false,noKept⟩ := rfl
@[go_sem] theorem footD_build (d : Option Tmp) (t n x) (a : AAct) (s : Nat) : footD C me d (.buildSlice t n x) a s = ⟨some [],some [],[s],false,false,0,false,noKept⟩ := rfl
@[go_sem] theorem footD_unsafeStr (d : Option Tmp) (args ts) (a : AAct) (s : Nat) : footD C me d (.call ⟨.builtin .unsafeString,args,ts⟩) a s = ⟨some (objsL a args.toList),some (objs1 a args.toList),[],false,false,0,false,noKept⟩ := by
 unfold footD footA bareO;simp only
 rw [objsL_eq]
 cases args.toList <;> rfl
@[go_sem] theorem footD_sliceData (d : Option Tmp) (args ts) (a : AAct) (s : Nat) : footD C me d (.call ⟨.builtin .unsafeSliceData,args,ts⟩) a s = ⟨some [],some [],[],false,false,0,false,noKept⟩ := rfl
@[go_sem] theorem idleFoot_slice (d : Option Tmp) (t x l h m) (a : AAct) (s : Nat) : idleFoot C me (bareO d (.slice t x l h m)) a s = ⟨some (objsE (a.eval x)),some [],[],false,false,0,false,noKept⟩ := rfl
@[go_sem] theorem idleFoot_len (d : Option Tmp) (args ts) (a : AAct) (s : Nat) : idleFoot C me (bareO d (.call ⟨.builtin .len,args,ts⟩)) a s = ⟨some (objsL a args.toList),some [],[],false,false,0,false,noKept⟩ := by
 unfold idleFoot footA bareO;simp only
 rw [objsL_eq]
@[go_sem] theorem idleFoot_call (d : Option Tmp) (g args ts) (a : AAct) (s : Nat) : idleFoot C me (bareO d (.call ⟨.value g,args,ts⟩)) a s = ⟨some [],some [],[],false,false,0,false,noKept⟩ := rfl
@[go_sem] theorem okFootT_mk (b : Nat) (w l : List Nat) (x : Option (List Nat)) (f : List Nat) (p g : Bool) (n : Nat) (q : Bool) : okFootT b w ⟨some l,x,f,p,g,n,q,noKept⟩ = l.all fun c => ltB c b || w.any fun k => c == b + k := rfl
@[go_sem] theorem freeT_nil (feet : List Foot) (ft : Foot) : freeT feet [] ft = true := rfl
@[go_sem] theorem freeT_cons (feet : List Foot) (k : Nat) (u : List Nat) (ft : Foot) : freeT feet (k :: u) ft = (frOne (feet[k]?) ft && freeT feet u ft) := rfl
def meetL (l : List Nat) (m : List Nat) : Bool := l.any fun x => m.any fun y => x == y
@[go_sem] theorem meetL_nil (m : List Nat) : meetL [] m = false := rfl
@[go_sem] theorem meetL_nilr (l : List Nat) : meetL l [] = false := by unfold meetL;induction l <;> simp_all
theorem meet_L : ∀ l m : List Nat,meet (some l) (some m) = meetL l m
 | [],_ => rfl
 | x :: l,[] => by rw [meetL_nilr];rfl
 | x :: l,y :: m => by
  show ((x :: l).any (y :: m).contains) = _
  unfold meetL
  congr 1
  funext z
  exact List.contains_eq_any_beq
theorem keptL (r w : Option (List Nat)) (g : List Nat) (p gr q : Bool) (n : Nat) (l m : List Nat) : (meetL l m && !(keptAll ⟨r,w,g,p,gr,n,q,noKept⟩ (some m))) = meetL l m := by
 cases m with
 | nil => rw [meetL_nilr];rfl
 | cons x m => simp [keptAll,noKept]
theorem keptL' (r w : Option (List Nat)) (g : List Nat) (p gr q : Bool) (n : Nat) (l m : List Nat) : (meetL m l && !(keptAll ⟨r,w,g,p,gr,n,q,noKept⟩ (some m))) = meetL m l := by
 cases m with
 | nil => rfl
 | cons x m => simp [keptAll,noKept]
@[go_sem] theorem frOne_mk (r w f : List Nat) (p : Bool) (r' w' f' : List Nat) (p' : Bool) (n n' : Nat) (q q' : Bool) : frOne (some ⟨some r,some w,f,p,false,n,q,noKept⟩) ⟨some r',some w',f',p',false,n',q',noKept⟩ = !(meetL w r' || meetL w w' || meetL r w' || meetL f r' || meetL f w') := by
 unfold frOne clash
 simp only [meet_L,Bool.false_and,Bool.or_false]
 rw [keptL,keptL']
@[go_sem] theorem meetL_one (x y : Nat) : meetL [x] [y] = (x == y) := by simp [meetL]
@[go_sem] theorem ltB_zero (n : Nat) : ltB 0 (n + 1) = true := by simp [ltB]
@[go_sem] theorem ltB_succ (a n : Nat) : ltB (a + 1) (n + 1) = ltB a n := by simp [ltB]
@[go_sem] theorem tail_tab (x : List Nat × List Nat × Bool) (tb : Tab) : (x :: tb).tail = tb := rfl
@[congr] theorem stillV_congr {top : Nat} {vl : List Nat} {d : Option Tmp} {v v' : AV} {l l' : List AV} {G G' : Heap} {cont : AV → Heap → Prop} (hv : v = v') (hl : l = l') (hG : G = G') : stillV C me base top vl d v l G cont = stillV C me base top vl d v' l' G' cont := by rw [hv,hl,hG]
@[congr] theorem effV_congr {top : Nat} {d : Option Tmp} {v v' : AV} {l l' : List AV} {G G' : Heap} {cont : AV → Heap → Prop} (hv : v = v') (hl : l = l') (hG : G = G') : effV C me base top d v l G cont = effV C me base top d v' l' G' cont := by rw [hv,hl,hG]
end eqs
end
end Go.Ev
namespace Go.Ev
section
variable {P : Program}
def appTo (e sz by' : Nat) (H : Heap) (slot n : Nat) (new : List AV) (s : AV) : Option (AV × Heap) :=
 match s with
 | .v (.slice none 0 0) => if n = 0 then some (s,H) else (if fitsA by' n && ([] : List AV).all AV.flat then some (.sl slot 0 0 n none,H.put slot (.cells 0 (Nat.max (boundL []) (boundL new)) e sz true ([] ++ new))) else none)
 | .vs z xs cap =>
  if z ≠ sz then none else
  if n = 0 then some (s,H) else
  match cap with
  | some c => if c = xs.length then (if fitsA by' (xs.length + n) && (xs.flatMap AV.cells).all AV.flat then some (.sl slot 0 0 (xs.length + n) none,H.put slot (.cells 0 (Nat.max (boundL (xs.flatMap AV.cells)) (boundL new)) e sz true (xs.flatMap AV.cells ++ new))) else none) else none
  | none => none
 | .sl b v off len cap =>
  if n = 0 then some (s,H) else
  match H.row b v with
  | some (m,e1,z,g,cs) =>
   match cap with
   | some c =>
    if len + n ≤ c then
     (match storeCells H b v (off + len * sz) new with | some H' => some (.sl b v off (len + n) cap,H') | none => none)
    else if off + len * sz ≤ cs.length then (if fitsA by' (len + n) && ((cs.drop off).take (len * sz)).all AV.flat then some (.sl slot 0 0 (len + n) none,H.put slot (.cells 0 (Nat.max (boundL ((cs.drop off).take (len * sz))) (boundL new)) e sz true ((cs.drop off).take (len * sz) ++ new))) else none) else none
   | none =>
    if z ≠ sz then none else
    if off + (len + n) * sz ≤ cs.length then
     (match storeCells H b v (off + len * sz) new with | some H' => some (.sl b v off (len + n) cap,H') | none => none)
    else if g = true ∧ off + len * sz = cs.length ∧ H.lock ≤ b ∧ fitsA by' (len + n) = true ∧ e1 = e then
     some (.sl b (v + 1) 0 (len + n) none,H.put b (.cells (v + 1) (Nat.max m (boundL new)) e sz true (cs.drop off ++ new)))
    else none
  | _ => none
 | _ => none
theorem appTo_eq (e : TypeId) (i : TypeInfo) (H : Heap) (slot n : Nat) (new : List AV) (s : AV) : appendTo H slot e i n new s = appTo e i.size i.bytes H slot n new s := by
 unfold appendTo appTo madeA
 rfl
def appG (e sz by' : Nat) (H : Heap) (slot : Nat) (s : AV) (c : Option (Nat × List AV)) : Option (AV × Heap) :=
 match c with
 | none => none
 | some (n,new) => if new.all AV.flat = false then none else appTo e sz by' H slot n new s
theorem app_eq {t u e : TypeId} {i : TypeInfo} {z : AV} (hi : isIntT P u = false) (hu : P.underlying t = some (.slice e)) (hinf : P.info? e = some i) (hz : zeroT P e = some z) (h1 : i.size ≠ 0) (h2 : i.bytes ≠ 0) (h3 : z.cells.length = i.size) (H : Heap) (slot : Nat) (s x : AV) :
  appendA P H slot [t,u] [s,x] = appG e i.size i.bytes H slot s (cellsFrom H i.size x) := by
 unfold appendA appG
 simp only [hi,hu,hinf,hz,Bool.false_eq_true,if_false]
 cases cellsFrom H i.size x with
 | none => rfl
 | some p =>
  simp only
  by_cases hf : p.2.all AV.flat = false
  ·rw [if_pos (Or.inr (Or.inr (Or.inl hf))),if_pos hf]
  ·rw [if_neg (by rintro (h | h | h | h);exact h1 h;exact h2 h;exact hf h;exact h h3),if_neg hf,appTo_eq]
theorem app_eq2 {t u e sz by' : Nat} (hi : isIntT P u = false) (hu : P.underlying t = some (.slice e)) (hinf : (P.info? e).map (fun i => (i.size,i.bytes)) = some (sz,by')) (hz : (zeroT P e).map (fun z => z.cells.length) = some sz) (h1 : sz ≠ 0) (h2 : by' ≠ 0) (H : Heap) (slot : Nat) (s x : AV) :
  appendA P H slot [t,u] [s,x] = appG e sz by' H slot s (cellsFrom H sz x) := by
 obtain ⟨i,hi1,hi2⟩ := Option.map_eq_some_iff.1 hinf
 obtain ⟨z,hz1,hz2⟩ := Option.map_eq_some_iff.1 hz
 simp only [Prod.mk.injEq] at hi2
 obtain ⟨rfl,rfl⟩ := hi2
 exact app_eq hi hu hi1 hz1 h1 h2 hz2 H slot s x
end
@[go_sem] theorem appG_some (e sz b : Nat) (H : Heap) (slot : Nat) (s : AV) (n : Nat) (new : List AV) : appG e sz b H slot s (some (n,new)) = if new.all AV.flat = false then none else appTo e sz b H slot n new s := rfl
@[go_sem] theorem cells_vs' (H : Heap) (sz z : Nat) (xs : List AV) (c : Option Nat) : cellsFrom H sz (.vs z xs c) = if z = sz then some (xs.length,xs.flatMap AV.cells) else none := rfl
@[go_sem] theorem appTo_nil (e sz b : Nat) (H : Heap) (slot n : Nat) (new : List AV) : appTo e sz b H slot n new (.v (.slice none 0 0)) = if n = 0 then some (.v (.slice none 0 0),H) else if fitsA b n = true then some (.sl slot 0 0 n none,H.put slot (.cells 0 (boundL new) e sz true new)) else none := by
 unfold appTo
 simp only [List.all_nil,Bool.and_true,List.nil_append]
 rw [show Nat.max (boundL []) (boundL new) = boundL new from Nat.zero_max (boundL new)]
theorem appTo_own {e sz b' : Nat} {H : Heap} {slot b v len n : Nat} {new : List AV} {m e' : Nat} {cs : List AV} (hr : H.row b v = some (m,e',sz,true,cs)) (hl : len * sz = cs.length) (hk : H.lock ≤ b) (hf : fitsA b' (len + n) = true) (hn : 0 < n) (hs : 0 < sz) (he : e' = e := by rfl) :
  appTo e sz b' H slot n new (.sl b v 0 len none) = some (.sl b (v + 1) 0 (len + n) none,H.put b (.cells (v + 1) (Nat.max m (boundL new)) e sz true (cs ++ new))) := by
 unfold appTo
 simp only [hr]
 rw [if_neg (by omega),if_neg (by simp),if_neg,if_pos ⟨trivial,by simpa using hl,hk,hf,he⟩]
 ·rfl
 ·have : (len + n) * sz = len * sz + n * sz := Nat.add_mul ..
  have h2 : 0 < n * sz := Nat.mul_pos hn hs
  omega
@[go_sem] theorem plus_mk (l : List (Option AObj)) (k : Nat) (E : List (Option AObj)) : (Heap.mk l k).plus E = ⟨l ++ E,k⟩ := rfl
section
variable {X : Heap} {N : Nat}
theorem putP (hN : X.size = N) (E : List (Option AObj)) (k : Nat) (o : AObj) : (X.plus E).put (N + k) o = X.plus (setOrPush (some o) k E) := by
 subst hN
 rw [plus_put_hi _ _ (by omega),Nat.add_sub_cancel_left]
theorem putP0 (hN : X.size = N) (E : List (Option AObj)) (o : AObj) : (X.plus E).put N o = X.plus (setOrPush (some o) 0 E) := putP hN E 0 o
theorem sizeP (hN : X.size = N) (E : List (Option AObj)) : (X.plus E).size = N + E.length := by rw [plus_size,hN]
theorem settleP (hN : X.size = N) (E : List (Option AObj)) (k : Nat) : settleH (N + k) (X.plus E) = if (E.drop k).all Option.isNone = true then X.plus (E.take k) else X.plus E := by
 subst hN
 unfold settleH Heap.plus Heap.size
 simp only
 rw [List.drop_append,List.drop_of_length_le (by omega),List.nil_append,Nat.add_sub_cancel_left]
 by_cases h : (E.drop k).all Option.isNone = true
 ·rw [if_pos h,if_pos h,List.take_append,List.take_of_length_le (by omega),Nat.add_sub_cancel_left]
 ·rw [if_neg h,if_neg h]
theorem settleP0 (hN : X.size = N) (E : List (Option AObj)) : settleH N (X.plus E) = if (E.drop 0).all Option.isNone = true then X.plus (E.take 0) else X.plus E := settleP hN E 0
theorem rowLo {b : Nat} (hb : b < X.size) (E : List (Option AObj)) (v : Nat) : (X.plus E).row b v = X.row b v := plus_row E hb
theorem putLo {b : Nat} (hb : b < X.size) (E : List (Option AObj)) (o : AObj) : (X.plus E).put b o = (X.put b o).plus E := plus_put E o hb
end
section
variable {C : Cfg} {me : FuncId} {rd : Option Nat}
theorem wp_drawX {id : Nat} {ops : Array Oper} {a : AAct} {H : Heap} {K : Post} (tb : Tab) (hok : drawOk ops = true) (htb : tabOk ops.toList (waitsAll ops.toList) tb = true)
  (h : drawP C me ops H.size tb ops.toList 0 [] a (H.plus (List.replicate ops.toList.length none)) (setK C me H.size K)) (hnear : ∀ d,C.near me d = false := by intro d;rfl) : Wp C me rd (.region id ops true) a H K := wp_drawD tb hok htb h hnear
end
end Go.Ev
namespace Go.Ev
section
variable {P : Program}
end
end Go.Ev
namespace Go.Ev
section
variable {C : Cfg} {me : FuncId} {S : Type} {R : S → Fm → Prop} {stp : S → List AV → AExit × S} {lv : S → Prop} {ok : S → List AV → Prop} {n0 k d : Nat}
def bd2K (R : S → Fm → Prop) (d : Nat) (L' : ALoop) (m : Fm) (H : Heap) (p : AExit × S) : Post := fun e _ H' => e = p.1 ∧ ∃ m',R p.2 m' ∧ Has m' H' ∧ loopObj H' (d + 1) = some L' ∧ Moves ((d + 1,.loop L') :: m) H ((d + 1,.loop L') :: m') H'
def as2K (C : Cfg) (me : FuncId) (R : S → Fm → Prop) (d : Nat) (body : Code) (L L' : ALoop) (m : Fm) (H : Heap) (p : AExit × S) : Post := fun e a H1 => e = .normal ∧ loopObj H1 (d + 1) = some L ∧ Wp C me (some (d + 1)) body a (H1.put (d + 1) (.loop L')) (bd2K R d L' m H p)
theorem loopObj_getI {H : Heap} {b : Nat} {L : ALoop} (h : loopObj H b = some L) : H.get b = some (.loop L) := by
 unfold loopObj at h
 split at h
 ·rename_i l hl;cases h;exact hl
 ·cases h
theorem get_loopObj {H : Heap} {b : Nat} {L : ALoop} (h : H.get b = some (.loop L)) : loopObj H b = some L := by
 unfold loopObj;rw [h]
def RR (R : S → Fm → Prop) (d : Nat) (L : LoopState → Option Code → ALoop) (q : S × AExit) (m' : Fm) : Prop := ∃ m,R q.1 m ∧ m' = (d,.dfr) :: (d + 1,.loop (L (stateOf q.2) (pend q.2))) :: m
theorem src2_range {sz : Nat} {ts : List (Tmp × AV)} {ps : Array Tmp} {asg body : Code} (hn0 : n0 ≤ d) (hk : k ≤ d)
  (hanch : ∀ s m,R s m → Anch n0 m) (hdm : ∀ s m,R s m → ¬ keyIn d m ∧ ¬ keyIn (d + 1) m)
  (hlv : ∀ s x,lv s → ok s x → (stp s x).1 = .normal → lv (stp s x).2)
  (hbody : ∀ (L L' : ALoop) s m x H,L'.dfr = d → lv s → ok s x → x.length = ps.size → R s m → Has m H → H.get d = some .dfr → loopObj H (d + 1) = some L → H.lock = k → d + 2 ≤ H.size →
   Wp C me (some (d + 1)) asg ⟨sz,setTmps sz ts (ps.toList.zip x),[]⟩ H (as2K C me R d body L L' m H (stp s x))) :
  Src2 C (d + 1) (S × AExit) (RR R d (busyL me sz ts ps asg body d)) (fun q x => (isGo (stp q.1 x).1,((stp q.1 x).2,(stp q.1 x).1))) (fun q x => ok q.1 x ∧ x.length = ps.size) (fun q => lv q.1 ∧ q.2 = .normal) (d + 2) k := by
 refine ⟨?_,by omega,fun q x hl ho hs => ?_,fun q m' x H hl ho hR hH hlk hsz => ?_⟩
 ·rintro q m' ⟨m,hm,rfl⟩ n hn ⟨p,hp,hpn⟩
  have hpm : p ∈ m := by
   rcases List.mem_cons.1 hp with rfl | hp
   ·simp only at hpn;omega
   ·rcases List.mem_cons.1 hp with rfl | hp
    ·simp only at hpn;omega
    ·exact hp
  obtain ⟨q',hq,h1,h2⟩ := hanch _ m hm n (by omega) ⟨p,hpm,hpn⟩
  exact ⟨q',List.mem_cons_of_mem _ (List.mem_cons_of_mem _ hq),h1,h2⟩
 ·obtain ⟨s,e⟩ := q
  simp only at hl hs ⊢
  have he : (stp s x).1 = .normal := by
   cases h : (stp s x).1 <;> rw [h] at hs <;> first | rfl | cases hs
  exact ⟨hlv s x hl.1 ho.1 he,he⟩
 ·obtain ⟨s,e⟩ := q
  obtain ⟨hl1,rfl⟩ := hl
  obtain ⟨m,hm,rfl⟩ := hR
  simp only at hm ⊢
  have h0 : H.get d = some .dfr := hH (d,.dfr) (by simp)
  have h1 : H.get (d + 1) = some (.loop (busyL me sz ts ps asg body d (stateOf .normal) (pend .normal))) := hH (d + 1,_) (by simp)
  have hmH : Has m H := fun p hp => hH p (List.mem_cons_of_mem _ (List.mem_cons_of_mem _ hp))
  have key := round_step (C := C) (l := d + 1) (args := x) (H := H) (r := busyL me sz ts ps asg body d .ready none) (K := fun b H' => b = isGo (stp s x).1 ∧ ∃ m',RR R d (busyL me sz ts ps asg body d) ((stp s x).2,(stp s x).1) m' ∧ Has m' H' ∧ Moves ((d,.dfr) :: (d + 1,.loop (busyL me sz ts ps asg body d (stateOf .normal) (pend .normal))) :: m) H m' H') (get_loopObj h1) ho.2 (by omega) ?_
  ·obtain ⟨b,H',h2,rfl,m',h3,h4,h5⟩ := key
   exact ⟨H',m',h2,h3,h4,h5⟩
  ·refine Wp_mono (hbody (busyL me sz ts ps asg body d .ready none) (busyL me sz ts ps asg body d .busy none) s m x H rfl hl1 ho.1 ho.2 hm hmH h0 (get_loopObj h1) hlk hsz) ?_
   rintro e0 a0 H0 ⟨rfl,hL0,hb0⟩
   refine asgK_mk (r1 := busyL me sz ts ps asg body d .ready none) hL0 rfl ?_
   refine Wp_mono hb0 ?_
   rintro e1 a1 H1 ⟨rfl,m',hm',hH1,hL1,hmv⟩
   refine bodyK_mk (r3 := busyL me sz ts ps asg body d .busy none) (j := pend (stp s x).1) hL1 (jumpOf_pend _) ⟨pend_none _, ?_⟩
   have e1 : ({ busyL me sz ts ps asg body d .busy none with state := if (pend (stp s x).1).isNone then .ready else .done,pending := pend (stp s x).1 } : ALoop) = busyL me sz ts ps asg body d (stateOf (stp s x).1) (pend (stp s x).1) := rfl
   rw [e1]
   generalize hLf : busyL me sz ts ps asg body d (stateOf (stp s x).1) (pend (stp s x).1) = Lf
   have hd1 : d + 1 < H1.size := get_ltS (loopObj_getI hL1)
   have hd0 : H1.get d = some .dfr := by
    rw [hmv.same d (by omega) ?_,h0]
    rintro ⟨p,hp,he⟩
    rcases List.mem_cons.1 hp with rfl | hp
    ·simp only at he;omega
    ·exact (hdm _ _ hm).1 ⟨p,hp,he⟩
   have hR' : RR R d (busyL me sz ts ps asg body d) ((stp s x).2,(stp s x).1) ((d,.dfr) :: (d + 1,.loop Lf) :: m') := ⟨m',hm',by rw [← hLf]⟩
   have hH2 : Has ((d,.dfr) :: (d + 1,.loop Lf) :: m') (H1.put (d + 1) (.loop Lf)) := by
    intro p hp
    rcases List.mem_cons.1 hp with rfl | hp
    ·simp only;rw [put_get_ne _ (by omega) (by omega)];exact hd0
    ·rcases List.mem_cons.1 hp with rfl | hp
     ·simp only;exact put_get_eq _ (by omega)
     ·rw [put_get_ne _ (by omega) (fun e => (hdm _ _ hm').2 ⟨p,hp,e⟩)];exact hH1 p hp
   have hmv2 : Moves ((d,.dfr) :: (d + 1,.loop (busyL me sz ts ps asg body d (stateOf .normal) (pend .normal))) :: m) H ((d,.dfr) :: (d + 1,.loop Lf) :: m') (H1.put (d + 1) (.loop Lf)) := by
    refine ⟨hmv.lock,by rw [put_sizeI _ hd1];exact hmv.size,fun b hb hnb => ?_,fun p hp => ?_⟩
    ·have hb1 : b ≠ d + 1 := fun e => hnb ⟨(d + 1,.loop (busyL me sz ts ps asg body d (stateOf .normal) (pend .normal))),List.mem_cons_of_mem _ List.mem_cons_self,e.symm⟩
     rw [put_get_ne _ (by omega) hb1]
     refine hmv.same b hb ?_
     rintro ⟨p,hp,he⟩
     rcases List.mem_cons.1 hp with rfl | hp
     ·exact hb1 he.symm
     ·exact hnb ⟨p,List.mem_cons_of_mem _ (List.mem_cons_of_mem _ hp),he⟩
    ·rcases List.mem_cons.1 hp with rfl | hp
     ·exact Or.inl ⟨(d,.dfr),by simp,rfl⟩
     ·rcases List.mem_cons.1 hp with rfl | hp
      ·exact Or.inl ⟨(d + 1,.loop (busyL me sz ts ps asg body d (stateOf .normal) (pend .normal))),List.mem_cons_of_mem _ List.mem_cons_self,rfl⟩
      ·rcases hmv.keys p (List.mem_cons_of_mem _ hp) with ⟨q,hq,he⟩ | h
       ·rcases List.mem_cons.1 hq with rfl | hq
        ·exact Or.inl ⟨(d + 1,.loop (busyL me sz ts ps asg body d (stateOf .normal) (pend .normal))),List.mem_cons_of_mem _ List.mem_cons_self,he⟩
        ·exact Or.inl ⟨q,List.mem_cons_of_mem _ (List.mem_cons_of_mem _ hq),he⟩
       ·exact Or.inr h
   have hanch2 : Anch (d + 2) ((d,.dfr) :: (d + 1,.loop Lf) :: m') := by
    rintro n hn ⟨p,hp,hpn⟩
    have hpm : p ∈ m' := by
     rcases List.mem_cons.1 hp with rfl | hp
     ·simp only at hpn;omega
     ·rcases List.mem_cons.1 hp with rfl | hp
      ·simp only at hpn;omega
      ·exact hp
    obtain ⟨q',hq,h1,h2⟩ := hanch _ m' hm' n (by omega) ⟨p,hpm,hpn⟩
    exact ⟨q',List.mem_cons_of_mem _ (List.mem_cons_of_mem _ hq),h1,h2⟩
   exact ⟨_,hR',hH2.trim hanch2 hsz _ _,hmv2.trim _ _ rfl⟩
theorem okRun_q {n : Nat} : ∀ (items : List (List AV)) (s : S) (e : AExit),okRun (fun s x => (isGo (stp s x).1,(stp s x).2)) ok items s → (∀ x ∈ items,x.length = n) →
  okRun (fun (q : S × AExit) x => (isGo (stp q.1 x).1,((stp q.1 x).2,(stp q.1 x).1))) (fun q x => ok q.1 x ∧ x.length = n) items (s,e)
 | [],_,_,_,_ => trivial
 | x :: r,s,e,h,hl => ⟨⟨h.1,hl x (by simp)⟩,fun hg => okRun_q r _ _ (h.2 hg) fun y hy => hl y (by simp [hy])⟩
theorem wp_range2 {f : FuncId} {cap : List AV} {items : List (List AV)} (hy : Yields2 C f cap items) {g : Operand} {ps : Array Tmp} {asg body : Code} {a : AAct} {H : Heap} {K : Post} (hg : a.eval g = some (.fn (.func f) [] cap))
  (R : S → Fm → Prop) (stp : S → List AV → AExit × S) (lv : S → Prop) (ok : S → List AV → Prop) {n0 k : Nat} (hn0 : n0 ≤ H.size) (hk : k ≤ H.size) (hlen : ∀ x ∈ items,x.length = ps.size)
  (hanch : ∀ s m,R s m → Anch n0 m) (hdm : ∀ s m,R s m → ¬ keyIn H.size m ∧ ¬ keyIn (H.size + 1) m)
  (hlv : ∀ s x,lv s → ok s x → (stp s x).1 = .normal → lv (stp s x).2)
  (hbody : ∀ (L L' : ALoop) s m x H',L'.dfr = H.size → lv s → ok s x → x.length = ps.size → R s m → Has m H' → H'.get H.size = some .dfr → loopObj H' (H.size + 1) = some L → H'.lock = k → H.size + 2 ≤ H'.size →
   Wp C me (some (H.size + 1)) asg ⟨a.size,setTmps a.size a.tmps (ps.toList.zip x),[]⟩ H' (as2K C me R H.size body L L' m H' (stp s x)))
  (s0 : S) (m0 : Fm) (hok : okRun (fun s x => (isGo (stp s x).1,(stp s x).2)) ok items s0) (h0 : lv s0) (hR0 : R s0 m0) (hH0 : Has m0 H) (hlk : H.lock = k)
  (hK : ∀ m' H',R (foldE stp items s0).2 m' → Has m' H' → H'.get H.size = some .dfr → H'.get (H.size + 1) = some .dead → Moves m0 H ((H.size + 1,.dead) :: m') H' → H.size + 2 ≤ H'.size → AtK K (foldE stp items s0).1 ⟨a.size,a.tmps,H.size :: a.marks⟩ H') :
  Wp C me none (.rangeFunc g ps asg body) a H K := by
 generalize hd : H.size = d at *
 have hsrc := src2_range (C := C) (me := me) (R := R) (stp := stp) (lv := lv) (ok := ok) (sz := a.size) (ts := a.tmps) (ps := ps) (asg := asg) (body := body) hn0 hk hanch hdm hlv hbody
 have hbeg : (H.put d .dfr).put (d + 1) (.loop (busyL me a.size a.tmps ps asg body d .ready none)) = H.plus [some .dfr,some (.loop (busyL me a.size a.tmps ps asg body d .ready none))] := by
  have h1 : H.put d .dfr = H.plus [some .dfr] := by rw [← hd];exact put_push _
  rw [h1]
  exact plus_put_end hd [some .dfr] (.loop (busyL me a.size a.tmps ps asg body d .ready none))
 generalize hHb : H.plus [some AObj.dfr,some (.loop (busyL me a.size a.tmps ps asg body d .ready none))] = Hb at hbeg
 have hsb : Hb.size = d + 2 := by rw [← hHb,plus_size,hd];rfl
 have hg0 : Hb.get d = some .dfr := by
  rw [← hHb];exact plus_mid_get hd [] _ _
 have hg1 : Hb.get (d + 1) = some (.loop (busyL me a.size a.tmps ps asg body d .ready none)) := by
  rw [← hHb];exact plus_mid_get hd [some .dfr] [] _
 have hHasB : Has ((d,.dfr) :: (d + 1,.loop (busyL me a.size a.tmps ps asg body d .ready none)) :: m0) Hb := by
  intro p hp
  rcases List.mem_cons.1 hp with rfl | hp
  ·exact hg0
  ·rcases List.mem_cons.1 hp with rfl | hp
   ·exact hg1
   ·rw [← hHb];exact hH0.plus _ p hp
 obtain ⟨H1,m1,hc1,⟨m',hm',rfl⟩,hH1,hmv⟩ := hy (d + 1) (S × AExit) _ _ _ _ _ _ hsrc (s0,.normal) _ Hb (okRun_q items s0 .normal hok hlen) ⟨h0,rfl⟩ ⟨m0,hR0,rfl⟩ hHasB (by rw [← hHb];exact hlk) (by omega)
 have hanch1 := hsrc.anch _ _ ⟨m',hm',rfl⟩
 rw [run_range] at hm' hH1 hmv hanch1
 simp only at hm' hH1 hmv hanch1
 generalize hp : foldE stp items s0 = p at *
 have hcb := callB_yld (C := C) (me := me) (d := none) (l := d + 1) (by simp) hc1
 have hH2 := hH1.trim hanch1 (Nat.le_of_eq hsb.symm) [AV.tup []] []
 have hmv2 := hmv.trim [AV.tup []] [] (n := Hb.size) rfl
 generalize hT : H1.trim Hb.size [AV.tup []] [] = H2 at *
 have hl2 : H2.get (d + 1) = some (.loop (busyL me a.size a.tmps ps asg body d (stateOf p.1) (pend p.1))) := hH2 (d + 1,_) (by simp)
 have hd2 : H2.get d = some .dfr := hH2 (d,_) (by simp)
 have hs2 : d + 2 ≤ H2.size := by have := hmv2.size;omega
 have hfin : AtK K p.1 ⟨a.size,a.tmps,d :: a.marks⟩ (H2.put (d + 1) .dead) := by
  have hmd := hdm _ _ hm'
  refine hK m' (H2.put (d + 1) .dead) hm' ?_ ?_ ?_ ?_ ?_
  ·intro q hq
   rw [put_get_ne _ (by omega) (fun e => hmd.2 ⟨q,hq,e⟩)]
   exact hH2 q (List.mem_cons_of_mem _ (List.mem_cons_of_mem _ hq))
  ·rw [put_get_ne _ (by omega) (by omega)];exact hd2
  ·exact put_get_eq _ (by omega)
  ·refine ⟨?_, ?_,fun b hb hnb => ?_,fun q hq => ?_⟩
   ·show H2.lock = H.lock
    rw [hmv2.lock,← hHb];rfl
   ·rw [put_sizeI _ (by omega)];omega
   ·rw [put_get_ne _ (by omega) (by omega),hmv2.same b (by omega) ?_,← hHb]
    ·exact plus_get _ hb
    ·rintro ⟨q,hq,he⟩
     rcases List.mem_cons.1 hq with rfl | hq
     ·simp only at he;omega
     ·rcases List.mem_cons.1 hq with rfl | hq
      ·simp only at he;omega
      ·exact hnb ⟨q,hq,he⟩
   ·rcases List.mem_cons.1 hq with rfl | hq
    ·exact Or.inr (by simp only;omega)
    ·rcases hmv2.keys q (List.mem_cons_of_mem _ (List.mem_cons_of_mem _ hq)) with ⟨r,hr,he⟩ | h
     ·rcases List.mem_cons.1 hr with rfl | hr
      ·exact absurd ⟨q,hq,he.symm⟩ hmd.1
      ·rcases List.mem_cons.1 hr with rfl | hr
       ·exact absurd ⟨q,hq,he.symm⟩ hmd.2
       ·exact Or.inl ⟨r,hr,he⟩
     ·exact Or.inr (by omega)
  ·rw [put_sizeI _ (by omega)];exact hs2
 refine wp_range0 (f := f) (first := []) (cap := cap) hg (v := .tup []) (H2 := H2) ?_ (r := busyL me a.size a.tmps ps asg body d (stateOf p.1) (pend p.1)) ?_ ?_ ?_ ?_
 ·rw [hd]
  rw [← hbeg] at hcb
  exact hcb
 ·rw [hd];exact get_loopObj hl2
 ·unfold busyL stateOf;cases p.1 <;> simp [pend]
 ·rw [hd];rfl
 ·rw [hd]
  obtain ⟨e,s⟩ := p
  cases e with
  | normal => exact hfin
  | ret => exact hfin
  | exit i => exact hfin
end
end Go.Ev
namespace Go.Ev
def HasE (rows : Fm) (E : List (Option AObj)) : Prop := ∀ p ∈ rows,E[p.1]? = some (some p.2)
structure MovesE (rows : Fm) (E : List (Option AObj)) (rows' : Fm) (E' : List (Option AObj)) : Prop where
 size : E.length ≤ E'.length
 same : ∀ j,j < E.length → ¬ keyIn j rows → E'[j]? = E[j]?
 keys : ∀ p ∈ rows',keyIn p.1 rows ∨ E.length ≤ p.1
theorem MovesE.refl (rows : Fm) (E : List (Option AObj)) : MovesE rows E rows E := ⟨Nat.le_refl _,fun _ _ _ => rfl,fun p hp => Or.inl ⟨p,hp,rfl⟩⟩
theorem MovesE.append (rows : Fm) (E G : List (Option AObj)) : MovesE rows E rows (E ++ G) := ⟨by simp,fun j hj _ => List.getElem?_append_left hj,fun p hp => Or.inl ⟨p,hp,rfl⟩⟩
theorem HasE.append {rows : Fm} {E : List (Option AObj)} (h : HasE rows E) (G : List (Option AObj)) : HasE rows (E ++ G) := fun p hp => by
 rw [List.getElem?_append_left (List.getElem?_eq_some_iff.1 (h p hp)).1];exact h p hp
section
variable {C : Cfg} {me : FuncId} {S : Type}
end
end Go.Ev
namespace Go.Ev
theorem ltB_n0 (a : Nat) : ltB a 0 = false := by simp [ltB]
attribute [go_sem] ltB_n0 List.any_cons List.any_nil repeatCells splice chunk bsFin ne_eq not_true_eq_false not_false_eq_true List.headD_cons Bool.false_eq_true Nat.le_refl Nat.zero_mul Nat.one_mul Nat.mul_one decide_true decide_false Bool.not_true Bool.not_false List.mem_cons List.not_mem_nil true_or or_true false_or or_false and_true true_and and_self List.getElem?_cons_succ List.getElem?_cons_zero Option.bind_some Option.map_some Option.map_none List.map_cons List.map_nil List.length_cons List.length_nil List.filterMap_cons List.filterMap_nil List.cons_append List.nil_append List.append_nil Nat.zero_add Nat.add_zero List.take_succ_cons List.take_zero List.take_nil List.drop_succ_cons List.drop_zero List.drop_nil List.all_cons List.all_nil Bool.and_true Bool.true_and Bool.false_and Bool.and_false Bool.or_true Bool.true_or Bool.or_false Bool.false_or beq_iff_eq beq_self_eq_true List.zip_cons_cons List.zip_nil_right List.zip_nil_left
end Go.Ev
namespace Go.Ev
open Go.Proofs
@[go_sem] theorem app_22 (H : Heap) (slot : Nat) (s x : AV) : appendA Try.prog H slot [22,22] [s,x] = appG 9 1 16 H slot s (cellsFrom H 1 x) := app_eq2 (by kernel_rfl) und_22 (by kernel_rfl) (by kernel_rfl) (by decide) (by decide) H slot s x
end Go.Ev
namespace Go.Ev
section
variable {C : Cfg} {me : FuncId} {S : Type} {R : S → Fm → Prop} {stp : S → List AV → AExit × S} {lv : S → Prop} {ok : S → List AV → Prop} {n0 k d : Nat}
end
end Go.Ev
namespace Go.Ev
open Go.Proofs
attribute [local irreducible] Wp WpS
def intA (n : Int) : AV := .v (.int .i64 n)
def strs (ws : List ByteArray) : List AV := ws.map fun s => .v (.string s)
theorem strs_get {ws : List ByteArray} {i : Nat} {s : ByteArray} (h : ws[i]? = some s) : (strs ws)[i]? = some (.v (.string s)) := by
 unfold strs;rw [List.getElem?_map,h];rfl
theorem strs_len (ws : List ByteArray) : (strs ws).length = ws.length := by simp [strs]
theorem at_lt {α : Type} (l : List α) (j : Nat) (h : j < l.length) : ∃ x,l[j]? = some x := ⟨l[j],List.getElem?_eq_getElem h⟩
theorem bound_sl (b v o n : Nat) (c : Option Nat) : bound (.sl b v o n c) = b + 1 := rfl
theorem drop_eq_cons {α : Type} {l : List α} {j : Nat} {x : α} (h : l[j]? = some x) : l.drop j = x :: l.drop (j + 1) := by
 have hj := (List.getElem?_eq_some_iff.1 h).1
 rw [List.drop_eq_getElem_cons hj,(List.getElem?_eq_some_iff.1 h).2]
theorem conv_u8 (n : Int) (h0 : 0 ≤ n) (h1 : n < 256) : convA Try.prog 5 3 (.v (.int .u8 n)) = some (.v (.int .i64 n)) := by
 have : convA Try.prog 5 3 (.v (.int .u8 n)) = some (.v (.int .i64 (IntKind.i64.wrap n))) := by kernel_rfl
 rw [this,wrap_in n (by omega) (by omega)]
theorem strAt_get {s : ByteArray} {j : Nat} {b : UInt8} (h : s.data.toList[j]? = some b) : strAt s j = some b := h
theorem strs_bd (ws : List ByteArray) : boundL (strs ws) = 0 := by
 refine Nat.le_zero.1 (boundL_le.2 fun x hx => ?_)
 obtain ⟨s, -,rfl⟩ := List.mem_map.1 hx;exact Nat.le_refl _
theorem setT_nil (n : Nat) (t : List (Tmp × AV)) : setTmps n t [] = t := rfl
theorem setT_cons (n : Nat) (t : List (Tmp × AV)) (d : Tmp) (v : AV) (r : List (Tmp × AV)) : setTmps n t ((d,v) :: r) = setTmps n (if d < n then setAssoc d v t else t) r := rfl
theorem ans64 {e : Exts} (lo hi n : Int) (cap : Option Nat) : Ans (Cx e) 52 [.agg [.v (.int .i64 lo),.v (.int .i64 hi)],.vs 1 [.v (.int .i64 n)] cap] (.v (.bool (decide (lo ≤ n) && decide (n ≤ hi)))) := by
 unfold Ans
 rw [fn_step (fn_52 e) (show Try.f52.body = some _ from rfl)]
 have hsl : SlOf 1 [intA n] (.vs 1 [intA n] cap) := Or.inr ⟨cap,rfl⟩
 have hlen := hsl.len
 simp -implicitDefEqProofs only [go_sem,↓reduceIte,Int.reduceEq,Int.reduceLT,Int.reduceLE,List.reduceReplicate,intA,setT_nil,setT_cons,↓boolP_bool,↓iteB_true,↓iteB_false] at hlen
 simp -implicitDefEqProofs only [Try.f52,go_sem,↓reduceIte,Int.reduceEq,Int.reduceLT,Int.reduceLE,List.reduceReplicate,intA,setT_nil,setT_cons,hlen,↓boolP_bool,↓iteB_true,↓iteB_false]
 refine Lp_ruleQ (P := fun μ a H => ∃ j,j + μ = 1 ∧ (0 < j → lo ≤ n ∧ n ≤ hi) ∧ a = ⟨24,[(0,.agg [intA lo,intA hi]),(1,.vs 1 [intA n] cap),(2,.ptr 0 0 0),(4,.v (.bool false)),(7,.vs 1 [intA n] cap),(8,intA 1),(9,intA (j : Nat))],[]⟩ ∧ H = ⟨[some (.cells 0 0 100 1 false [intA lo,intA hi])],0⟩) ?_ 1 _ _ ⟨0,by omega,by omega,rfl,rfl⟩
 rintro Q KK hQ hKK μ _ _ ⟨j,hj,hin,rfl,rfl⟩
 cases μ with
 | zero =>
  obtain rfl : j = 1 := by omega
  have hlt : ¬ ((1 : Nat) : Int) < 1 := by omega
  have h := hin (by omega)
  simp -implicitDefEqProofs only [go_sem,↓reduceIte,Int.reduceEq,Int.reduceLT,Int.reduceLE,List.reduceReplicate,intA,setT_nil,setT_cons,hlt,↓boolP_bool,↓iteB_true,↓iteB_false]
  refine hKK _ _ _ ?_
  simp -implicitDefEqProofs only [go_sem,↓reduceIte,Int.reduceEq,Int.reduceLT,Int.reduceLE,List.reduceReplicate,intA,setT_nil,setT_cons,h.1,h.2,decide_true,Bool.and_true,↓boolP_bool,↓iteB_true,↓iteB_false]
 | succ μ =>
  obtain rfl : j = 0 := by omega
  have hlt : ((0 : Nat) : Int) < 1 := by omega
  have hix := hsl.idx (show ([intA n] : List AV)[0]? = some (intA n) from rfl)
  have hw := wrap_succ 0 (by omega)
  simp only [intA] at hix
  by_cases hn1 : n < lo
  ·have hno : ¬ lo ≤ n := by omega
   simp -implicitDefEqProofs only [go_sem,↓reduceIte,Int.reduceEq,Int.reduceLT,Int.reduceLE,List.reduceReplicate,intA,setT_nil,setT_cons,hlt,hn1,hix,hw,decide_true,↓boolP_bool,↓iteB_true,↓iteB_false]
   refine hKK _ _ _ ?_
   simp -implicitDefEqProofs only [go_sem,↓reduceIte,Int.reduceEq,Int.reduceLT,Int.reduceLE,List.reduceReplicate,intA,setT_nil,setT_cons,hno,decide_false,Bool.false_and,↓boolP_bool,↓iteB_true,↓iteB_false]
  ·by_cases hn2 : n > hi
   ·have hno : ¬ n ≤ hi := by omega
    simp -implicitDefEqProofs only [go_sem,↓reduceIte,Int.reduceEq,Int.reduceLT,Int.reduceLE,List.reduceReplicate,intA,setT_nil,setT_cons,hlt,hn1,hn2,hix,hw,decide_true,decide_false,↓boolP_bool,↓iteB_true,↓iteB_false]
    refine hKK _ _ _ ?_
    simp -implicitDefEqProofs only [go_sem,↓reduceIte,Int.reduceEq,Int.reduceLT,Int.reduceLE,List.reduceReplicate,intA,setT_nil,setT_cons,hno,decide_false,Bool.and_false,↓boolP_bool,↓iteB_true,↓iteB_false]
   ·simp -implicitDefEqProofs only [go_sem,↓reduceIte,Int.reduceEq,Int.reduceLT,Int.reduceLE,List.reduceReplicate,intA,setT_nil,setT_cons,hlt,hix,hw,hn1,hn2,decide_false,↓boolP_bool,↓iteB_true,↓iteB_false]
    exact Again.mk' μ (by omega) (hQ _ _ _ ⟨0 + 1,by omega,fun _ => by omega,rfl,rfl⟩)
def byteB (b : UInt8) : Bool := decide ((32 : Int) ≤ b.toNat) && decide ((b.toNat : Int) ≤ 126)
def rowB (r : ByteArray) : Bool := (decide ((1 : Int) ≤ r.size) && decide ((r.size : Int) ≤ 160)) && r.data.toList.all byteB
def rowsB (l : List ByteArray) : Bool := decide (l.length ≤ 200) && l.all rowB
def FitsR (l : List ByteArray) : Prop := l.length < 2 ^ 63 ∧ ∀ r ∈ l,r.size < 2 ^ 63
theorem call64 {e : Exts} (he : Quiet e) (lo hi n : Int) (cap : Option Nat) (me : FuncId) (d : Option Tmp) (H : Heap) : callA (Cx e) (lim (Cx e)) me 52 d [.agg [.v (.int .i64 lo),.v (.int .i64 hi)],.vs 1 [.v (.int .i64 n)] cap] H = some (.v (.bool (decide (lo ≤ n) && decide (n ≤ hi))),H) :=
 (ans64 lo hi n cap).call (ext_52 he) (pure_52 _ _ _) rfl H
end Go.Ev
namespace Go.Ev
open Go.Proofs
attribute [local irreducible] Wp WpS
theorem ans50 {e : Exts} (he : Quiet e) (l : List ByteArray) (hf : FitsR l) (x : AV) (hx : SlOf 1 (strs l) x) : Ans (Cx e) 34 [x] (.v (.bool (rowsB l))) := by
 unfold Ans
 rw [fn_step (fn_34 e) (show Try.f34.body = some _ from rfl)]
 have hlx := hx.len
 rw [strs_len] at hlx
 have c64 := fun lo hi n cap me d H => call64 he lo hi n cap me d H
 by_cases hg : (l.length : Int) > 200
 ·have : rowsB l = false := by unfold rowsB;simp;omega
  rw [this]
  simp -implicitDefEqProofs only [Try.f34,go_sem,↓reduceIte,Int.reduceEq,Int.reduceLT,Int.reduceLE,List.reduceReplicate,intA,setT_nil,setT_cons,hx.cells,hx.flat,hx.bound,hlx,hg,decide_true,↓boolP_bool,↓iteB_true,↓iteB_false]
 ·simp -implicitDefEqProofs only [Try.f34,go_sem,↓reduceIte,Int.reduceEq,Int.reduceLT,Int.reduceLE,List.reduceReplicate,intA,setT_nil,setT_cons,hx.cells,hx.flat,hx.bound,hlx,hg,decide_false,↓boolP_bool,↓iteB_true,↓iteB_false]
  refine Lp_ruleQ (P := fun μ a H => ∃ j c,j + μ = l.length ∧ c = (l.take j).countP rowB ∧ a = ⟨50,[(0,x),(2,.v (.bool false)),(8,.v (.bool false)),(3,intA (c : Nat)),(10,intA l.length),(11,intA (j : Nat))],[]⟩ ∧ H = ⟨[],0⟩) ?_ l.length _ _ ⟨0,0,by omega,rfl,rfl,rfl⟩
  rintro Q KK hQ hKK μ _ _ ⟨j,c,hj,hc,rfl,rfl⟩
  have hcj : c ≤ j := by rw [hc];exact Nat.le_trans List.countP_le_length (by rw [List.length_take];omega)
  cases μ with
  | zero =>
   obtain rfl : j = l.length := by omega
   rw [List.take_length] at hc
   have hlt : ¬ (l.length : Int) < (l.length : Int) := by omega
   have hfin : decide ((c : Int) = (l.length : Int)) = rowsB l := by
    have h1 : decide (l.length ≤ 200) = true := by simp;omega
    unfold rowsB
    rw [h1,Bool.true_and,Bool.eq_iff_iff,decide_eq_true_iff,List.all_eq_true,← List.countP_eq_length,← hc]
    omega
   simp -implicitDefEqProofs only [go_sem,↓reduceIte,Int.reduceEq,Int.reduceLT,Int.reduceLE,List.reduceReplicate,intA,setT_nil,setT_cons,hlt,↓boolP_bool,↓iteB_true,↓iteB_false]
   refine hKK _ _ _ ?_
   simp -implicitDefEqProofs only [go_sem,↓reduceIte,Int.reduceEq,Int.reduceLT,Int.reduceLE,List.reduceReplicate,intA,setT_nil,setT_cons,hx.cells,hx.flat,hx.bound,hlx,hfin,↓boolP_bool,↓iteB_true,↓iteB_false]
  | succ μ =>
   obtain ⟨r,hr⟩ := at_lt l j (by omega)
   have hlt : (j : Int) < (l.length : Int) := by omega
   have hix := hx.idx (strs_get hr)
   have hw := wrap_succ j (by have := hf.1;omega)
   have hwc := wrap_succ c (by have := hf.1;omega)
   have hrs := hf.2 r (List.mem_of_getElem? hr)
   have htk : (l.take (j + 1)).countP rowB = c + if rowB r then 1 else 0 := by
    rw [List.take_add_one,hr,Option.toList_some,List.countP_append,← hc,List.countP_singleton]
   cases hb : (decide ((1 : Int) ≤ r.size) && decide ((r.size : Int) ≤ 160)) with
   | false =>
    have hrow : rowB r = false := by unfold rowB;rw [hb,Bool.false_and]
    simp -implicitDefEqProofs only [go_sem,↓reduceIte,Int.reduceEq,Int.reduceLT,Int.reduceLE,List.reduceReplicate,intA,setT_nil,setT_cons,hlt,hx.cells,hx.flat,hx.bound,hlx,hix,c64,hb,hw,Bool.not_false,↓boolP_bool,↓iteB_true,↓iteB_false]
    exact Again.mk' μ (by omega) (hQ _ _ _ ⟨j + 1,c,by omega,by rw [htk,hrow];rfl,rfl,rfl⟩)
   | true =>
    simp -implicitDefEqProofs only [go_sem,↓reduceIte,Int.reduceEq,Int.reduceLT,Int.reduceLE,List.reduceReplicate,intA,setT_nil,setT_cons,hlt,hx.cells,hx.flat,hx.bound,hlx,hix,c64,hb,hw,Bool.not_true,↓boolP_bool,↓iteB_true,↓iteB_false]
    refine Lp_ruleQ (P := fun μ2 a H => ∃ k,k + μ2 = r.size ∧ r.data.toList.all byteB = (r.data.toList.drop k).all byteB ∧ a = ⟨50,[(0,x),(2,.v (.bool false)),(8,.v (.bool false)),(3,intA (c : Nat)),(10,intA l.length),(11,intA (j : Nat)),(12,.v (.bool true)),(4,intA (j : Nat)),(22,.v (.bool false)),(27,intA r.size),(28,intA (k : Nat))],[]⟩ ∧ H = ⟨[],0⟩) ?_ r.size _ _ ⟨0,by omega,rfl,rfl,rfl⟩
    rintro Q2 K2 hQ2 hK2 μ2 _ _ ⟨k,hk,hall,rfl,rfl⟩
    cases μ2 with
    | zero =>
     have hk : k = r.size := by omega
     have hrow : rowB r = true := by
      unfold rowB
      rw [hb,hall,hk,List.drop_of_length_le (by simp)];rfl
     subst hk
     have hlt2 : ¬ (r.size : Int) < (r.size : Int) := by omega
     simp -implicitDefEqProofs only [go_sem,↓reduceIte,Int.reduceEq,Int.reduceLT,Int.reduceLE,List.reduceReplicate,intA,setT_nil,setT_cons,hlt2,↓boolP_bool,↓iteB_true,↓iteB_false]
     refine hK2 _ _ _ ?_
     simp -implicitDefEqProofs only [go_sem,↓reduceIte,Int.reduceEq,Int.reduceLT,Int.reduceLE,List.reduceReplicate,intA,setT_nil,setT_cons,hw,hwc,↓boolP_bool,↓iteB_true,↓iteB_false]
     exact Again.mk' μ (by omega) (hQ _ _ _ ⟨j + 1,c + 1,by omega,by rw [htk,hrow];rfl,rfl,rfl⟩)
    | succ μ2 =>
     obtain ⟨b,hb2⟩ := at_lt r.data.toList k (by simp;omega)
     have hlt2 : (k : Int) < (r.size : Int) := by omega
     have hsa := strAt_get hb2
     have hw2 := wrap_succ k (by omega)
     have hk0 : (0 : Int) ≤ (k : Int) := by omega
     have hcv := conv_u8 b.toNat (by omega) (by have := b.toNat_lt;omega)
     rw [drop_eq_cons hb2,List.all_cons] at hall
     cases hy : (decide ((32 : Int) ≤ b.toNat) && decide ((b.toNat : Int) ≤ 126)) with
     | false =>
      have hrow : rowB r = false := by unfold rowB;rw [hall,show byteB b = false from hy,Bool.false_and,Bool.and_false]
      simp -implicitDefEqProofs only [go_sem,↓reduceIte,Int.reduceEq,Int.reduceLT,Int.reduceLE,List.reduceReplicate,intA,setT_nil,setT_cons,hlt2,hlt,hx.cells,hx.flat,hx.bound,hlx,hix,hk0,Int.toNat_natCast,hsa,hcv,c64,hy,hw,hw2,Bool.not_false,↓boolP_bool,↓iteB_true,↓iteB_false]
      refine hK2 _ _ _ ?_
      simp -implicitDefEqProofs only [go_sem,↓reduceIte,Int.reduceEq,Int.reduceLT,Int.reduceLE,List.reduceReplicate,intA,setT_nil,setT_cons,hw,↓boolP_bool,↓iteB_true,↓iteB_false]
      exact Again.mk' μ (by omega) (hQ _ _ _ ⟨j + 1,c,by omega,by rw [htk,hrow];rfl,rfl,rfl⟩)
     | true =>
      rw [show byteB b = true from hy,Bool.true_and] at hall
      simp -implicitDefEqProofs only [go_sem,↓reduceIte,Int.reduceEq,Int.reduceLT,Int.reduceLE,List.reduceReplicate,intA,setT_nil,setT_cons,hlt2,hlt,hx.cells,hx.flat,hx.bound,hlx,hix,hk0,Int.toNat_natCast,hsa,hcv,c64,hy,hw,hw2,Bool.not_true,↓boolP_bool,↓iteB_true,↓iteB_false]
      exact Again.mk' μ2 (by omega) (hQ2 _ _ _ ⟨k + 1,by omega,hall,rfl,rfl⟩)
theorem call50 {e : Exts} (he : Quiet e) (l : List ByteArray) (hf : FitsR l) (x : AV) (hx : SlOf 1 (strs l) x) (me : FuncId) (d : Option Tmp) (H : Heap) : callA (Cx e) (lim (Cx e)) me 34 d [x] H = some (.v (.bool (rowsB l)),H) :=
 (ans50 he l hf x hx).call (ext_34 he) (pure_34 _ _ _) (by simp only [boundL_cons,hx.bound,boundL_nil];rfl) H
end Go.Ev
namespace Go.Ev
open Go.Proofs
attribute [local irreducible] Wp WpS
theorem ans49 {e : Exts} (n lo hi : Int) : Ans (Cx e) 46 [.v (.int .i64 n),.v (.int .i64 lo),.v (.int .i64 hi)] (.v (.bool (decide (lo ≤ n) && decide (n ≤ hi)))) := by
 unfold Ans
 rw [fn_step (fn_46 e) (show Try.f46.body = some _ from rfl)]
 by_cases h1 : n ≥ lo
 ·have h1' : lo ≤ n := h1
  by_cases h2 : n ≤ hi
  ·simp -implicitDefEqProofs only [Try.f46,go_sem,↓reduceIte,Int.reduceEq,Int.reduceLT,Int.reduceLE,List.reduceReplicate,intA,setT_nil,setT_cons,h1,h1',h2,decide_true,decide_false,Bool.and_true,Bool.and_false,↓boolP_bool,↓iteB_true,↓iteB_false]
  ·simp -implicitDefEqProofs only [Try.f46,go_sem,↓reduceIte,Int.reduceEq,Int.reduceLT,Int.reduceLE,List.reduceReplicate,intA,setT_nil,setT_cons,h1,h1',h2,decide_true,decide_false,Bool.and_true,Bool.and_false,↓boolP_bool,↓iteB_true,↓iteB_false]
 ·have h1' : ¬ lo ≤ n := h1
  simp -implicitDefEqProofs only [Try.f46,go_sem,↓reduceIte,Int.reduceEq,Int.reduceLT,Int.reduceLE,List.reduceReplicate,intA,setT_nil,setT_cons,h1,h1',decide_true,decide_false,Bool.false_and,↓boolP_bool,↓iteB_true,↓iteB_false]
theorem call49 {e : Exts} (he : Quiet e) (n lo hi : Int) (me : FuncId) (d : Option Tmp) (H : Heap) : callA (Cx e) (lim (Cx e)) me 46 d [.v (.int .i64 n),.v (.int .i64 lo),.v (.int .i64 hi)] H = some (.v (.bool (decide (lo ≤ n) && decide (n ≤ hi))),H) :=
 (ans49 n lo hi).call (ext_46 he) (pure_46 _ _ _) rfl H
theorem ans38 {e : Exts} (he : Quiet e) (l : List ByteArray) (hf : FitsR l) (x : AV) (hx : SlOf 1 (strs l) x) : Ans (Cx e) 31 [x] (.v (.bool (rowsB l))) := by
 unfold Ans
 rw [fn_step (fn_31 e) (show Try.f31.body = some _ from rfl)]
 have hlx := hx.len
 rw [strs_len] at hlx
 have c49 := fun n lo hi me d H => call49 he n lo hi me d H
 simp -implicitDefEqProofs only [Try.f31,go_sem,↓reduceIte,Int.reduceEq,Int.reduceLT,Int.reduceLE,List.reduceReplicate,intA,setT_nil,setT_cons,hx.cells,hx.flat,hx.bound,hlx,↓boolP_bool,↓iteB_true,↓iteB_false]
 refine Lp_ruleQ (P := fun μ a H => ∃ j,j + μ = l.length ∧ l.all rowB = (l.drop j).all rowB ∧ a = ⟨46,[(0,x),(2,.v (.bool false)),(3,intA (j : Nat))],[]⟩ ∧ H = ⟨[],0⟩) ?_ l.length _ _ ⟨0,by omega,rfl,rfl,rfl⟩
 rintro Q KK hQ hKK μ _ _ ⟨j,hj,hall,rfl,rfl⟩
 cases μ with
 | zero =>
  obtain rfl : j = l.length := by omega
  rw [List.drop_length] at hall
  have hlt : ¬ (l.length : Int) < (l.length : Int) := by omega
  have hfin : decide ((l.length : Int) ≤ 200) = rowsB l := by
   unfold rowsB
   rw [hall,List.all_nil,Bool.and_true,Bool.eq_iff_iff,decide_eq_true_iff,decide_eq_true_iff]
   omega
  simp -implicitDefEqProofs only [go_sem,↓reduceIte,Int.reduceEq,Int.reduceLT,Int.reduceLE,List.reduceReplicate,intA,setT_nil,setT_cons,hx.cells,hx.flat,hx.bound,hlx,hlt,↓boolP_bool,↓iteB_true,↓iteB_false]
  refine hKK _ _ _ ?_
  simp -implicitDefEqProofs only [go_sem,↓reduceIte,Int.reduceEq,Int.reduceLT,Int.reduceLE,List.reduceReplicate,intA,setT_nil,setT_cons,hx.cells,hx.flat,hx.bound,hlx,hfin,↓boolP_bool,↓iteB_true,↓iteB_false]
 | succ μ =>
  obtain ⟨r,hr⟩ := at_lt l j (by omega)
  have hlt : (j : Int) < (l.length : Int) := by omega
  have hix := hx.idx (strs_get hr)
  have hw := wrap_succ j (by have := hf.1;omega)
  have hrs := hf.2 r (List.mem_of_getElem? hr)
  rw [drop_eq_cons hr,List.all_cons] at hall
  have hno : rowB r = false → rowsB l = false := fun h => by unfold rowsB;rw [hall,h,Bool.false_and,Bool.and_false]
  cases hb : (decide ((1 : Int) ≤ r.size) && decide ((r.size : Int) ≤ 160)) with
  | false =>
   have hrow : rowB r = false := by unfold rowB;rw [hb,Bool.false_and]
   simp -implicitDefEqProofs only [go_sem,↓reduceIte,Int.reduceEq,Int.reduceLT,Int.reduceLE,List.reduceReplicate,intA,setT_nil,setT_cons,hlt,hx.cells,hx.flat,hx.bound,hlx,hix,c49,hb,hw,Bool.not_false,↓boolP_bool,↓iteB_true,↓iteB_false]
   refine hKK _ _ _ ?_
   simp -implicitDefEqProofs only [go_sem,↓reduceIte,Int.reduceEq,Int.reduceLT,Int.reduceLE,List.reduceReplicate,intA,setT_nil,setT_cons,hno hrow,↓boolP_bool,↓iteB_true,↓iteB_false]
  | true =>
   simp -implicitDefEqProofs only [go_sem,↓reduceIte,Int.reduceEq,Int.reduceLT,Int.reduceLE,List.reduceReplicate,intA,setT_nil,setT_cons,hlt,hx.cells,hx.flat,hx.bound,hlx,hix,c49,hb,hw,Bool.not_true,↓boolP_bool,↓iteB_true,↓iteB_false]
   refine Lp_ruleQ (P := fun μ2 a H => ∃ k,k + μ2 = r.size ∧ r.data.toList.all byteB = (r.data.toList.drop k).all byteB ∧ a = ⟨46,[(0,x),(2,.v (.bool false)),(3,intA (j : Nat)),(8,.v (.bool true)),(17,.v (.bool false)),(4,intA (k : Nat))],[]⟩ ∧ H = ⟨[],0⟩) ?_ r.size _ _ ⟨0,by omega,rfl,rfl,rfl⟩
   rintro Q2 K2 hQ2 hK2 μ2 _ _ ⟨k,hk,hall2,rfl,rfl⟩
   cases μ2 with
   | zero =>
    have hk : k = r.size := by omega
    have hrow : rowB r = true := by
     unfold rowB
     rw [hb,hall2,hk,List.drop_of_length_le (by simp)];rfl
    subst hk
    rw [hrow,Bool.true_and] at hall
    have hlt2 : ¬ (r.size : Int) < (r.size : Int) := by omega
    simp -implicitDefEqProofs only [go_sem,↓reduceIte,Int.reduceEq,Int.reduceLT,Int.reduceLE,List.reduceReplicate,intA,setT_nil,setT_cons,hlt2,hx.cells,hx.flat,hx.bound,hlx,hix,↓boolP_bool,↓iteB_true,↓iteB_false]
    refine hK2 _ _ _ ?_
    simp -implicitDefEqProofs only [go_sem,↓reduceIte,Int.reduceEq,Int.reduceLT,Int.reduceLE,List.reduceReplicate,intA,setT_nil,setT_cons,hw,↓boolP_bool,↓iteB_true,↓iteB_false]
    exact Again.mk' μ (by omega) (hQ _ _ _ ⟨j + 1,by omega,hall,rfl,rfl⟩)
   | succ μ2 =>
    obtain ⟨b,hb2⟩ := at_lt r.data.toList k (by simp;omega)
    have hlt2 : (k : Int) < (r.size : Int) := by omega
    have hsa := strAt_get hb2
    have hw2 := wrap_succ k (by omega)
    have hk0 : (0 : Int) ≤ (k : Int) := by omega
    rw [drop_eq_cons hb2,List.all_cons] at hall2
    have hno2 : byteB b = false → rowsB l = false := fun h => hno (by unfold rowB;rw [hall2,h,Bool.false_and,Bool.and_false])
    by_cases h1 : (b.toNat : Int) < 32
    ·have hf2 := hno2 (by unfold byteB;simp;omega)
     simp -implicitDefEqProofs only [go_sem,↓reduceIte,Int.reduceEq,Int.reduceLT,Int.reduceLE,List.reduceReplicate,intA,setT_nil,setT_cons,hlt2,hlt,hx.cells,hx.flat,hx.bound,hlx,hix,hk0,Int.toNat_natCast,hsa,h1,hw,hw2,decide_true,↓boolP_bool,↓iteB_true,↓iteB_false]
     refine hK2 _ _ _ ?_
     simp -implicitDefEqProofs only [go_sem,↓reduceIte,Int.reduceEq,Int.reduceLT,Int.reduceLE,List.reduceReplicate,intA,setT_nil,setT_cons,↓boolP_bool,↓iteB_true,↓iteB_false]
     refine hKK _ _ _ ?_
     simp -implicitDefEqProofs only [go_sem,↓reduceIte,Int.reduceEq,Int.reduceLT,Int.reduceLE,List.reduceReplicate,intA,setT_nil,setT_cons,hf2,↓boolP_bool,↓iteB_true,↓iteB_false]
    ·by_cases h2 : (b.toNat : Int) > 126
     ·have hf2 := hno2 (by unfold byteB;simp;omega)
      simp -implicitDefEqProofs only [go_sem,↓reduceIte,Int.reduceEq,Int.reduceLT,Int.reduceLE,List.reduceReplicate,intA,setT_nil,setT_cons,hlt2,hlt,hx.cells,hx.flat,hx.bound,hlx,hix,hk0,Int.toNat_natCast,hsa,h1,h2,hw,hw2,decide_true,decide_false,↓boolP_bool,↓iteB_true,↓iteB_false]
      refine hK2 _ _ _ ?_
      simp -implicitDefEqProofs only [go_sem,↓reduceIte,Int.reduceEq,Int.reduceLT,Int.reduceLE,List.reduceReplicate,intA,setT_nil,setT_cons,↓boolP_bool,↓iteB_true,↓iteB_false]
      refine hKK _ _ _ ?_
      simp -implicitDefEqProofs only [go_sem,↓reduceIte,Int.reduceEq,Int.reduceLT,Int.reduceLE,List.reduceReplicate,intA,setT_nil,setT_cons,hf2,↓boolP_bool,↓iteB_true,↓iteB_false]
     ·have hy : byteB b = true := by unfold byteB;simp;omega
      rw [hy,Bool.true_and] at hall2
      simp -implicitDefEqProofs only [go_sem,↓reduceIte,Int.reduceEq,Int.reduceLT,Int.reduceLE,List.reduceReplicate,intA,setT_nil,setT_cons,hlt2,hlt,hx.cells,hx.flat,hx.bound,hlx,hix,hk0,Int.toNat_natCast,hsa,h1,h2,hw,hw2,decide_true,decide_false,↓boolP_bool,↓iteB_true,↓iteB_false]
      exact Again.mk' μ2 (by omega) (hQ2 _ _ _ ⟨k + 1,by omega,hall2,rfl,rfl⟩)
theorem call38 {e : Exts} (he : Quiet e) (l : List ByteArray) (hf : FitsR l) (x : AV) (hx : SlOf 1 (strs l) x) (me : FuncId) (d : Option Tmp) (H : Heap) : callA (Cx e) (lim (Cx e)) me 31 d [x] H = some (.v (.bool (rowsB l)),H) :=
 (ans38 he l hf x hx).call (ext_31 he) (pure_31 _ _ _) (by simp only [boundL_cons,hx.bound,boundL_nil];rfl) H
end Go.Ev
namespace Go.Ev
open Go.Proofs
attribute [local irreducible] Wp WpS
theorem ans15 {e : Exts} (l m : List ByteArray) (hl : l.length < 2 ^ 63) (x y : AV) (hx : SlOf 1 (strs l) x) (hy : SlOf 1 (strs m) y) : Ans (Cx e) 13 [x,y] (.v (.bool (decide (l = m)))) := by
 unfold Ans
 rw [fn_step (fn_13 e) (show Try.f13.body = some _ from rfl)]
 have hlx := hx.len
 have hly := hy.len
 rw [strs_len] at hlx hly
 by_cases hlen : l.length = m.length
 ·have hli : ((l.length : Int) = (m.length : Int)) := by omega
  simp -implicitDefEqProofs only [Try.f13,go_sem,↓reduceIte,Int.reduceEq,Int.reduceLT,Int.reduceLE,List.reduceReplicate,intA,setT_nil,setT_cons,hx.cells,hx.flat,hx.bound,hy.cells,hy.flat,hy.bound,hlx,hly,hli,decide_true,Bool.not_true,↓boolP_bool,↓iteB_true,↓iteB_false]
  refine Lp_ruleQ (P := fun μ a H => ∃ j,j + μ = l.length ∧ decide (l = m) = decide (l.drop j = m.drop j) ∧ a = ⟨26,[(0,x),(1,y),(4,.v (.bool false)),(10,.v (.bool false)),(5,intA (j : Nat))],[]⟩ ∧ H = ⟨[],0⟩) ?_ l.length _ _ ⟨0,by omega,rfl,rfl,rfl⟩
  rintro Q KK hQ hKK μ _ _ ⟨j,hj,hall,rfl,rfl⟩
  cases μ with
  | zero =>
   obtain rfl : j = l.length := by omega
   have hlt : ¬ (m.length : Int) < (m.length : Int) := by omega
   have hd : decide (l = m) = true := by rw [hall,List.drop_length,hlen,List.drop_length];rfl
   simp -implicitDefEqProofs only [go_sem,↓reduceIte,Int.reduceEq,Int.reduceLT,Int.reduceLE,List.reduceReplicate,intA,setT_nil,setT_cons,hx.cells,hx.flat,hx.bound,hlx,hli,hlt,↓boolP_bool,↓iteB_true,↓iteB_false]
   refine hKK _ _ _ ?_
   simp -implicitDefEqProofs only [go_sem,↓reduceIte,Int.reduceEq,Int.reduceLT,Int.reduceLE,List.reduceReplicate,intA,setT_nil,setT_cons,hd,↓boolP_bool,↓iteB_true,↓iteB_false]
  | succ μ =>
   obtain ⟨r,hr⟩ := at_lt l j (by omega)
   obtain ⟨s,hs⟩ := at_lt m j (by omega)
   have hlt : (j : Int) < (m.length : Int) := by omega
   have hix := hx.idx (strs_get hr)
   have hiy := hy.idx (strs_get hs)
   have hw := wrap_succ j (by omega)
   rw [drop_eq_cons hr,drop_eq_cons hs] at hall
   simp -implicitDefEqProofs only [go_sem,↓reduceIte,Int.reduceEq,Int.reduceLT,Int.reduceLE,List.reduceReplicate,intA,setT_nil,setT_cons,hx.cells,hx.flat,hx.bound,hlx,hli,hlt,↓boolP_bool,↓iteB_true,↓iteB_false]
   refine wp_drawX [([],[],false),([],[],false),([],[],false),([],[],false),([],[],false),([],[],false),([],[],false),([3],[],false),([],[],false)] (by kernel_rfl) (by kernel_rfl) ?_
   by_cases hd : r = s
   ·subst hd
    simp -implicitDefEqProofs only [go_sem,↓reduceIte,Int.reduceEq,Int.reduceLT,Int.reduceLE,List.reduceReplicate,intA,setT_nil,setT_cons,hix,hiy,hw,decide_true,Bool.not_true,↓boolP_bool,↓iteB_true,↓iteB_false]
    exact Again.mk' μ (by omega) (hQ _ _ _ ⟨j + 1,by omega,by rw [hall];simp,rfl,rfl⟩)
   ·have h0 : decide (l = m) = false := by rw [hall];simp [hd]
    simp -implicitDefEqProofs only [go_sem,↓reduceIte,Int.reduceEq,Int.reduceLT,Int.reduceLE,List.reduceReplicate,intA,setT_nil,setT_cons,hix,hiy,hw,decide_eq_false hd,Bool.not_false,↓boolP_bool,↓iteB_true,↓iteB_false]
    refine hKK _ _ _ ?_
    simp -implicitDefEqProofs only [go_sem,↓reduceIte,Int.reduceEq,Int.reduceLT,Int.reduceLE,List.reduceReplicate,intA,setT_nil,setT_cons,h0,↓boolP_bool,↓iteB_true,↓iteB_false]
 ·have hli : ¬ ((l.length : Int) = (m.length : Int)) := by omega
  have h0 : decide (l = m) = false := decide_eq_false fun h => hlen (congrArg _ h)
  simp -implicitDefEqProofs only [Try.f13,go_sem,↓reduceIte,Int.reduceEq,Int.reduceLT,Int.reduceLE,List.reduceReplicate,intA,setT_nil,setT_cons,hx.cells,hx.flat,hx.bound,hy.cells,hy.flat,hy.bound,hlx,hly,hli,h0,decide_false,Bool.not_false,↓boolP_bool,↓iteB_true,↓iteB_false]
theorem call15 {e : Exts} (he : Quiet e) (l m : List ByteArray) (hl : l.length < 2 ^ 63) (x y : AV) (hx : SlOf 1 (strs l) x) (hy : SlOf 1 (strs m) y) (me : FuncId) (d : Option Tmp) (H : Heap) : callA (Cx e) (lim (Cx e)) me 13 d [x,y] H = some (.v (.bool (decide (l = m))),H) :=
 (ans15 l m hl x y hx hy).call (ext_13 he) (pure_13 _ _ _) (by simp only [boundL_cons,hx.bound,hy.bound,boundL_nil];rfl) H
theorem bin_rem (m n : Int) (hn : n ≠ 0) (t : TypeId) (x y : Operand) : binA Try.prog .rem t x y (.v (.int .i64 m)) (.v (.int .i64 n)) = some (.v (.int .i64 (m.tmod n))) := by
 show atomA (runPure Try.prog (Op.intDiv .rem .i64 m n)) = _
 unfold Op.intDiv
 rw [if_neg hn];rfl
theorem bin_quo (m n : Int) (hn : n ≠ 0) (t : TypeId) (x y : Operand) : binA Try.prog .quo t x y (.v (.int .i64 m)) (.v (.int .i64 n)) = some (.v (.int .i64 (IntKind.i64.wrap (m.tdiv n)))) := by
 show atomA (runPure Try.prog (Op.intDiv .quo .i64 m n)) = _
 unfold Op.intDiv
 rw [if_neg hn];rfl
theorem tmod676 (a : Nat) : ((a : Int)).tmod 676 = ((a % 676 : Nat) : Int) := rfl
theorem tmod26 (a : Nat) : ((a : Int)).tmod 26 = ((a % 26 : Nat) : Int) := rfl
theorem tdiv26 (a : Nat) : ((a : Int)).tdiv 26 = ((a / 26 : Nat) : Int) := rfl
theorem wrap_u8 (n : Int) (h0 : 0 ≤ n) (h1 : n < 256) : IntKind.u8.wrap n = n := by
 have : IntKind.u8.wrap n = n % 256 := rfl
 rw [this];omega
theorem conv_byte (n : Nat) (h : n < 256) : convA Try.prog 3 5 (.v (.int .i64 n)) = some (.v (.int .u8 n)) := by
 have : convA Try.prog 3 5 (.v (.int .i64 (n : Int))) = some (.v (.int .u8 (IntKind.u8.wrap n))) := by kernel_rfl
 rw [this,show IntKind.u8.wrap (n : Int) = n from wrap_u8 _ (by omega) (by omega)]
theorem conv_bytes (xs : List AV) (c : Option Nat) (b : UInt8) (l : List UInt8) (h : bytesV xs = some (b :: l)) : convA Try.prog 63 9 (.vs 1 xs c) = some (.v (.string ⟨(b :: l).toArray⟩)) := by
 have : convA Try.prog 63 9 (.vs 1 xs c) = (match bytesV xs with | some (b :: l) => some (.v (.string ⟨(b :: l).toArray⟩)) | _ => none) := by
  have h1 : Try.prog.underlying 63 = some (.slice 5) := by kernel_rfl
  have h2 : Try.prog.underlying 9 = some .string := by kernel_rfl
  have h3 : Try.prog.underlying 5 = some (.int .u8) := by kernel_rfl
  unfold convA
  simp only [h1,h2,h3]
  rcases bytesV xs with _ | _ | ⟨b,l⟩ <;> rfl
 rw [this,h]
def chkN (n : Nat) : List UInt8 → Nat
 | [] => n
 | b :: r => chkN ((31 * n + b.toNat) % 676) r
def sumR (r : ByteArray) (i : Nat) : Nat := chkN ((17 * i + 5) % 676) r.data.toList
def chkB (r : ByteArray) (i : Nat) : List UInt8 := [(97 + sumR r i / 26).toUInt8,(97 + sumR r i % 26).toUInt8]
theorem chkN_lt : ∀ (l : List UInt8) (n : Nat),n < 676 → chkN n l < 676
 | [],n,h => h
 | b :: r,n,_ => chkN_lt r _ (Nat.mod_lt _ (by omega))
theorem sumR_lt (r : ByteArray) (i : Nat) : sumR r i < 676 := chkN_lt _ _ (Nat.mod_lt _ (by omega))
theorem ans67 {e : Exts} (r : ByteArray) (hr : r.size < 2 ^ 63) (i : Nat) (hi : i < 1000) : Ans (Cx e) 48 [.v (.string r),.v (.int .i64 i)] (.v (.string ⟨(chkB r i).toArray⟩)) := by
 unfold Ans
 rw [fn_step (fn_48 e) (show Try.f48.body = some _ from rfl)]
 have h1 : IntKind.i64.wrap (17 * (i : Int)) = ((17 * i : Nat) : Int) := by rw [wrap_in _ (by omega) (by omega)];omega
 have h2 : IntKind.i64.wrap (((17 * i : Nat) : Int) + 5) = ((17 * i + 5 : Nat) : Int) := by rw [wrap_in _ (by omega) (by omega)];omega
 have b1 := fun t x y => bin_rem ((17 * i + 5 : Nat) : Int) 676 (by decide) t x y
 rw [tmod676] at b1
 simp -implicitDefEqProofs only [Try.f48,go_sem,↓reduceIte,Int.reduceEq,Int.reduceLT,Int.reduceLE,List.reduceReplicate,intA,setT_nil,setT_cons,h1,h2,b1,↓boolP_bool,↓iteB_true,↓iteB_false]
 refine Lp_ruleQ (P := fun μ a H => ∃ j n,j + μ = r.size ∧ n < 676 ∧ sumR r i = chkN n (r.data.toList.drop j) ∧ a = ⟨35,[(0,.v (.string r)),(1,intA (i : Nat)),(4,.v (.string ⟨#[]⟩)),(5,intA (n : Nat)),(12,intA r.size),(13,intA (j : Nat))],[]⟩ ∧ H = ⟨[],0⟩) ?_ r.size _ _ ⟨0,_,by omega,Nat.mod_lt _ (by omega),rfl,rfl,rfl⟩
 rintro Q KK hQ hKK μ _ _ ⟨j,n,hj,hn,hs,rfl,rfl⟩
 cases μ with
 | zero =>
  obtain rfl : j = r.size := by omega
  have hlt : ¬ (r.size : Int) < (r.size : Int) := by omega
  rw [List.drop_of_length_le (by simp)] at hs
  have hs : sumR r i = n := hs
  have q1 := fun t x y => bin_quo (n : Int) 26 (by decide) t x y
  have q2 := fun t x y => bin_rem (n : Int) 26 (by decide) t x y
  rw [tdiv26,wrap_in _ (by omega) (by omega)] at q1
  rw [tmod26] at q2
  have w1 : IntKind.u8.wrap (97 + ((n / 26 : Nat) : Int)) = ((97 + n / 26 : Nat) : Int) := by rw [wrap_u8 _ (by omega) (by omega)];omega
  have w2 : IntKind.u8.wrap (97 + ((n % 26 : Nat) : Int)) = ((97 + n % 26 : Nat) : Int) := by rw [wrap_u8 _ (by omega) (by omega)];omega
  have hby : bytesV [.v (.int .u8 ((97 + n / 26 : Nat) : Int)),.v (.int .u8 ((97 + n % 26 : Nat) : Int))] = some [(97 + n / 26).toUInt8,(97 + n % 26).toUInt8] := by
   simp only [bytesV]
   rw [if_pos (by omega),if_pos (by omega)]
   rfl
  have hcb := fun c => conv_bytes _ c _ _ hby
  have hfin : chkB r i = [(97 + n / 26).toUInt8,(97 + n % 26).toUInt8] := by unfold chkB;rw [hs]
  simp -implicitDefEqProofs only [go_sem,↓reduceIte,Int.reduceEq,Int.reduceLT,Int.reduceLE,List.reduceReplicate,intA,setT_nil,setT_cons,hlt,↓boolP_bool,↓iteB_true,↓iteB_false]
  refine hKK _ _ _ ?_
  simp -implicitDefEqProofs only [go_sem,↓reduceIte,Int.reduceEq,Int.reduceLT,Int.reduceLE,List.reduceReplicate,intA,setT_nil,setT_cons,q1,q2,w1,w2,conv_byte (n / 26) (by omega),conv_byte (n % 26) (by omega),hcb,↓boolP_bool,↓iteB_true,↓iteB_false]
  rw [hfin]
 | succ μ =>
  obtain ⟨b,hb⟩ := at_lt r.data.toList j (by simp;omega)
  have hlt : (j : Int) < (r.size : Int) := by omega
  have hsa := strAt_get hb
  have hw := wrap_succ j (by omega)
  have hk0 : (0 : Int) ≤ (j : Int) := by omega
  have hbl := b.toNat_lt
  have hcv := conv_u8 b.toNat (by omega) (by omega)
  have m1 : IntKind.i64.wrap (31 * (n : Int)) = ((31 * n : Nat) : Int) := by rw [wrap_in _ (by omega) (by omega)];omega
  have m2 : IntKind.i64.wrap (((31 * n : Nat) : Int) + (b.toNat : Int)) = ((31 * n + b.toNat : Nat) : Int) := by rw [wrap_in _ (by omega) (by omega)];omega
  have m3 := fun t x y => bin_rem ((31 * n + b.toNat : Nat) : Int) 676 (by decide) t x y
  rw [tmod676] at m3
  rw [drop_eq_cons hb] at hs
  simp -implicitDefEqProofs only [go_sem,↓reduceIte,Int.reduceEq,Int.reduceLT,Int.reduceLE,List.reduceReplicate,intA,setT_nil,setT_cons,hlt,hk0,Int.toNat_natCast,hsa,hcv,hw,m1,m2,m3,↓boolP_bool,↓iteB_true,↓iteB_false]
  exact Again.mk' μ (by omega) (hQ _ _ _ ⟨j + 1,_,by omega,Nat.mod_lt _ (by omega),hs,rfl,rfl⟩)
theorem call67 {e : Exts} (he : Quiet e) (r : ByteArray) (hr : r.size < 2 ^ 63) (i : Nat) (hi : i < 1000) (me : FuncId) (d : Option Tmp) (H : Heap) : callA (Cx e) (lim (Cx e)) me 48 d [.v (.string r),.v (.int .i64 i)] H = some (.v (.string ⟨(chkB r i).toArray⟩),H) :=
 (ans67 r hr i hi).call (ext_48 he) (pure_48 _ _ _) rfl H
def lineB (r : ByteArray) (i : Nat) : ByteArray := r ++ ⟨#[32]⟩ ++ ⟨(chkB r i).toArray⟩ ++ ⟨#[10]⟩
theorem cat_ok (a b : ByteArray) (h : a.size + b.size ≤ 2 ^ 40) : atomA (strOp .add a b) = some (.v (.string (a ++ b))) := by
 unfold strOp
 simp only []
 rw [if_pos h];rfl
theorem ba_size (l : List UInt8) : (⟨l.toArray⟩ : ByteArray).size = l.length := by simp [ByteArray.size]
theorem cat_size (a b : ByteArray) : (a ++ b).size = a.size + b.size := by simp
theorem cat_data (a b : ByteArray) : (a ++ b).data.toList = a.data.toList ++ b.data.toList := by simp
theorem chk_size (r : ByteArray) (i : Nat) : (⟨(chkB r i).toArray⟩ : ByteArray).size = 2 := rfl
theorem lineB_size (r : ByteArray) (i : Nat) : (lineB r i).size = r.size + 4 := by
 unfold lineB
 rw [cat_size,cat_size,cat_size,chk_size,show (⟨#[32]⟩ : ByteArray).size = 1 from rfl,show (⟨#[10]⟩ : ByteArray).size = 1 from rfl]
theorem lineB_data (r : ByteArray) (i : Nat) : (lineB r i).data.toList = r.data.toList ++ 32 :: chkB r i ++ [10] := by
 unfold lineB
 rw [cat_data,cat_data,cat_data];simp
theorem ans41 {e : Exts} (he : Quiet e) (r : ByteArray) (hr : r.size < 1000) (i : Nat) (hi : i < 1000) : Ans (Cx e) 28 [.v (.string r),.v (.int .i64 i)] (.v (.string (lineB r i))) := by
 have c67 := fun me d H => call67 he r (by omega) i hi me d H
 have k1 := cat_ok r ⟨#[32]⟩ (by show r.size + 1 ≤ _;omega)
 have k2 := cat_ok (r ++ ⟨#[32]⟩) ⟨(chkB r i).toArray⟩ (by rw [cat_size,chk_size,show (⟨#[32]⟩ : ByteArray).size = 1 from rfl];omega)
 have k3 := cat_ok (r ++ ⟨#[32]⟩ ++ ⟨(chkB r i).toArray⟩) ⟨#[10]⟩ (by rw [cat_size,cat_size,chk_size,show (⟨#[32]⟩ : ByteArray).size = 1 from rfl,show (⟨#[10]⟩ : ByteArray).size = 1 from rfl];omega)
 unfold lineB Ans
 rw [fn_step (fn_28 e) (show Try.f28.body = some _ from rfl)]
 simp -implicitDefEqProofs only [Try.f28,go_sem,↓reduceIte,Int.reduceEq,Int.reduceLT,Int.reduceLE,List.reduceReplicate,intA,setT_nil,setT_cons,c67,k1,k2,k3,↓boolP_bool,↓iteB_true,↓iteB_false]
theorem call41 {e : Exts} (he : Quiet e) (r : ByteArray) (hr : r.size < 1000) (i : Nat) (hi : i < 1000) (me : FuncId) (d : Option Tmp) (H : Heap) : callA (Cx e) (lim (Cx e)) me 28 d [.v (.string r),.v (.int .i64 i)] H = some (.v (.string (lineB r i)),H) :=
 (ans41 he r hr i hi).call (ext_28 he) (pure_28 _ _ _) rfl H
end Go.Ev
namespace Go.Ev
open Go.Proofs
attribute [local irreducible] Wp WpS
theorem lim_lay {C : Cfg} {f : FuncId} {g : List AV → Heap → Option (AV × Heap)} (hf : C.lay f = some g) {args : List AV} {H H' : Heap} {v : AV} (h : g args H = some (v,H')) : lim C (.call f args H) = some (.ret v H') := by
 rw [lim_eq]
 simp only [taskA,hf,h,Option.map_some]
theorem call66 {e : Exts} (he : Quiet e) {args : List AV} {H H' : Heap} {v : AV} (h : ccA 65 args H = some (v,H')) (me : FuncId) (d : Option Tmp) : callA (Cx e) (lim (Cx e)) me 47 d args H = some (v,H'.trim H.size [v] []) := by
 have hk : callKind (Cx e) me 47 d args = 0 := rfl
 have hl := lim_lay (C := Cx e) (f := 47) (g := ccA 65) rfl h
 unfold callA standA standH
 rw [ext_47 he]
 simp only [show (Cx e).exh 47 = none from rfl]
 unfold callB
 rw [hk]
 simp only [hl]
@[go_sem] theorem nilCk_ptr (b v k : Nat) : nilCk (.ptr b v k) = some (.ptr b v k) := rfl
def bytesA (l : List UInt8) : List AV := l.map fun c => .v (.int .u8 c.toNat)
theorem bytesA_len (l : List UInt8) : (bytesA l).length = l.length := by simp [bytesA]
theorem bytesA_bd (l : List UInt8) : boundL (bytesA l) = 0 := by
 refine Nat.le_zero.1 (boundL_le.2 fun x hx => ?_)
 obtain ⟨s, -,rfl⟩ := List.mem_map.1 hx;exact Nat.le_refl _
theorem bytesA_flat (l : List UInt8) : (bytesA l).all AV.flat = true := by
 refine List.all_eq_true.2 fun x hx => ?_
 obtain ⟨s, -,rfl⟩ := List.mem_map.1 hx;rfl
theorem bytesA_app (a b : List UInt8) : bytesA (a ++ b) = bytesA a ++ bytesA b := by simp [bytesA]
theorem cells_str (H : Heap) (s : ByteArray) : cellsFrom H 1 (.v (.string s)) = some (s.size,bytesA s.data.toList) := rfl
@[go_sem] theorem app_33_9 (H : Heap) (slot : Nat) (s x : AV) : appendA Try.prog H slot [63,9] [s,x] = appG 5 1 1 H slot s (cellsFrom H 1 x) := app_eq2 (by kernel_rfl) und_63 (by kernel_rfl) (by kernel_rfl) (by decide) (by decide) H slot s x
def bldN : Heap := ⟨[some (.cells 0 0 65 1 false [.v (.pointer none),.v (.slice none 0 0)])],0⟩
def bld (v n : Nat) (bs : List UInt8) : Heap := ⟨[some (.cells 0 2 65 1 false [.ptr 0 0 0,.sl 1 v 0 n none]),some (.cells v 0 5 1 true (bytesA bs))],0⟩
theorem cc_fresh : ccA 65 [.ptr 0 0 0] bldN = some (.tup [],⟨[some (.cells 0 1 65 1 false [.ptr 0 0 0,.v (.slice none 0 0)])],0⟩) := by rfl
theorem cc_used (v n : Nat) (bs : List UInt8) : ccA 65 [.ptr 0 0 0] (bld v n bs) = some (.tup [],bld v n bs) := by rfl
theorem fn40N {e : Exts} (he : Quiet e) (s : ByteArray) (h0 : 0 < s.size) (hs : s.size < 100000) : Fn' (Cx e) 27 [.ptr 0 0 0,.v (.string s)] bldN (fun v H => v = .tup [.v (.int .i64 s.size),.v .nilIface] ∧ H = bld 0 s.size s.data.toList) := by
 rw [fn_step (fn_27 e) (show Try.f27.body = some _ from rfl)]
 have c66 := fun me d => call66 he cc_fresh me d
 unfold bldN at c66
 have hf : fitsA 1 s.size = true := by unfold fitsA;exact decide_eq_true (by omega)
 unfold bldN
 simp -implicitDefEqProofs only [Try.f27,go_sem,↓reduceIte,Int.reduceEq,Int.reduceLT,Int.reduceLE,List.reduceReplicate,intA,setT_nil,setT_cons,c66,cells_str,bytesA_flat,bytesA_bd,hf,Nat.ne_of_gt h0,bound_sl,↓boolP_bool,↓iteB_true,↓iteB_false]
 exact ⟨rfl,rfl⟩
theorem fn40 {e : Exts} (he : Quiet e) (v : Nat) (bs : List UInt8) (s : ByteArray) (h0 : 0 < s.size) (hs : bs.length + s.size < 1000000) : Fn' (Cx e) 27 [.ptr 0 0 0,.v (.string s)] (bld v bs.length bs) (fun x H => x = .tup [.v (.int .i64 s.size),.v .nilIface] ∧ H = bld (v + 1) (bs.length + s.size) (bs ++ s.data.toList)) := by
 rw [fn_step (fn_27 e) (show Try.f27.body = some _ from rfl)]
 have c66 := fun me d => call66 he (cc_used v bs.length bs) me d
 unfold bld at c66
 have hf : fitsA 1 (bs.length + s.size) = true := by unfold fitsA;exact decide_eq_true (by omega)
 have hap := fun slot => appTo_own (e := 5) (sz := 1) (b' := 1) (H := bld v bs.length bs) (slot := slot) (b := 1) (v := v) (len := bs.length) (n := s.size) (new := bytesA s.data.toList) (m := 0) (e' := 5) (cs := bytesA bs) (by unfold bld Heap.row Heap.get;simp) (by rw [bytesA_len];omega) (Nat.zero_le _) hf (by omega) (by omega)
 unfold bld at hap
 unfold bld
 simp -implicitDefEqProofs only [Try.f27,go_sem,↓reduceIte,Int.reduceEq,Int.reduceLT,Int.reduceLE,List.reduceReplicate,intA,setT_nil,setT_cons,c66,cells_str,bytesA_flat,bytesA_bd,hap,Nat.ne_of_gt h0,bound_sl,↓boolP_bool,↓iteB_true,↓iteB_false]
 refine ⟨rfl, ?_⟩
 rw [bytesA_app]
theorem call_kept {C : Cfg} {f : FuncId} {args : List AV} {H H' : Heap} {v : AV} {me : FuncId} {d : Option Tmp} (hx : C.ext f = none) (hk : callKind C me f d args = 0) (h : Fn' C f args H (fun x X => x = v ∧ X = H')) (hh : C.exh f = none := by rfl) : callA C (lim C) me f d args H = some (v,H'.trim H.size [v] []) := by
 unfold Fn' at h
 rw [bindO_iff] at h
 obtain ⟨o,h1,h2⟩ := h
 cases o with
 | go => exact h2.elim
 | ret x X =>
  obtain ⟨rfl,rfl⟩ := h2
  unfold callA standA standH
  rw [hx];simp only;rw [hh];simp only
  unfold callB
  rw [hk]
  simp only [h1]
theorem call40N {e : Exts} (he : Quiet e) (s : ByteArray) (h0 : 0 < s.size) (hs : s.size < 100000) (me : FuncId) (d : Option Tmp) : callA (Cx e) (lim (Cx e)) me 27 d [.ptr 0 0 0,.v (.string s)] bldN = some (.tup [.v (.int .i64 s.size),.v .nilIface],bld 0 s.size s.data.toList) := by
 rw [call_kept (ext_27 he) rfl (fn40N he s h0 hs)]
 rfl
theorem call40 {e : Exts} (he : Quiet e) (v : Nat) (bs : List UInt8) (s : ByteArray) (h0 : 0 < s.size) (hs : bs.length + s.size < 1000000) (me : FuncId) (d : Option Tmp) : callA (Cx e) (lim (Cx e)) me 27 d [.ptr 0 0 0,.v (.string s)] (bld v bs.length bs) = some (.tup [.v (.int .i64 s.size),.v .nilIface],bld (v + 1) (bs.length + s.size) (bs ++ s.data.toList)) := by
 rw [call_kept (ext_27 he) rfl (fn40 he v bs s h0 hs)]
 rfl
end Go.Ev
namespace Go.Ev
open Go.Proofs
attribute [local irreducible] Wp WpS
theorem bytesV_A : ∀ l : List UInt8,bytesV (bytesA l) = some l
 | [] => rfl
 | b :: r => by
  have hb := b.toNat_lt
  have ih := bytesV_A r
  show (if (0 : Int) ≤ (b.toNat : Int) ∧ (b.toNat : Int) < 256 then (match bytesV (bytesA r) with | some l => some (((b.toNat : Int).toNat).toUInt8 :: l) | none => none) else none) = _
  rw [if_pos (by omega),ih,Int.toNat_natCast]
  simp
theorem call_seen {C : Cfg} {f : FuncId} {args : List AV} {H : Heap} {v : AV} {me : FuncId} {d : Option Tmp} (hx : C.ext f = none) (hk : callKind C me f d args = 2) (h : Fn' C f args { H with lock := H.size } (fun x X => freezeV { X with lock := H.size } 1000000 x = some v)) (hh : C.exh f = none := by rfl) : callA C (lim C) me f d args H = some (v,H) := by
 unfold Fn' at h
 rw [bindO_iff] at h
 obtain ⟨o,h1,h2⟩ := h
 cases o with
 | go => exact h2.elim
 | ret x X =>
  have h2 : freezeV { X with lock := H.size } 1000000 x = some v := h2
  unfold callA standA standH
  rw [hx];simp only;rw [hh];simp only
  unfold callB
  rw [hk]
  simp only [h1,h2,Option.map_some]
theorem frz_int (H : Heap) (n : Int) : freezeV H 1000000 (.v (.int .i64 n)) = some (.v (.int .i64 n)) := rfl
theorem call42 {e : Exts} (he : Quiet e) (v n : Nat) (bs : List UInt8) (me : FuncId) (d : Option Tmp) : callA (Cx e) (lim (Cx e)) me 29 d [.ptr 0 0 0] (bld v n bs) = some (.v (.int .i64 n),bld v n bs) := by
 refine call_seen (ext_29 he) (by unfold callKind;rw [pure_29];rfl) ?_
 rw [fn_step (fn_29 e) (show Try.f29.body = some _ from rfl)]
 unfold bld
 simp -implicitDefEqProofs only [Try.f29,go_sem,↓reduceIte,Int.reduceEq,Int.reduceLT,Int.reduceLE,List.reduceReplicate,intA,setT_nil,setT_cons,slLen,↓boolP_bool,↓iteB_true,↓iteB_false]
 exact frz_int _ _
theorem call42N {e : Exts} (he : Quiet e) (me : FuncId) (d : Option Tmp) : callA (Cx e) (lim (Cx e)) me 29 d [.ptr 0 0 0] bldN = some (.v (.int .i64 0),bldN) := by
 refine call_seen (ext_29 he) (by unfold callKind;rw [pure_29];rfl) ?_
 rw [fn_step (fn_29 e) (show Try.f29.body = some _ from rfl)]
 unfold bldN
 simp -implicitDefEqProofs only [Try.f29,go_sem,↓reduceIte,Int.reduceEq,Int.reduceLT,Int.reduceLE,List.reduceReplicate,intA,setT_nil,setT_cons,slLen,↓boolP_bool,↓iteB_true,↓iteB_false]
 exact frz_int _ _
def bldD (v n : Nat) : Heap := ⟨[some (.cells 0 2 65 1 false [.ptr 0 0 0,.sl 1 v 0 n none]),some .dead],0⟩
theorem und134 : Try.prog.underlying 93 = some (.pointer 5) := by kernel_rfl
theorem cells5 : Try.prog.cellsOf 5 = 1 := by kernel_rfl
theorem sliceD (b v off len : Nat) (c : Option Nat) (h : 0 < len) : sliceDataA [.sl b v off len c] = some (.ptr b v off) := if_pos h
theorem sliceDN : sliceDataA [.v (.slice none 0 0)] = some (.v (.pointer none)) := rfl
theorem unsStr (v : Nat) (bs : List UInt8) (h : 0 < bs.length) (h2 : bs.length < 1000000) (B0 : Option AObj) (R : List (Option AObj)) : unsafeStrA Try.prog ⟨B0 :: some (.cells v 0 5 1 true (bytesA bs)) :: R,0⟩ [93,3] [.ptr 1 v 0,.v (.int .i64 bs.length)] = some (.v (.string ⟨bs.toArray⟩),⟨B0 :: some .dead :: R,0⟩) := by
 have hr : Heap.row ⟨B0 :: some (.cells v 0 5 1 true (bytesA bs)) :: R,0⟩ 1 v = some (0,5,1,true,bytesA bs) := by unfold Heap.row Heap.get;simp
 unfold unsafeStrA
 simp only [und134,hr]
 rw [if_pos ⟨trivial,Nat.zero_le _,by omega,by omega,by rw [Int.toNat_natCast,bytesA_len];omega,cells5⟩,Int.toNat_natCast,List.drop_zero,List.take_of_length_le (by rw [bytesA_len];exact Nat.le_refl _),bytesV_A]
 rfl
theorem lenI_33 (b v o n : Nat) (c : Option Nat) : lenI Try.prog [63] [.sl b v o n c] = some (.v (.int .i64 n)) := by kernel_rfl
theorem lenI_33N : lenI Try.prog [63] [.v (.slice none 0 0)] = some (.v (.int .i64 0)) := by kernel_rfl
theorem unsStrN (H : Heap) : unsafeStrA Try.prog H [93,3] [.v (.pointer none),.v (.int .i64 0)] = some (.v (.string ⟨#[]⟩),H) := rfl
theorem fn43 {e : Exts} (_he : Quiet e) (v : Nat) (bs : List UInt8) (h : 0 < bs.length) (h2 : bs.length < 1000000) : Fn' (Cx e) 30 [.ptr 0 0 0] (bld v bs.length bs) (fun x H => x = .v (.string ⟨bs.toArray⟩) ∧ H = bldD v bs.length) := by
 rw [fn_step (fn_30 e) (show Try.f30.body = some _ from rfl)]
 have hu := unsStr v bs h h2
 unfold bld
 simp -implicitDefEqProofs only [Try.f30,go_sem,↓reduceIte,Int.reduceEq,Int.reduceLT,Int.reduceLE,List.reduceReplicate,intA,setT_nil,setT_cons,↓boolP_bool,↓iteB_true,↓iteB_false]
 refine wp_drawX [([],[],false),([],[],false),([],[],false),([],[],false),([],[],false),([],[],false),([],[],false),([],[],false),([3,4],[],false),([3,4],[],false),([],[],false),([],[],false)] (by kernel_rfl) (by kernel_rfl) ?_
 simp -implicitDefEqProofs only [go_sem,↓reduceIte,Int.reduceEq,Int.reduceLT,Int.reduceLE,List.reduceReplicate,intA,setT_nil,setT_cons,lenI_33,sliceD _ _ _ _ _ h,hu,↓boolP_bool,↓iteB_true,↓iteB_false]
 exact ⟨rfl,rfl⟩
theorem fn43N {e : Exts} (_he : Quiet e) : Fn' (Cx e) 30 [.ptr 0 0 0] bldN (fun x H => x = .v (.string ⟨#[]⟩) ∧ H = bldN) := by
 rw [fn_step (fn_30 e) (show Try.f30.body = some _ from rfl)]
 unfold bldN
 simp -implicitDefEqProofs only [Try.f30,go_sem,↓reduceIte,Int.reduceEq,Int.reduceLT,Int.reduceLE,List.reduceReplicate,intA,setT_nil,setT_cons,↓boolP_bool,↓iteB_true,↓iteB_false]
 refine wp_drawX [([],[],false),([],[],false),([],[],false),([],[],false),([],[],false),([],[],false),([],[],false),([],[],false),([3,4],[],false),([3,4],[],false),([],[],false),([],[],false)] (by kernel_rfl) (by kernel_rfl) ?_
 simp -implicitDefEqProofs only [go_sem,↓reduceIte,Int.reduceEq,Int.reduceLT,Int.reduceLE,List.reduceReplicate,intA,setT_nil,setT_cons,lenI_33N,sliceDN,unsStrN,↓boolP_bool,↓iteB_true,↓iteB_false]
 exact ⟨rfl,rfl⟩
theorem call43 {e : Exts} (he : Quiet e) (v : Nat) (bs : List UInt8) (h : 0 < bs.length) (h2 : bs.length < 1000000) (me : FuncId) (d : Option Tmp) : callA (Cx e) (lim (Cx e)) me 30 d [.ptr 0 0 0] (bld v bs.length bs) = some (.v (.string ⟨bs.toArray⟩),bldD v bs.length) := by
 rw [call_kept (ext_30 he) rfl (fn43 he v bs h h2)]
 rfl
theorem call43N {e : Exts} (he : Quiet e) (me : FuncId) (d : Option Tmp) : callA (Cx e) (lim (Cx e)) me 30 d [.ptr 0 0 0] bldN = some (.v (.string ⟨#[]⟩),bldN) := by
 rw [call_kept (ext_30 he) rfl (fn43N he)]
 rfl
end Go.Ev
namespace Go.Ev
open Go.Proofs
attribute [local irreducible] Wp WpS
def linesB : Nat → List ByteArray → List UInt8
 | _,[] => []
 | i,r :: l => (lineB r i).data.toList ++ linesB (i + 1) l
theorem linesB_app : ∀ (a b : List ByteArray) (i : Nat),linesB i (a ++ b) = linesB i a ++ linesB (i + a.length) b
 | [],b,i => rfl
 | r :: a,b,i => by
  show (lineB r i).data.toList ++ linesB (i + 1) (a ++ b) = _
  rw [linesB_app a b (i + 1),show i + 1 + a.length = i + (r :: a).length by rw [List.length_cons];omega,← List.append_assoc]
  rfl
theorem linesB_len : ∀ (l : List ByteArray) (i : Nat),(∀ r ∈ l,r.size ≤ 160) → (linesB i l).length ≤ l.length * 164
 | [],_,_ => Nat.le_refl _
 | r :: l,i,h => by
  have h1 := linesB_len l (i + 1) fun x hx => h x (List.mem_cons_of_mem _ hx)
  have h2 := h r (List.mem_cons_self ..)
  show ((lineB r i).data.toList ++ linesB (i + 1) l).length ≤ _
  have h3 : (lineB r i).data.toList.length = r.size + 4 := by rw [← lineB_size r i];simp
  rw [List.length_append,h3,List.length_cons,Nat.add_mul];omega
theorem linesB_take (l : List ByteArray) (j : Nat) (r : ByteArray) (h : l[j]? = some r) : linesB 0 (l.take (j + 1)) = linesB 0 (l.take j) ++ (lineB r j).data.toList := by
 have hj := (List.getElem?_eq_some_iff.1 h).1
 rw [List.take_add_one,h,Option.toList_some,linesB_app,Nat.zero_add,List.length_take,Nat.min_eq_left (by omega)]
 simp [linesB]
def hB (l : List ByteArray) : Nat → Heap
 | 0 => bldN
 | j + 1 => bld j (linesB 0 (l.take (j + 1))).length (linesB 0 (l.take (j + 1)))
theorem rows_of {l : List ByteArray} (h : rowsB l = true) : l.length ≤ 200 ∧ ∀ r ∈ l,1 ≤ r.size ∧ r.size ≤ 160 ∧ ∀ b ∈ r.data.toList,32 ≤ b.toNat ∧ b.toNat ≤ 126 := by
 unfold rowsB at h
 rw [Bool.and_eq_true,decide_eq_true_iff,List.all_eq_true] at h
 refine ⟨h.1,fun r hr => ?_⟩
 have h2 := h.2 r hr
 unfold rowB at h2
 rw [Bool.and_eq_true,Bool.and_eq_true,decide_eq_true_iff,decide_eq_true_iff,List.all_eq_true] at h2
 refine ⟨by omega,by omega,fun b hb => ?_⟩
 have h3 := h2.2 b hb
 unfold byteB at h3
 rw [Bool.and_eq_true,decide_eq_true_iff,decide_eq_true_iff] at h3
 omega
theorem ans39 {e : Exts} (he : Quiet e) (l : List ByteArray) (hf : FitsR l) (x : AV) (hx : SlOf 1 (strs l) x) : Ans (Cx e) 11 [x] (.v (.int .i64 (if rowsB l then 0 else 110))) := by
 have c50 := fun me d H => call50 he l hf x hx me d H
 unfold Ans
 rw [fn_step (fn_11 e) (show Try.f11.body = some _ from rfl)]
 cases h : rowsB l <;> rw [h] at c50
 ·simp -implicitDefEqProofs only [Try.f11,go_sem,↓reduceIte,Int.reduceEq,Int.reduceLT,Int.reduceLE,List.reduceReplicate,intA,setT_nil,setT_cons,hx.cells,hx.flat,hx.bound,c50,Bool.not_false,Bool.false_eq_true,if_false,↓boolP_bool,↓iteB_true,↓iteB_false]
 ·simp -implicitDefEqProofs only [Try.f11,go_sem,↓reduceIte,Int.reduceEq,Int.reduceLT,Int.reduceLE,List.reduceReplicate,intA,setT_nil,setT_cons,hx.cells,hx.flat,hx.bound,c50,Bool.not_true,if_true,↓boolP_bool,↓iteB_true,↓iteB_false]
theorem call39 {e : Exts} (he : Quiet e) (l : List ByteArray) (hf : FitsR l) (x : AV) (hx : SlOf 1 (strs l) x) (me : FuncId) (d : Option Tmp) (H : Heap) : callA (Cx e) (lim (Cx e)) me 11 d [x] H = some (.v (.int .i64 (if rowsB l then 0 else 110)),H) :=
 (ans39 he l hf x hx).call (ext_11 he) (pure_11 _ _ _) (by simp only [boundL_cons,hx.bound,boundL_nil];rfl) H
theorem frz2 (H : Heap) (a b : Value) : freezeV H 1000000 (.tup [.v a,.v b]) = some (.tup [.v a,.v b]) := rfl
theorem trim_grown {o : AObj} {R : List (Option AObj)} {k : Nat} {vs : List AV} {ms : List Nat} (h : 1 < o.bound) : (Heap.mk (some o :: R) k).trim 1 vs ms = Heap.mk (some o :: R) k := by
 unfold Heap.trim
 rw [if_neg]
 have : boundsOk 1 (List.take 1 (some o :: R)) = false := by
  show (Nat.ble o.bound 1 && boundsOk 1 (R.take 0)) = false
  rw [Bool.and_eq_false_iff]
  left
  cases hb : Nat.ble o.bound 1 with
  | false => rfl
  | true => have := Nat.le_of_ble_eq_true hb;omega
 simp only [this,Bool.and_false,Bool.false_and,Bool.false_eq_true,not_false_eq_true]
theorem size_len (s : ByteArray) : s.size = s.data.toList.length := by simp
def writeV (l : List ByteArray) : AV := if rowsB l then (if 30000 < (linesB 0 l).length then .tup [.v (.string ⟨#[]⟩),.v (.int .i64 9)] else .tup [.v (.string ⟨(linesB 0 l).toArray⟩),.v (.int .i64 0)]) else .tup [.v (.string ⟨#[]⟩),.v (.int .i64 110)]
theorem ans13 {e : Exts} (he : Quiet e) (l : List ByteArray) (hf : FitsR l) (x : AV) (hx : SlOf 1 (strs l) x) : Ans (Cx e) 7 [x] (writeV l) := by
 have c39 := fun me d H => call39 he l hf x hx me d H
 have hlx := hx.len
 rw [strs_len] at hlx
 unfold writeV Ans
 rw [fn_step (fn_7 e) (show Try.f7.body = some _ from rfl)]
 cases hrows : rowsB l with
 | false =>
  rw [hrows] at c39
  simp only [Bool.false_eq_true,if_false] at c39 ⊢
  simp -implicitDefEqProofs only [Try.f7,go_sem,↓reduceIte,Int.reduceEq,Int.reduceLT,Int.reduceLE,List.reduceReplicate,intA,setT_nil,setT_cons,hx.cells,hx.flat,hx.bound,c39,decide_false,Bool.not_false,↓boolP_bool,↓iteB_true,↓iteB_false]
  exact frz2 _ _ _
 | true =>
  rw [hrows] at c39
  simp only [if_true] at c39 ⊢
  obtain ⟨hl200,hall⟩ := rows_of hrows
  simp -implicitDefEqProofs only [Try.f7,go_sem,↓reduceIte,Int.reduceEq,Int.reduceLT,Int.reduceLE,List.reduceReplicate,intA,setT_nil,setT_cons,hx.cells,hx.flat,hx.bound,hlx,c39,decide_true,Bool.not_true,↓boolP_bool,↓iteB_true,↓iteB_false]
  have hlen : ∀ k ≤ l.length,(linesB 0 (l.take k)).length ≤ 40000 := fun k hk => by
   have := linesB_len (l.take k) 0 fun r hr => (hall r (List.mem_of_mem_take hr)).2.1
   rw [List.length_take] at this;omega
  refine Lp_ruleQ (P := fun μ a H => ∃ j,j + μ = l.length ∧ a = ⟨28,[(0,x),(2,.v (.string ⟨#[]⟩)),(3,.v (.int .i64 0)),(4,.v (.int .i64 0)),(10,.v (.bool false)),(5,.ptr 0 0 0),(13,intA l.length),(14,intA (j : Nat))],[]⟩ ∧ H = hB l j) ?_ l.length _ _ ⟨0,by omega,rfl,rfl⟩
  rintro Q KK hQ hKK μ _ _ ⟨j,hj,rfl,rfl⟩
  cases μ with
  | zero =>
   obtain rfl : j = l.length := by omega
   have hlt : ¬ (l.length : Int) < (l.length : Int) := by omega
   have htk : l.take l.length = l := List.take_length
   have h40 := hlen l.length (Nat.le_refl _)
   rw [htk] at h40
   obtain ⟨objs,hH⟩ : ∃ o,hB l l.length = ⟨o,0⟩ := by cases l.length <;> exact ⟨_,rfl⟩
   rw [hH]
   simp -implicitDefEqProofs only [go_sem,↓reduceIte,Int.reduceEq,Int.reduceLT,Int.reduceLE,List.reduceReplicate,intA,setT_nil,setT_cons,hlt,↓boolP_bool,↓iteB_true,↓iteB_false]
   rw [← hH]
   refine hKK _ _ _ ?_
   rcases hl0 : l with _ | ⟨r0,l0⟩
   ·have e42 := fun me d => call42N he (me := me) (d := d)
    have e43 := fun me d => call43N he (me := me) (d := d)
    unfold bldN at e42 e43
    simp -implicitDefEqProofs only [hB,bldN,List.length_nil,go_sem,↓reduceIte,Int.reduceEq,Int.reduceLT,Int.reduceLE,List.reduceReplicate,intA,setT_nil,setT_cons,e42,e43,↓boolP_bool,↓iteB_true,↓iteB_false]
    exact frz2 _ _ _
   ·rw [← hl0]
    have h1 : l.length = l0.length + 1 := by rw [hl0];rfl
    have hb : hB l l.length = bld l0.length (linesB 0 l).length (linesB 0 l) := by
     rw [h1]
     show bld l0.length (linesB 0 (l.take (l0.length + 1))).length (linesB 0 (l.take (l0.length + 1))) = _
     rw [← h1,htk]
    have hpos : 0 < (linesB 0 l).length := by
     rw [hl0]
     show 0 < ((lineB r0 0).data.toList ++ linesB 1 l0).length
     have h3 : (lineB r0 0).data.toList.length = r0.size + 4 := by rw [← lineB_size r0 0];simp
     rw [List.length_append,h3];omega
    rw [hb]
    have e42 := fun me d => call42 he l0.length (linesB 0 l).length (linesB 0 l) (me := me) (d := d)
    have e43 := fun me d => call43 he l0.length (linesB 0 l) hpos (by omega) (me := me) (d := d)
    unfold bld at e42 e43
    by_cases hbig : ((linesB 0 l).length : Int) > 30000
    ·have hbig2 : 30000 < (linesB 0 l).length := by omega
     rw [if_pos hbig2]
     simp -implicitDefEqProofs only [bld,go_sem,↓reduceIte,Int.reduceEq,Int.reduceLT,Int.reduceLE,List.reduceReplicate,intA,setT_nil,setT_cons,e42,hbig,decide_true,↓boolP_bool,↓iteB_true,↓iteB_false]
     exact frz2 _ _ _
    ·have hbig2 : ¬ 30000 < (linesB 0 l).length := by omega
     rw [if_neg hbig2]
     simp -implicitDefEqProofs only [bld,go_sem,↓reduceIte,Int.reduceEq,Int.reduceLT,Int.reduceLE,List.reduceReplicate,intA,setT_nil,setT_cons,e42,e43,hbig,decide_false,↓boolP_bool,↓iteB_true,↓iteB_false]
     exact frz2 _ _ _
  | succ μ =>
   obtain ⟨r,hr⟩ := at_lt l j (by omega)
   have hlt : (j : Int) < (l.length : Int) := by omega
   have hix := hx.idx (strs_get hr)
   have hw := wrap_succ j (by omega)
   obtain ⟨hr1,hr2, -⟩ := hall r (List.mem_of_getElem? hr)
   have c41 := fun me d H => call41 he r (by omega) j (by omega) me d H
   have hls := lineB_size r j
   have htk := linesB_take l j r hr
   have hlj := hlen j (by omega)
   cases j with
   | zero =>
    have e40 := fun me d => call40N he (lineB r 0) (by omega) (by omega) me d
    unfold bldN bld at e40
    simp -implicitDefEqProofs only [hB,bldN,go_sem,↓reduceIte,Int.reduceEq,Int.reduceLT,Int.reduceLE,List.reduceReplicate,intA,setT_nil,setT_cons,hlt,hix,hw,hx.cells,hx.flat,hx.bound,c41,e40,↓boolP_bool,↓iteB_true,↓iteB_false]
    rw [trim_grown (show 1 < AObj.bound (.cells 0 2 65 1 false _) from Nat.lt_succ_self 1)]
    refine Again.mk' μ (by omega) (hQ _ _ _ ⟨0 + 1,by omega,rfl, ?_⟩)
    show _ = bld 0 (linesB 0 (l.take (0 + 1))).length (linesB 0 (l.take (0 + 1)))
    rw [htk,show linesB 0 (l.take 0) = [] from rfl,List.nil_append,← size_len]
    rfl
   | succ j =>
    have e40 := fun me d => call40 he j (linesB 0 (l.take (j + 1))) (lineB r (j + 1)) (by omega) (by omega) me d
    unfold bld at e40
    simp -implicitDefEqProofs only [hB,bld,go_sem,↓reduceIte,Int.reduceEq,Int.reduceLT,Int.reduceLE,List.reduceReplicate,intA,setT_nil,setT_cons,hlt,hix,hw,hx.cells,hx.flat,hx.bound,c41,e40,↓boolP_bool,↓iteB_true,↓iteB_false]
    refine Again.mk' μ (by omega) (hQ _ _ _ ⟨j + 1 + 1,by omega,rfl, ?_⟩)
    show _ = bld (j + 1) (linesB 0 (l.take (j + 1 + 1))).length (linesB 0 (l.take (j + 1 + 1)))
    rw [htk,List.length_append,← size_len]
    rfl
theorem call13 {e : Exts} (he : Quiet e) (l : List ByteArray) (hf : FitsR l) (x : AV) (hx : SlOf 1 (strs l) x) (me : FuncId) (d : Option Tmp) (H : Heap) : callA (Cx e) (lim (Cx e)) me 7 d [x] H = some (writeV l,H) :=
 (ans13 he l hf x hx).call (ext_7 he) (pure_7 _ _ _) (by simp only [boundL_cons,hx.bound,boundL_nil];rfl) H
end Go.Ev
namespace Go.Ev
open Go.Proofs
attribute [local irreducible] Wp WpS
theorem und9 : Try.prog.underlying 9 = some .string := by kernel_rfl
theorem slice_hi (H : Heap) (s : ByteArray) (k : Nat) (hk : k ≤ s.size) : sliceA Try.prog H 9 (.v (.string s)) none (some (.v (.int .i64 (k : Nat)))) none = some (.v (.string (s.extract 0 k))) := by
 unfold sliceA
 simp only [und9]
 have : boundA (some (.v (.int .i64 (k : Nat)))) s.size s.size = some k := by
  unfold boundA
  simp only [Int.toNat_natCast]
  rw [if_pos (by omega)]
 simp only [this]
 rfl
theorem slice_lo (H : Heap) (s : ByteArray) (k : Nat) (hk : k ≤ s.size) : sliceA Try.prog H 9 (.v (.string s)) (some (.v (.int .i64 (k : Nat)))) none none = some (.v (.string (s.extract k s.size))) := by
 unfold sliceA
 simp only [und9]
 have h1 : boundA (some (.v (.int .i64 (k : Nat)))) 0 s.size = some k := by
  unfold boundA
  simp only [Int.toNat_natCast]
  rw [if_pos (by omega)]
 have h2 : boundA none s.size s.size = some s.size := rfl
 simp only [h1,h2]
 rfl
theorem idxB_spec : ∀ (l : List UInt8) (j : Int),(idxB 10 j l = -1 ∧ ∀ b ∈ l,b.toNat ≠ 10) ∨ ∃ x b r,l = x ++ b :: r ∧ b.toNat = 10 ∧ idxB 10 j l = j + x.length ∧ ∀ b ∈ x,b.toNat ≠ 10
 | [],j => Or.inl ⟨rfl,fun _ h => nomatch h⟩
 | b :: l,j => by
  rw [idxB]
  by_cases h : b.toNat = 10
  ·refine Or.inr ⟨[],b,l,rfl,h, ?_,fun _ h => nomatch h⟩
   rw [h,if_pos (show Nat.beq 10 10 = true from rfl)];exact (Int.add_zero j).symm
  ·have h1 : Nat.beq b.toNat 10 = false := by
    cases hb : Nat.beq b.toNat 10
    ·rfl
    ·exact absurd (Nat.eq_of_beq_eq_true hb) h
   rw [h1]
   simp only [Bool.false_eq_true,if_false]
   rcases idxB_spec l (j + 1) with ⟨h2,h3⟩ | ⟨x,c,r,h2,h3,h4,h5⟩
   ·exact Or.inl ⟨h2,fun d hd => by rcases List.mem_cons.1 hd with rfl | hd;exact h;exact h3 d hd⟩
   ·refine Or.inr ⟨b :: x,c,r,by rw [h2];rfl,h3,by rw [h4];simp only [List.length_cons];omega,fun d hd => by rcases List.mem_cons.1 hd with rfl | hd;exact h;exact h5 d hd⟩
def nl (s : ByteArray) : Nat := (idxB 10 0 s.data.toList + 1).toNat
theorem nl_spec (s : ByteArray) : idxB 10 0 s.data.toList + 1 = ((nl s : Nat) : Int) ∧ nl s ≤ s.size := by
 unfold nl
 rw [size_len]
 rcases idxB_spec s.data.toList 0 with ⟨h, -⟩ | ⟨x,b,r,h1, -,h3, -⟩
 ·rw [h];exact ⟨rfl,Nat.zero_le _⟩
 ·rw [h3]
  have : s.data.toList.length = x.length + (r.length + 1) := by rw [h1];simp
  omega
theorem ans99 {e : Exts} (hx : e.x 63 = some idxStr) (s : ByteArray) : Ans (Cx e) 61 [.v (.string s),.v (.int .u8 10)] (.v (.int .i64 (idxB 10 0 s.data.toList))) := by
 have hc : ∀ me d H,callA (Cx e) (lim (Cx e)) me 63 d [.v (.string s),.v (.int .u8 10)] H = some (.v (.int .i64 (idxB 10 0 s.data.toList)),H) := fun me d H => ext_call (C := Cx e) (me := me) (show (Cx e).ext 63 = some idxStr from hx) (by simp [idxStr]) H
 unfold Ans
 rw [fn_step (fn_61 e) (show Try.f61.body = some _ from rfl)]
 simp -implicitDefEqProofs only [Try.f61,go_sem,↓reduceIte,Int.reduceEq,Int.reduceLT,Int.reduceLE,List.reduceReplicate,intA,setT_nil,setT_cons,hc,↓boolP_bool,↓iteB_true,↓iteB_false]
theorem ans85 {e : Exts} (he : Quiet e) (hx : e.x 63 = some idxStr) (s : ByteArray) : Ans (Cx e) 59 [.v (.string s),.v (.int .u8 10)] (.v (.int .i64 (idxB 10 0 s.data.toList))) := by
 have hc := fun me d H => (ans99 hx s).call (me := me) (d := d) (ext_61 he) (pure_61 _ _ _) rfl H
 unfold Ans
 rw [fn_step (fn_59 e) (show Try.f59.body = some _ from rfl)]
 simp -implicitDefEqProofs only [Try.f59,go_sem,↓reduceIte,Int.reduceEq,Int.reduceLT,Int.reduceLE,List.reduceReplicate,intA,setT_nil,setT_cons,hc,↓boolP_bool,↓iteB_true,↓iteB_false]
def lineOf (s : ByteArray) : ByteArray := s.extract 0 (nl s)
def rowOf (s : ByteArray) : ByteArray := (lineOf s).extract 0 ((lineOf s).size - 4)
def firstR (s : ByteArray) (i : Nat) : Option ByteArray := if rowB (rowOf s) && decide (lineOf s = lineB (rowOf s) i) then some (rowOf s) else none
def firstA (s : ByteArray) (i : Nat) : AV := match firstR s i with | some r => .tup [.v (.string r),.v (.bool true)] | none => .tup [.v (.string ⟨#[]⟩),.v (.bool false)]
theorem lineOf_size (s : ByteArray) : (lineOf s).size = nl s := by
 unfold lineOf
 rw [ByteArray.size_extract,Nat.min_eq_left (nl_spec s).2];rfl
theorem rows_one (r : ByteArray) : rowsB [r] = rowB r := by
 unfold rowsB
 simp
theorem ans69 {e : Exts} (he : Quiet e) (hx : e.x 63 = some idxStr) (s : ByteArray) (hs : s.size < 100000) (i : Nat) (hi : i < 1000) : Ans (Cx e) 51 [.v (.string s),.v (.int .i64 i)] (firstA s i) := by
 obtain ⟨hn1,hn2⟩ := nl_spec s
 have c85 := fun me d H => (ans85 he hx s).call (me := me) (d := d) (ext_59 he) (pure_59 _ _ _) rfl H
 have hw1 : IntKind.i64.wrap (idxB 10 0 s.data.toList + 1) = ((nl s : Nat) : Int) := by rw [hn1,wrap_in _ (by omega) (by omega)]
 have hls := lineOf_size s
 have hw2 : IntKind.i64.wrap ((((lineOf s).size : Nat) : Int) - 4) = ((lineOf s).size : Int) - 4 := wrap_in _ (by omega) (by omega)
 have hs1 := fun H => slice_hi H s (nl s) hn2
 have hs2 := fun H => slice_hi H (lineOf s) ((lineOf s).size - 4) (Nat.sub_le _ _)
 have hmax : minmaxA true (.v (.int .i64 0)) [.v (.int .i64 (((lineOf s).size : Int) - 4))] = some (.v (.int .i64 (((lineOf s).size - 4 : Nat) : Int))) := by
  show some (AV.v (.int .i64 (if ((lineOf s).size : Int) - 4 > 0 then ((lineOf s).size : Int) - 4 else 0))) = _
  congr 3
  split <;> omega
 have hrl : FitsR [rowOf s] := ⟨by simp,fun r hr => by
  simp only [List.mem_singleton] at hr
  subst hr
  have : (rowOf s).size ≤ (lineOf s).size := by unfold rowOf;rw [ByteArray.size_extract];omega
  omega⟩
 have c50 := fun me d H => call50 he [rowOf s] hrl (.vs 1 [.v (.string (rowOf s))] (some 1)) (Or.inr ⟨_,rfl⟩) me d H
 rw [rows_one] at c50
 unfold firstA firstR Ans
 rw [fn_step (fn_51 e) (show Try.f51.body = some _ from rfl)]
 simp only [← show lineOf s = s.extract 0 (nl s) from rfl] at hs1
 simp only [← show rowOf s = (lineOf s).extract 0 ((lineOf s).size - 4) from rfl] at hs2
 cases hb : rowB (rowOf s) with
 | false =>
  rw [hb] at c50
  simp only [Bool.false_and,Bool.false_eq_true,if_false]
  simp -implicitDefEqProofs only [Try.f51,go_sem,↓reduceIte,Int.reduceEq,Int.reduceLT,Int.reduceLE,List.reduceReplicate,intA,setT_nil,setT_cons,c85,hw1,hs1,hw2,hmax,hs2,c50,Bool.not_false,↓boolP_bool,↓iteB_true,↓iteB_false]
  exact frz2 _ _ _
 | true =>
  rw [hb] at c50
  have hrow : (rowOf s).size < 1000 := by
   unfold rowB at hb
   simp only [Bool.and_eq_true,decide_eq_true_iff] at hb
   omega
  have c41 := fun me d H => call41 he (rowOf s) hrow i hi me d H
  simp only [Bool.true_and]
  by_cases hq : lineOf s = lineB (rowOf s) i
  ·have hd : decide (lineOf s = lineB (rowOf s) i) = true := decide_eq_true hq
   rw [if_pos hd]
   simp -implicitDefEqProofs only [Try.f51,go_sem,↓reduceIte,Int.reduceEq,Int.reduceLT,Int.reduceLE,List.reduceReplicate,intA,setT_nil,setT_cons,c85,hw1,hs1,hw2,hmax,hs2,c50,c41,hd,Bool.not_true,↓boolP_bool,↓iteB_true,↓iteB_false]
   exact frz2 _ _ _
  ·have hd : decide (lineOf s = lineB (rowOf s) i) = false := decide_eq_false hq
   rw [if_neg (by rw [hd];exact Bool.false_ne_true)]
   simp -implicitDefEqProofs only [Try.f51,go_sem,↓reduceIte,Int.reduceEq,Int.reduceLT,Int.reduceLE,List.reduceReplicate,intA,setT_nil,setT_cons,c85,hw1,hs1,hw2,hmax,hs2,c50,c41,hd,Bool.not_true,Bool.not_false,↓boolP_bool,↓iteB_true,↓iteB_false]
   exact frz2 _ _ _
theorem call69 {e : Exts} (he : Quiet e) (hx : e.x 63 = some idxStr) (s : ByteArray) (hs : s.size < 100000) (i : Nat) (hi : i < 1000) (me : FuncId) (d : Option Tmp) (H : Heap) : callA (Cx e) (lim (Cx e)) me 51 d [.v (.string s),.v (.int .i64 i)] H = some (firstA s i,H) :=
 (ans69 he hx s hs i hi).call (ext_51 he) (pure_51 _ _ _) rfl H
end Go.Ev
namespace Go.Ev
open Go.Proofs
attribute [local irreducible] Wp WpS
theorem settle_eqN {H : Heap} {N : Nat} (h : H.size = N) : settleH N H = H := by rw [← h];exact settle_same H
theorem trim_eqN {H : Heap} {N : Nat} (h : H.size = N) (vs : List AV) (ms : List Nat) : H.trim N vs ms = H := by rw [← h];exact trim_size H vs ms
theorem fn_ex {C : Cfg} {f : FuncId} {args : List AV} {H : Heap} {K : PostO} (h : Fn' C f args H K) : ∃ v H',lim C (.call f args H) = some (.ret v H') ∧ K v H' := by
 unfold Fn' at h
 rw [bindO_iff] at h
 obtain ⟨o,h1,h2⟩ := h
 cases o with
 | ret v H' => exact ⟨v,H',h1,h2⟩
 | go => exact h2.elim
theorem runIt_cons {S : Type} (stp : S → List AV → Bool × S) (x : List AV) (r : List (List AV)) (s : S) : runIt stp (x :: r) s = if (stp s x).1 then runIt stp r (stp s x).2 else (false,(stp s x).2) := rfl
def consR (o : Option ByteArray) (k : ByteArray → List ByteArray) : List ByteArray := match o with | none => [] | some r => r :: k r
theorem consR_none (k : ByteArray → List ByteArray) : consR none k = [] := rfl
theorem consR_some (r : ByteArray) (k : ByteArray → List ByteArray) : consR (some r) k = r :: k r := rfl
def readR (s : ByteArray) : Nat → Nat → Nat → List ByteArray
 | 0,_,_ => []
 | m + 1,i,en => consR (firstR (s.extract en s.size) i) fun r => readR s m (i + 1) (en + (r.size + 4))
attribute [local irreducible] firstR
theorem readR_zero (s : ByteArray) (i en : Nat) : readR s 0 i en = [] := rfl
theorem readR_succ (s : ByteArray) (m i en : Nat) : readR s (m + 1) i en = consR (firstR (s.extract en s.size) i) fun r => readR s m (i + 1) (en + (r.size + 4)) := rfl
attribute [irreducible] readR
def itemsR : Nat → List ByteArray → List (List AV)
 | _,[] => []
 | en,r :: l => [intA (en + (r.size + 4) : Nat),.v (.string r)] :: itemsR (en + (r.size + 4)) l
theorem itemsR_cons (en : Nat) (r : ByteArray) (l : List ByteArray) : itemsR en (r :: l) = [intA (en + (r.size + 4) : Nat),.v (.string r)] :: itemsR (en + (r.size + 4)) l := rfl
theorem firstR_some {s : ByteArray} {i : Nat} {r : ByteArray} (h : firstR s i = some r) : r = rowOf s ∧ rowB r = true ∧ lineOf s = lineB r i ∧ r.size + 4 ≤ s.size := by
 unfold firstR at h
 by_cases hc : (rowB (rowOf s) && decide (lineOf s = lineB (rowOf s) i)) = true
 ·rw [if_pos hc] at h
  have hr : rowOf s = r := Option.some.inj h
  rw [Bool.and_eq_true,decide_eq_true_iff] at hc
  rw [hr] at hc
  refine ⟨hr.symm,hc.1,hc.2, ?_⟩
  have h1 := lineB_size r i
  have h2 := lineOf_size s
  have h3 := (nl_spec s).2
  rw [hc.2] at h2
  omega
 ·rw [if_neg hc] at h;exact nomatch h
theorem ext_size (s : ByteArray) (a : Nat) (_h : a ≤ s.size) : (s.extract a s.size).size = s.size - a := by
 rw [ByteArray.size_extract,Nat.min_self]
theorem yields2_68 {e : Exts} (he : Quiet e) (hx : e.x 63 = some idxStr) (t : ByteArray) (ht : t.size < 100000) : Yields2 (Cx e) 50 [.ro (.agg [.v (.string t)]) 0] (itemsR 0 (readR t 200 0 0)) := by
 intro l S R stp ok live n0 k hsrc s m H hok hlv hR hH hlk hsz
 have key : Fn' (Cx e) 50 [.yld l,.ro (.agg [.v (.string t)]) 0] H fun v H' => v = .tup [] ∧ ∃ m',R (runIt stp (itemsR 0 (readR t 200 0 0)) s).2 m' ∧ Has m' H' ∧ Moves m H m' H' := by
  rw [fn_step (fn_50 e) (show Try.f50.body = some _ from rfl)]
  generalize hN : H.size = N at *
  simp -implicitDefEqProofs only [Try.f50,go_sem,↓reduceIte,Int.reduceEq,Int.reduceLT,Int.reduceLE,List.reduceReplicate,intA,setT_nil,setT_cons,hN,settle_eqN hN,↓boolP_bool,↓iteB_true,↓iteB_false]
  refine Lp_rule (P := fun μ a H1 => ∃ j en s1 m1,j + μ = 200 ∧ en ≤ t.size ∧ a = ⟨32,[(0,.yld l),(1,.ro (.agg [.v (.string t)]) 0),(3,intA (en : Nat)),(7,intA (j : Nat))],[]⟩ ∧ live s1 ∧ R s1 m1 ∧ Has m1 H1 ∧ Moves m H m1 H1 ∧ runIt stp (itemsR 0 (readR t 200 0 0)) s = runIt stp (itemsR en (readR t μ j en)) s1 ∧ okRun stp ok (itemsR en (readR t μ j en)) s1) ?_ 200 _ _ ⟨0,0,s,m,by omega,by omega,rfl,hlv,hR,hH,Moves.refl _ _,rfl,hok⟩
  rintro μ _ H1 ⟨j,en,s1,m1,hj,hen,rfl,hlv1,hR1,hH1,hmv1,hrun1,hok1⟩
  have hlk1 : H1.lock = k := hmv1.lock.trans hlk
  have hsz1 : n0 ≤ H1.size := by have := hmv1.size;omega
  generalize hN1 : H1.size = N1 at *
  cases μ with
  | zero =>
   obtain rfl : j = 200 := by omega
   have hlt : ¬ ((200 : Nat) : Int) < 200 := by omega
   simp -implicitDefEqProofs only [go_sem,↓reduceIte,Int.reduceEq,Int.reduceLT,Int.reduceLE,List.reduceReplicate,intA,setT_nil,setT_cons,hlt,hN1,settle_eqN hN1,trim_eqN hN1,↓boolP_bool,↓iteB_true,↓iteB_false]
   rw [hrun1,readR_zero]
   exact ⟨rfl,m1,hR1,hH1,hmv1⟩
  | succ μ =>
   have hlt : (j : Int) < 200 := by omega
   have hw1 := wrap_succ j (by omega)
   have hsl := fun H => slice_lo H t en hen
   have hxs := ext_size t en hen
   have c69 := fun me d H => call69 he hx (t.extract en t.size) (by omega) j (by omega) me d H
   have hkN : H1.lock ≤ N1 := by have := hsrc.klock;omega
   rw [readR_succ t μ j en] at hrun1 hok1
   unfold firstA at c69
   cases hf : firstR (t.extract en t.size) j with
   | none =>
    simp only [hf,consR_none] at hrun1 hok1
    simp only [hf] at c69
    simp -implicitDefEqProofs only [go_sem,↓reduceIte,Int.reduceEq,Int.reduceLT,Int.reduceLE,List.reduceReplicate,intA,setT_nil,setT_cons,hlt,hw1,hsl,c69,hN1,settle_eqN hN1,trim_eqN hN1,Bool.not_false,↓boolP_bool,↓iteB_true,↓iteB_false]
    rw [hrun1]
    exact ⟨rfl,m1,hR1,hH1,hmv1⟩
   | some r =>
    simp only [hf,consR_some] at hrun1 hok1
    simp only [hf] at c69
    obtain ⟨-,hrb,hline,hle⟩ := firstR_some hf
    have hr1000 : r.size < 1000 := by
     unfold rowB at hrb
     simp only [Bool.and_eq_true,decide_eq_true_iff] at hrb
     omega
    have c41 := fun me d H => call41 he r hr1000 j (by omega) me d H
    have hls := lineB_size r j
    have hw2 : IntKind.i64.wrap ((en : Int) + ((lineB r j).size : Int)) = ((en + (r.size + 4) : Nat) : Int) := by rw [hls,← Int.natCast_add,wrap_in _ (by omega) (by omega)]
    rw [itemsR_cons] at hrun1 hok1
    rw [runIt_cons] at hrun1
    obtain ⟨H3,H4,m4,hr3,hr4,hR4,hH4,hmv4⟩ := hsrc.round' s1 m1 [intA (en + (r.size + 4) : Nat),.v (.string r)] H1 hlv1 hok1.1 hR1 hH1 hlk1 (by omega)
    have hst := hsrc.step s1 [intA (en + (r.size + 4) : Nat),.v (.string r)] hlv1 hok1.1
    rw [hN1] at hr4
    cases hb2 : (stp s1 [intA (en + (r.size + 4) : Nat),.v (.string r)]).1
    ·rw [hb2] at hr3 hrun1
     simp only [intA] at hr3
     simp -implicitDefEqProofs only [go_sem,↓reduceIte,Int.reduceEq,Int.reduceLT,Int.reduceLE,List.reduceReplicate,intA,setT_nil,setT_cons,hlt,hw1,hsl,c69,c41,hw2,hN1,settle_eqN hN1,trim_eqN hN1,hr3,hr4,Bool.not_false,Bool.not_true,↓boolP_bool,↓iteB_true,↓iteB_false]
     simp only [Bool.false_eq_true,if_false] at hrun1
     rw [hrun1]
     exact ⟨rfl,m4,hR4,hH4,hmv1.trans hmv4⟩
    ·rw [hb2] at hr3 hrun1
     simp only [intA] at hr3
     simp -implicitDefEqProofs only [go_sem,↓reduceIte,Int.reduceEq,Int.reduceLT,Int.reduceLE,List.reduceReplicate,intA,setT_nil,setT_cons,hlt,hw1,hsl,c69,c41,hw2,hN1,settle_eqN hN1,trim_eqN hN1,hr3,hr4,Bool.not_false,Bool.not_true,↓boolP_bool,↓iteB_true,↓iteB_false]
     simp only [if_true] at hrun1
     refine ⟨μ,by omega,j + 1,en + (r.size + 4),_,m4,by omega,by omega,rfl,hst hb2,hR4, ?_, ?_,hrun1,hok1.2 hb2⟩
     ·exact hH4.trim (hsrc.anch _ _ hR4) (by omega) _ _
     ·exact hmv1.trans (hmv4.trim _ _ hN1.symm)
 obtain ⟨v,H',h1,rfl,m',h2,h3,h4⟩ := fn_ex key
 exact ⟨H',m',h1,h2,h3,h4⟩
end Go.Ev
namespace Go.Ev
open Go.Proofs
attribute [local irreducible] Wp WpS
theorem get_row {H : Heap} {b v m e sz : Nat} {g : Bool} {cs : List AV} (h : H.get b = some (.cells v m e sz g cs)) : H.row b v = some (m,e,sz,g,cs) := by
 unfold Heap.row;rw [h];simp
theorem store1 {H : Heap} {b m e : Nat} {y x : AV} (hg : H.get b = some (.cells 0 m e 1 false [y])) (hl : H.lock ≤ b) (hx : x.flat = true) : storeCells H b 0 0 [x] = some (H.put b (.cells 0 (Nat.max m (bound x)) e 1 false [x])) := by
 unfold storeCells
 rw [get_row hg]
 have hb : boundL [x] = bound x := Nat.max_zero _
 simp [hl,hx,hb,splice]
structure St14 where
 Z : List ByteArray
 en : Nat
def slR (Z : List ByteArray) (b : Nat) : AV := match Z with | [] => .v (.slice none 0 0) | _ :: Z => .sl b Z.length 0 (Z.length + 1) none
def R14 (s : St14) (m : Fm) : Prop :=
 (s.Z = [] ∧ m = [(0,.cells 0 0 22 1 false [.v (.slice none 0 0)]),(1,.cells 0 0 3 1 false [intA (s.en : Nat)])]) ∨
 ∃ b z Z,4 ≤ b ∧ s.Z = z :: Z ∧ m = [(0,.cells 0 (b + 1) 22 1 false [.sl b Z.length 0 (Z.length + 1) none]),(1,.cells 0 0 3 1 false [intA (s.en : Nat)]),(b,.cells Z.length 0 9 1 true (strs (z :: Z)))]
def stp14 (s : St14) (x : List AV) : AExit × St14 :=
 match x with
 | [.v (.int _ n),.v (.string r)] => (.normal,⟨s.Z ++ [r],n.toNat⟩)
 | _ => (.normal,s)
def ok14 (s : St14) (x : List AV) : Prop := ∃ (n : Nat) (r : ByteArray),x = [intA n,.v (.string r)] ∧ s.Z.length < 1000
theorem okRun14 : ∀ (l : List ByteArray) (en : Nat) (s : St14),s.Z.length + l.length ≤ 1000 → okRun (fun s x => (isGo (stp14 s x).1,(stp14 s x).2)) ok14 (itemsR en l) s
 | [],_,_,_ => trivial
 | r :: l,en,s,h => by
  rw [List.length_cons] at h
  exact ⟨⟨_,r,rfl,by omega⟩,fun _ => okRun14 l _ ⟨s.Z ++ [r],_⟩ (by simp;omega)⟩
def totR : List ByteArray → Nat
 | [] => 0
 | r :: l => r.size + 4 + totR l
theorem fold14 : ∀ (l : List ByteArray) (en : Nat) (s : St14),s.en = en → foldE stp14 (itemsR en l) s = (.normal,⟨s.Z ++ l,en + totR l⟩)
 | [],en,s,h => by
  subst h
  show (AExit.normal,s) = _
  simp [totR]
 | r :: l,en,s,h => by
  show foldE stp14 ([intA (en + (r.size + 4) : Nat),.v (.string r)] :: itemsR (en + (r.size + 4)) l) s = _
  rw [foldE_go rfl]
  show foldE stp14 (itemsR (en + (r.size + 4)) l) ⟨s.Z ++ [r],((en + (r.size + 4) : Nat) : Int).toNat⟩ = _
  rw [Int.toNat_natCast,fold14 l (en + (r.size + 4)) ⟨s.Z ++ [r],en + (r.size + 4)⟩ rfl]
  simp [totR];omega
theorem settle_live {H : Heap} {n b : Nat} {o : AObj} (hb : n ≤ b) (h : H.get b = some o) : settleH n H = H := by
 unfold settleH
 rw [if_neg]
 intro hall
 have hx : H.objs[b]? = some (some o) := by
  unfold Heap.get at h
  cases hq : H.objs[b]? with
  | none => rw [hq] at h;exact nomatch h
  | some y => rw [hq] at h;cases y with
   | none => exact nomatch h
   | some z => rw [show z = o from Option.some.inj h]
 have hm : some o ∈ H.objs.drop n := by
  refine List.mem_of_getElem? (i := b - n) ?_
  rw [List.getElem?_drop,show n + (b - n) = b by omega,hx]
 have := List.all_eq_true.1 hall _ hm
 exact nomatch this
theorem fin14 {X W : Heap} {L' : ALoop} {m m' : Fm} {N : Nat} (hXN : X.size = N) (hk : W.lock = X.lock) (hWN : N ≤ W.size) (hsame : ∀ b,b < N → b ≠ 3 → ¬ keyIn b m → W.get b = X.get b) (hkeys : ∀ p ∈ m',keyIn p.1 m ∨ N ≤ p.1) : Moves ((3,.loop L') :: m) X ((3,.loop L') :: m') W := by
 refine ⟨hk,by omega,fun b hb hnb => hsame b (by omega) (fun e => hnb ⟨(3,.loop L'),List.mem_cons_self ..,e.symm⟩) (fun ⟨p,hp,he⟩ => hnb ⟨p,List.mem_cons_of_mem _ hp,he⟩),fun p hp => ?_⟩
 rcases List.mem_cons.1 hp with rfl | hp
 ·exact Or.inl ⟨(3,.loop L'),List.mem_cons_self ..,rfl⟩
 ·rcases hkeys p hp with ⟨q,hq,he⟩ | h
  ·exact Or.inl ⟨q,List.mem_cons_of_mem _ hq,he⟩
  ·exact Or.inr (by omega)
theorem storeLoK {X : Heap} {b v k m e sz : Nat} {g : Bool} {cs : List AV} {x : AV} (hb : b < X.size) (hlk : X.lock ≤ b) (hr : X.row b v = some (m,e,sz,g,cs)) (hx : k + 1 ≤ cs.length) (hf : x.flat = true) (E : List (Option AObj)) :
  storeCells (X.plus E) b v k [x] = some ((X.put b (.cells v (Nat.max m (bound x)) e sz g (splice k [x] cs))).plus E) := by
 unfold storeCells
 rw [rowLo hb,hr]
 have hl : (X.plus E).lock ≤ b := hlk
 have hbl : boundL [x] = bound x := by simp only [boundL];exact Nat.max_zero _
 simp only [hl,hbl,List.length_singleton,hx,List.all_cons,List.all_nil,hf,Bool.and_true,and_self,if_true,putLo hb]
theorem ltB_t {a b : Nat} (h : a < b) : ltB a b = true := by unfold ltB;simp;omega
theorem kill2 {H : Heap} (h : H.get 2 = some .dfr) (hk : H.lock = 0) : killAll [2] H = some (H.put 2 .dead) := by
 simp only [killAll,h]
 rw [if_pos (by omega)]
theorem chunk1 : ∀ l : List AV,chunk 1 l.length l = l
 | [] => rfl
 | x :: r => by
  show (if 1 = 1 then (x :: r).headD undefA else _) :: chunk 1 r.length ((x :: r).drop 1) = _
  rw [if_pos rfl]
  show x :: chunk 1 r.length r = _
  rw [chunk1 r]
theorem frzSl {H : Heap} (hk : H.lock = 0) {b n e : Nat} {cs : List AV} (hr : H.row b n = some (0,e,1,true,cs)) (hl : cs.length = n + 1) (k : Nat) : freezeV H (k + 1) (.sl b n 0 (n + 1) none) = some (.vs 1 cs none) := by
 unfold freezeV
 simp only [hr]
 rw [if_neg (by omega),if_pos ⟨by omega,by omega⟩,if_pos trivial,List.drop_zero,List.take_of_length_le (by omega),← hl,chunk1]
theorem frz14 {H : Heap} (hk : H.lock = 0) {b n e : Nat} {cs : List AV} (hr : H.row b n = some (0,e,1,true,cs)) (hl : cs.length = n + 1) (x y : Value) : freezeV H 1000000 (.tup [.sl b n 0 (n + 1) none,.v x,.v y]) = some (.tup [.vs 1 cs none,.v x,.v y]) := by
 have h1 := frzSl hk hr hl 999997
 have : freezeL H 999999 [.sl b n 0 (n + 1) none,.v x,.v y] = some [.vs 1 cs none,.v x,.v y] := by
  simp only [freezeL,h1]
  rfl
 show (freezeL H 999999 _).map AV.tup = _
 rw [this];rfl
theorem lock_eta {H : Heap} (h : H.lock = 0) : ({ H with lock := 0 } : Heap) = H := by
 cases H;simp only at h;subst h;rfl
theorem frz3 (H : Heap) (x y z : Value) : freezeV H 1000000 (.tup [.v x,.v y,.v z]) = some (.tup [.v x,.v y,.v z]) := rfl
theorem itemsR_len : ∀ (l : List ByteArray) (en : Nat),∀ x ∈ itemsR en l,x.length = 2
 | r :: l,en,x,h => by
  rw [itemsR_cons] at h
  rcases List.mem_cons.1 h with rfl | h
  ·rfl
  ·exact itemsR_len l _ x h
theorem R14_anch (s : St14) (m : Fm) (h : R14 s m) : Anch 2 m := by
 rintro n hn ⟨p,hp,hpn⟩
 rcases h with ⟨-,rfl⟩ | ⟨b,z,Z,hb, -,rfl⟩
 ·simp only [List.mem_cons,List.not_mem_nil,or_false] at hp
  rcases hp with rfl | rfl <;> simp at hpn <;> omega
 ·simp only [List.mem_cons,List.not_mem_nil,or_false] at hp
  rcases hp with rfl | rfl | rfl
  ·simp at hpn;omega
  ·simp at hpn;omega
  ·simp only at hpn
   exact ⟨_,List.mem_cons_self ..,by simp;omega,by simp only [AObj.bound];omega⟩
theorem R14_free (s : St14) (m : Fm) (h : R14 s m) : ¬ keyIn 2 m ∧ ¬ keyIn 3 m := by
 constructor
 all_goals
  rintro ⟨p,hp,hpn⟩
  rcases h with ⟨-,rfl⟩ | ⟨b,z,Z,hb, -,rfl⟩
  ·simp only [List.mem_cons,List.not_mem_nil,or_false] at hp
   rcases hp with rfl | rfl <;> simp at hpn
  ·simp only [List.mem_cons,List.not_mem_nil,or_false] at hp
   rcases hp with rfl | rfl | rfl <;> simp at hpn <;> omega
theorem ans44 {e : Exts} (t : ByteArray) : Ans (Cx e) 33 [.v (.string t)] (.fn (.func 50) [] [.ro (.agg [.v (.string t)]) 0]) := by
 unfold Ans
 rw [fn_step (fn_33 e) (show Try.f33.body = some _ from rfl)]
 simp -implicitDefEqProofs only [Try.f33,go_sem,↓reduceIte,Int.reduceEq,Int.reduceLT,Int.reduceLE,List.reduceReplicate,intA,setT_nil,setT_cons,↓boolP_bool,↓iteB_true,↓iteB_false]
 rfl
theorem call44 {e : Exts} (he : Quiet e) (t : ByteArray) (me : FuncId) (d : Option Tmp) (H : Heap) : callA (Cx e) (lim (Cx e)) me 33 d [.v (.string t)] H = some (.fn (.func 50) [] [.ro (.agg [.v (.string t)]) 0],H) :=
 (ans44 t).call (ext_33 he) (pure_33 _ _ _) rfl H
def readV (t : ByteArray) : AV := if 30000 < t.size then .tup [.v (.slice none 0 0),.v (.int .i64 0),.v (.int .i64 9)] else
 .tup [match readR t 200 0 0 with | [] => .v (.slice none 0 0) | z :: Z => .vs 1 (strs (z :: Z)) none,.v (.int .i64 (totR (readR t 200 0 0))),.v (.int .i64 0)]
theorem readR_len (t : ByteArray) : ∀ (m i en : Nat),(readR t m i en).length ≤ m
 | 0,_,_ => by rw [readR_zero];exact Nat.le_refl _
 | m + 1,i,en => by
  rw [readR_succ]
  cases firstR (t.extract en t.size) i with
  | none => exact Nat.zero_le _
  | some r => have := readR_len t m (i + 1) (en + (r.size + 4));rw [consR_some,List.length_cons];omega
theorem ans14 {e : Exts} (he : Quiet e) (hx : e.x 63 = some idxStr) (t : ByteArray) (ht : t.size < 100000) : Ans (Cx e) 9 [.v (.string t)] (readV t) := by
 have c44 := fun me d H => call44 he t me d H
 unfold readV Ans
 rw [fn_step (fn_9 e) (show Try.f9.body = some _ from rfl)]
 by_cases hbig : 30000 < t.size
 ·have hi : (t.size : Int) > 30000 := by omega
  rw [if_pos hbig]
  simp -implicitDefEqProofs only [Try.f9,go_sem,↓reduceIte,Int.reduceEq,Int.reduceLT,Int.reduceLE,List.reduceReplicate,intA,setT_nil,setT_cons,hi,decide_true,↓boolP_bool,↓iteB_true,↓iteB_false]
  rfl
 ·have hi : ¬ (t.size : Int) > 30000 := by omega
  rw [if_neg hbig]
  simp -implicitDefEqProofs only [Try.f9,go_sem,↓reduceIte,Int.reduceEq,Int.reduceLT,Int.reduceLE,List.reduceReplicate,intA,setT_nil,setT_cons,hi,c44,decide_false,↓boolP_bool,↓iteB_true,↓iteB_false]
  refine wp_range2 (yields2_68 he hx t ht) rfl R14 stp14 (fun _ => True) ok14 (n0 := 2) (k := 0) (Nat.le_refl _) (Nat.zero_le _) ?_ (fun s m h => R14_anch s m h) (fun s m h => R14_free s m h) (fun _ _ _ _ _ => trivial) ?_ ⟨[],0⟩ [(0,.cells 0 0 22 1 false [.v (.slice none 0 0)]),(1,.cells 0 0 3 1 false [intA (0 : Nat)])] (okRun14 _ _ _ (by have := readR_len t 200 0 0;simp;omega)) trivial (Or.inl ⟨rfl,rfl⟩) ?_ rfl ?_
  ·intro x hx
   exact itemsR_len _ _ x hx
  ·intro L L' s m x X hL hs hx hxl hR hH hd0 hl1 hlk hsz
   obtain ⟨n,r,rfl,hZ⟩ := hx
   have hsz : 4 ≤ X.size := hsz
   have hl1 : loopObj X 3 = some L := hl1
   simp -implicitDefEqProofs only [go_sem,↓reduceIte,Int.reduceEq,Int.reduceLT,Int.reduceLE,List.reduceReplicate,intA,setT_nil,setT_cons,↓boolP_bool,↓iteB_true,↓iteB_false]
   refine ⟨rfl,hl1, ?_⟩
   have hYH := hH.put (.loop L') (b := 3) (by omega) (R14_free _ _ hR).2
   have hYN : (X.put 3 (.loop L')).size = X.size := put_sizeI _ (by omega)
   have hYk : (X.put 3 (.loop L')).lock = 0 := hlk
   have hY3 : (X.put 3 (.loop L')).get 3 = some (.loop L') := put_get_eq _ (by omega)
   have hYX : ∀ b,b ≠ 3 → (X.put 3 (.loop L')).get b = X.get b := fun b hb => put_get_ne _ (by omega) hb
   show Wp _ _ _ _ _ (X.put 3 (.loop L')) _
   generalize X.put 3 (.loop L') = Y at *
   generalize hN : X.size = N at *
   have hstp : stp14 s [.v (.int .i64 n),.v (.string r)] = (.normal,⟨s.Z ++ [r],n⟩) := by
    unfold stp14;simp only [Int.toNat_natCast]
   rw [hstp]
   rcases hR with ⟨hZ0,rfl⟩ | ⟨b,z,Z,hb,hZe,rfl⟩
   ·have g0 : Y.get 0 = some (.cells 0 0 22 1 false [.v (.slice none 0 0)]) := hYH (0,_) (by simp)
    have g1 : Y.get 1 = some (.cells 0 0 3 1 false [intA (s.en : Nat)]) := hYH (1,_) (by simp)
    have hf : fitsA 16 1 = true := by decide
    obtain ⟨W1,hW1⟩ : ∃ W,Y.put N (.cells 0 0 9 1 true [.v (.string r)]) = W := ⟨_,rfl⟩
    have k0 : W1.get 0 = some (.cells 0 0 22 1 false [.v (.slice none 0 0)]) := by rw [← hW1,put_get_ne _ (by omega) (by omega)];exact g0
    have hW1N : W1.size = N + 1 := by rw [← hW1,show Y.put N _ = Y.plus [some _] from by rw [← hYN];exact put_push _,plus_size,hYN];rfl
    have hW1k : W1.lock = 0 := by rw [← hW1];exact hYk
    have s0 := store1 k0 (x := .sl N 0 0 1 none) (by omega) rfl
    obtain ⟨W2,hW2⟩ : ∃ W,W1.put 0 (.cells 0 (N + 1) 22 1 false [.sl N 0 0 1 none]) = W := ⟨_,rfl⟩
    rw [show Nat.max 0 (bound (.sl N 0 0 1 none)) = N + 1 from Nat.zero_max _,hW2] at s0
    have hW2N : W2.size = N + 1 := by rw [← hW2,put_sizeI _ (by omega)];exact hW1N
    have hW2k : W2.lock = 0 := by rw [← hW2];exact hW1k
    have k1 : W2.get 1 = some (.cells 0 0 3 1 false [intA (s.en : Nat)]) := by rw [← hW2,put_get_ne _ (by omega) (by omega),← hW1,put_get_ne _ (by omega) (by omega)];exact g1
    have s1 := store1 k1 (x := .v (.int .i64 n)) (by omega) rfl
    obtain ⟨W3,hW3⟩ : ∃ W,W2.put 1 (.cells 0 0 3 1 false [.v (.int .i64 n)]) = W := ⟨_,rfl⟩
    rw [show Nat.max 0 (bound (.v (.int .i64 n))) = 0 from rfl,hW3] at s1
    have q0 : W3.get 0 = some (.cells 0 (N + 1) 22 1 false [.sl N 0 0 1 none]) := by rw [← hW3,put_get_ne _ (by omega) (by omega),← hW2];exact put_get_eq _ (by omega)
    have q1 : W3.get 1 = some (.cells 0 0 3 1 false [.v (.int .i64 n)]) := by rw [← hW3];exact put_get_eq _ (by omega)
    have qN : W3.get N = some (.cells 0 0 9 1 true [.v (.string r)]) := by rw [← hW3,put_get_ne _ (by omega) (by omega),← hW2,put_get_ne _ (by omega) (by omega),← hW1];exact put_get_eq _ (by omega)
    have qb : ∀ b,b ≠ 0 → b ≠ 1 → b ≠ N → W3.get b = Y.get b := fun b h0 h1 h2 => by rw [← hW3,put_get_ne _ (by omega) h1,← hW2,put_get_ne _ (by omega) h0,← hW1,put_get_ne _ (by omega) h2]
    have hW3N : W3.size = N + 1 := by rw [← hW3,put_sizeI _ (by omega)];exact hW2N
    have hset := settle_live (n := N) (Nat.le_refl _) qN
    simp -implicitDefEqProofs only [go_sem,↓reduceIte,Int.reduceEq,Int.reduceLT,Int.reduceLE,List.reduceReplicate,intA,setT_nil,setT_cons,get_row g0,hYN,hf,hW1,s0,s1,hset,List.flatMap_cons,List.flatMap_nil,List.append_nil,AV.cells,AV.flat,List.all_cons,List.all_nil,↓boolP_bool,↓iteB_true,↓iteB_false]
    refine ⟨rfl,[(0,.cells 0 (N + 1) 22 1 false [.sl N 0 0 1 none]),(1,.cells 0 0 3 1 false [intA n]),(N,.cells 0 0 9 1 true (strs [r]))],Or.inr ⟨N,r,[],by omega,by rw [hZ0];rfl,rfl⟩, ?_, ?_, ?_⟩
    ·intro p hp
     simp only [List.mem_cons,List.not_mem_nil,or_false] at hp
     rcases hp with rfl | rfl | rfl
     ·exact q0
     ·exact q1
     ·exact qN
    ·refine get_loopObj ?_
     rw [qb 3 (by omega) (by omega) (by omega)];exact hY3
    ·refine fin14 hN (by rw [← hW3];show W2.lock = _;rw [hW2k,hlk]) (by omega) (fun b hb h3 hnb => ?_) (fun p hp => ?_)
     ·rw [qb b (fun e => hnb ⟨_,List.mem_cons_self ..,e.symm⟩) (fun e => hnb ⟨_,List.mem_cons_of_mem _ (List.mem_cons_self ..),e.symm⟩) (by omega)]
      exact hYX b h3
     ·simp only [List.mem_cons,List.not_mem_nil,or_false] at hp
      rcases hp with rfl | rfl | rfl
      ·exact Or.inl ⟨_,List.mem_cons_self ..,rfl⟩
      ·exact Or.inl ⟨_,List.mem_cons_of_mem _ (List.mem_cons_self ..),rfl⟩
      ·exact Or.inr (Nat.le_refl _)
   ·have g0 : Y.get 0 = some (.cells 0 (b + 1) 22 1 false [.sl b Z.length 0 (Z.length + 1) none]) := hYH (0,_) (by simp)
    have g1 : Y.get 1 = some (.cells 0 0 3 1 false [intA (s.en : Nat)]) := hYH (1,_) (by simp)
    have gb : Y.get b = some (.cells Z.length 0 9 1 true (strs (z :: Z))) := hYH (b,_) (by simp)
    have hbN : b < N := by have := get_ltS gb;omega
    have hZl : Z.length + 1 < 1000 := by rw [hZe] at hZ;exact hZ
    have hf : fitsA 16 (Z.length + 1 + 1) = true := by unfold fitsA;exact decide_eq_true (by omega)
    have hap := fun slot => appTo_own (H := Y) (slot := slot) (e := 9) (sz := 1) (b' := 16) (n := 1) (new := [.v (.string r)]) (get_row gb) (show (Z.length + 1) * 1 = (strs (z :: Z)).length by rw [strs_len];simp) (by omega) hf (by omega) (by omega)
    obtain ⟨W1,hW1⟩ : ∃ W,Y.put b (.cells (Z.length + 1) 0 9 1 true (strs (z :: Z) ++ [.v (.string r)])) = W := ⟨_,rfl⟩
    simp only [show Nat.max 0 (boundL [AV.v (.string r)]) = 0 from rfl,hW1] at hap
    have hW1N : W1.size = N := by rw [← hW1,put_sizeI _ (by omega)];exact hYN
    have hW1k : W1.lock = 0 := by rw [← hW1];exact hYk
    have k0 : W1.get 0 = some (.cells 0 (b + 1) 22 1 false [.sl b Z.length 0 (Z.length + 1) none]) := by rw [← hW1,put_get_ne _ (by omega) (by omega)];exact g0
    have s0 := store1 k0 (x := .sl b (Z.length + 1) 0 (Z.length + 1 + 1) none) (by omega) rfl
    obtain ⟨W2,hW2⟩ : ∃ W,W1.put 0 (.cells 0 (b + 1) 22 1 false [.sl b (Z.length + 1) 0 (Z.length + 1 + 1) none]) = W := ⟨_,rfl⟩
    rw [show Nat.max (b + 1) (bound (.sl b (Z.length + 1) 0 (Z.length + 1 + 1) none)) = b + 1 from Nat.max_self _,hW2] at s0
    have hW2N : W2.size = N := by rw [← hW2,put_sizeI _ (by omega)];exact hW1N
    have hW2k : W2.lock = 0 := by rw [← hW2];exact hW1k
    have k1 : W2.get 1 = some (.cells 0 0 3 1 false [intA (s.en : Nat)]) := by rw [← hW2,put_get_ne _ (by omega) (by omega),← hW1,put_get_ne _ (by omega) (by omega)];exact g1
    have s1 := store1 k1 (x := .v (.int .i64 n)) (by omega) rfl
    obtain ⟨W3,hW3⟩ : ∃ W,W2.put 1 (.cells 0 0 3 1 false [.v (.int .i64 n)]) = W := ⟨_,rfl⟩
    rw [show Nat.max 0 (bound (.v (.int .i64 n))) = 0 from rfl,hW3] at s1
    have q0 : W3.get 0 = some (.cells 0 (b + 1) 22 1 false [.sl b (Z.length + 1) 0 (Z.length + 1 + 1) none]) := by rw [← hW3,put_get_ne _ (by omega) (by omega),← hW2];exact put_get_eq _ (by omega)
    have q1 : W3.get 1 = some (.cells 0 0 3 1 false [.v (.int .i64 n)]) := by rw [← hW3];exact put_get_eq _ (by omega)
    have qB : W3.get b = some (.cells (Z.length + 1) 0 9 1 true (strs (z :: Z) ++ [.v (.string r)])) := by rw [← hW3,put_get_ne _ (by omega) (by omega),← hW2,put_get_ne _ (by omega) (by omega),← hW1];exact put_get_eq _ (by omega)
    have qb : ∀ c,c ≠ 0 → c ≠ 1 → c ≠ b → W3.get c = Y.get c := fun c h0 h1 h2 => by rw [← hW3,put_get_ne _ (by omega) h1,← hW2,put_get_ne _ (by omega) h0,← hW1,put_get_ne _ (by omega) h2]
    have hW3N : W3.size = N := by rw [← hW3,put_sizeI _ (by omega)];exact hW2N
    have hset : settleH N W3 = W3 := settle_eqN hW3N
    simp -implicitDefEqProofs only [go_sem,↓reduceIte,Int.reduceEq,Int.reduceLT,Int.reduceLE,List.reduceReplicate,intA,setT_nil,setT_cons,get_row g0,hYN,hf,hap,s0,s1,hset,List.flatMap_cons,List.flatMap_nil,List.append_nil,AV.cells,AV.flat,List.all_cons,List.all_nil,↓boolP_bool,↓iteB_true,↓iteB_false]
    refine ⟨rfl,[(0,.cells 0 (b + 1) 22 1 false [.sl b (Z.length + 1) 0 (Z.length + 1 + 1) none]),(1,.cells 0 0 3 1 false [intA n]),(b,.cells (Z.length + 1) 0 9 1 true (strs (z :: Z) ++ [.v (.string r)]))],Or.inr ⟨b,z,Z ++ [r],hb,by rw [hZe];rfl, ?_⟩, ?_, ?_, ?_⟩
    ·rw [List.length_append];simp [strs]
    ·intro p hp
     simp only [List.mem_cons,List.not_mem_nil,or_false] at hp
     rcases hp with rfl | rfl | rfl
     ·exact q0
     ·exact q1
     ·exact qB
    ·refine get_loopObj ?_
     rw [qb 3 (by omega) (by omega) (by omega)];exact hY3
    ·refine fin14 hN (by rw [← hW3];show W2.lock = _;rw [hW2k,hlk]) (by omega) (fun c hc h3 hnb => ?_) (fun p hp => ?_)
     ·rw [qb c (fun e => hnb ⟨_,List.mem_cons_self ..,e.symm⟩) (fun e => hnb ⟨_,List.mem_cons_of_mem _ (List.mem_cons_self ..),e.symm⟩) (fun e => hnb ⟨_,List.mem_cons_of_mem _ (List.mem_cons_of_mem _ (List.mem_cons_self ..)),e.symm⟩)]
      exact hYX c h3
     ·simp only [List.mem_cons,List.not_mem_nil,or_false] at hp
      rcases hp with rfl | rfl | rfl
      ·exact Or.inl ⟨_,List.mem_cons_self ..,rfl⟩
      ·exact Or.inl ⟨_,List.mem_cons_of_mem _ (List.mem_cons_self ..),rfl⟩
      ·exact Or.inl ⟨_,List.mem_cons_of_mem _ (List.mem_cons_of_mem _ (List.mem_cons_self ..)),rfl⟩
  ·intro p hp
   simp only [List.mem_cons,List.not_mem_nil,or_false] at hp
   rcases hp with rfl | rfl <;> rfl
  ·intro m' X hR hH h2 h3 hmv hsz
   have hsz : 4 ≤ X.size := hsz
   have hk : X.lock = 0 := hmv.lock
   have h2 : X.get 2 = some .dfr := h2
   rw [fold14 _ 0 ⟨[],0⟩ rfl] at hR ⊢
   simp only [List.nil_append,Nat.zero_add] at hR ⊢
   generalize hL : readR t 200 0 0 = L at *
   generalize hN : X.size = N at *
   rcases hR with ⟨hZ0,rfl⟩ | ⟨b,z,Z,hb,hZe,rfl⟩
   ·have hZ0 : L = [] := hZ0
    have g0 : X.get 0 = some (.cells 0 0 22 1 false [.v (.slice none 0 0)]) := hH (0,_) (by simp)
    have g1 : X.get 1 = some (.cells 0 0 3 1 false [intA (totR L : Nat)]) := hH (1,_) (by simp)
    have r0 : ∀ E,(X.plus E).row 0 0 = some (0,22,1,false,[.v (.slice none 0 0)]) := fun E => by rw [rowLo (by omega)];exact get_row g0
    have r1 : ∀ E,(X.plus E).row 1 0 = some (0,3,1,false,[.v (.int .i64 (totR L : Nat))]) := fun E => by rw [rowLo (by omega)];exact get_row g1
    have s0 := fun E => storeLoK (X := X) (b := 0) (v := 0) (k := 0) (x := .v (.slice none 0 0)) (by omega) (by omega) (get_row g0) (Nat.le_refl _) rfl E
    obtain ⟨X1,hX1⟩ : ∃ W,X.put 0 (.cells 0 0 22 1 false [.v (.slice none 0 0)]) = W := ⟨_,rfl⟩
    simp only [show Nat.max 0 (bound (.v (.slice none 0 0))) = 0 from rfl,show splice 0 [AV.v (.slice none 0 0)] [.v (.slice none 0 0)] = [.v (.slice none 0 0)] from rfl,hX1] at s0
    have hN1 : X1.size = N := by rw [← hX1,put_sizeI _ (by omega)];exact hN
    have hk1 : X1.lock = 0 := by rw [← hX1];exact hk
    have k1 : X1.get 1 = some (.cells 0 0 3 1 false [.v (.int .i64 (totR L : Nat))]) := by rw [← hX1,put_get_ne _ (by omega) (by omega)];exact g1
    have s1 := fun E => storeLoK (X := X1) (b := 1) (v := 0) (k := 0) (x := .v (.int .i64 (totR L : Nat))) (by omega) (by omega) (get_row k1) (Nat.le_refl _) rfl E
    obtain ⟨X2,hX2⟩ : ∃ W,X1.put 1 (.cells 0 0 3 1 false [.v (.int .i64 (totR L : Nat))]) = W := ⟨_,rfl⟩
    simp only [show Nat.max 0 (bound (.v (.int .i64 (totR L : Nat)))) = 0 from rfl,show splice 0 [AV.v (.int .i64 (totR L : Nat))] [.v (.int .i64 (totR L : Nat))] = [.v (.int .i64 (totR L : Nat))] from rfl,hX2] at s1
    have hN2 : X2.size = N := by rw [← hX2,put_sizeI _ (by omega)];exact hN1
    have hk2 : X2.lock = 0 := by rw [← hX2];exact hk1
    have c2 : X2.get 2 = some .dfr := by rw [← hX2,put_get_ne _ (by omega) (by omega),← hX1,put_get_ne _ (by omega) (by omega)];exact h2
    have hkill := kill2 c2 hk2
    have r0' : (X2.put 2 .dead).row 0 0 = some (0,22,1,false,[.v (.slice none 0 0)]) := get_row (by rw [put_get_ne _ (by omega) (by omega),← hX2,put_get_ne _ (by omega) (by omega),← hX1];exact put_get_eq _ (by omega))
    have r1' : (X2.put 2 .dead).row 1 0 = some (0,3,1,false,[.v (.int .i64 (totR L : Nat))]) := get_row (by rw [put_get_ne _ (by omega) (by omega),← hX2];exact put_get_eq _ (by omega))
    rw [← plus_nil X]
    simp -implicitDefEqProofs only [go_sem,↓reduceIte,Int.reduceEq,Int.reduceLT,Int.reduceLE,List.reduceReplicate,intA,setT_nil,setT_cons,hN,sizeP hN,↓boolP_bool,↓iteB_true,↓iteB_false]
    refine wp_drawX [([],[],false),([0],[],false),([1],[],false),([],[],false),([],[],false)] (by kernel_rfl) (by kernel_rfl) ?_
    simp -implicitDefEqProofs only [go_sem,↓reduceIte,Int.reduceEq,Int.reduceLT,Int.reduceLE,List.reduceReplicate,intA,setT_nil,setT_cons,hN,sizeP hN,putP0 hN,putP hN,settleP0 hN2,settleP hN2,r0,r1,s0,s1,ltB_t (show 0 < N by omega),ltB_t (show 1 < N by omega),plus_nil,hkill,r0',r1',show (1 == 0) = false from rfl,↓boolP_bool,↓iteB_true,↓iteB_false]
    rw [hZ0]
    exact frz3 _ _ _ _
   ·have hZe : L = z :: Z := hZe
    have g0 : X.get 0 = some (.cells 0 (b + 1) 22 1 false [.sl b Z.length 0 (Z.length + 1) none]) := hH (0,_) (by simp)
    have g1 : X.get 1 = some (.cells 0 0 3 1 false [intA (totR L : Nat)]) := hH (1,_) (by simp)
    have gb : X.get b = some (.cells Z.length 0 9 1 true (strs (z :: Z))) := hH (b,_) (by simp)
    have hbN : b < N := by have := get_ltS gb;omega
    have r0 : ∀ E,(X.plus E).row 0 0 = some (b + 1,22,1,false,[.sl b Z.length 0 (Z.length + 1) none]) := fun E => by rw [rowLo (by omega)];exact get_row g0
    have r1 : ∀ E,(X.plus E).row 1 0 = some (0,3,1,false,[.v (.int .i64 (totR L : Nat))]) := fun E => by rw [rowLo (by omega)];exact get_row g1
    have s0 := fun E => storeLoK (X := X) (b := 0) (v := 0) (k := 0) (x := .sl b Z.length 0 (Z.length + 1) none) (by omega) (by omega) (get_row g0) (Nat.le_refl _) rfl E
    obtain ⟨X1,hX1⟩ : ∃ W,X.put 0 (.cells 0 (b + 1) 22 1 false [.sl b Z.length 0 (Z.length + 1) none]) = W := ⟨_,rfl⟩
    simp only [show Nat.max (b + 1) (bound (.sl b Z.length 0 (Z.length + 1) none)) = b + 1 from Nat.max_self _,show splice 0 [AV.sl b Z.length 0 (Z.length + 1) none] [.sl b Z.length 0 (Z.length + 1) none] = [.sl b Z.length 0 (Z.length + 1) none] from rfl,hX1] at s0
    have hN1 : X1.size = N := by rw [← hX1,put_sizeI _ (by omega)];exact hN
    have hk1 : X1.lock = 0 := by rw [← hX1];exact hk
    have k1 : X1.get 1 = some (.cells 0 0 3 1 false [.v (.int .i64 (totR L : Nat))]) := by rw [← hX1,put_get_ne _ (by omega) (by omega)];exact g1
    have s1 := fun E => storeLoK (X := X1) (b := 1) (v := 0) (k := 0) (x := .v (.int .i64 (totR L : Nat))) (by omega) (by omega) (get_row k1) (Nat.le_refl _) rfl E
    obtain ⟨X2,hX2⟩ : ∃ W,X1.put 1 (.cells 0 0 3 1 false [.v (.int .i64 (totR L : Nat))]) = W := ⟨_,rfl⟩
    simp only [show Nat.max 0 (bound (.v (.int .i64 (totR L : Nat)))) = 0 from rfl,show splice 0 [AV.v (.int .i64 (totR L : Nat))] [.v (.int .i64 (totR L : Nat))] = [.v (.int .i64 (totR L : Nat))] from rfl,hX2] at s1
    have hN2 : X2.size = N := by rw [← hX2,put_sizeI _ (by omega)];exact hN1
    have hk2 : X2.lock = 0 := by rw [← hX2];exact hk1
    have c2 : X2.get 2 = some .dfr := by rw [← hX2,put_get_ne _ (by omega) (by omega),← hX1,put_get_ne _ (by omega) (by omega)];exact h2
    have hkill := kill2 c2 hk2
    have r0' : (X2.put 2 .dead).row 0 0 = some (b + 1,22,1,false,[.sl b Z.length 0 (Z.length + 1) none]) := get_row (by rw [put_get_ne _ (by omega) (by omega),← hX2,put_get_ne _ (by omega) (by omega),← hX1];exact put_get_eq _ (by omega))
    have r1' : (X2.put 2 .dead).row 1 0 = some (0,3,1,false,[.v (.int .i64 (totR L : Nat))]) := get_row (by rw [put_get_ne _ (by omega) (by omega),← hX2];exact put_get_eq _ (by omega))
    have rb : (X2.put 2 .dead).row b Z.length = some (0,9,1,true,strs (z :: Z)) := get_row (by rw [put_get_ne _ (by omega) (by omega),← hX2,put_get_ne _ (by omega) (by omega),← hX1,put_get_ne _ (by omega) (by omega)];exact gb)
    rw [← plus_nil X]
    simp -implicitDefEqProofs only [go_sem,↓reduceIte,Int.reduceEq,Int.reduceLT,Int.reduceLE,List.reduceReplicate,intA,setT_nil,setT_cons,hN,sizeP hN,↓boolP_bool,↓iteB_true,↓iteB_false]
    refine wp_drawX [([],[],false),([0],[],false),([1],[],false),([],[],false),([],[],false)] (by kernel_rfl) (by kernel_rfl) ?_
    simp -implicitDefEqProofs only [go_sem,↓reduceIte,Int.reduceEq,Int.reduceLT,Int.reduceLE,List.reduceReplicate,intA,setT_nil,setT_cons,hN,sizeP hN,putP0 hN,putP hN,settleP0 hN2,settleP hN2,r0,r1,s0,s1,ltB_t (show 0 < N by omega),ltB_t (show 1 < N by omega),plus_nil,hkill,r0',r1',show (1 == 0) = false from rfl,↓boolP_bool,↓iteB_true,↓iteB_false]
    rw [hZe]
    show freezeV { X2.put 2 .dead with lock := 0 } 1000000 _ = _
    rw [lock_eta (H := X2.put 2 .dead) hk2]
    exact frz14 (H := X2.put 2 .dead) hk2 rb (by rw [strs_len];rfl) _ _
theorem call14 {e : Exts} (he : Quiet e) (hx : e.x 63 = some idxStr) (t : ByteArray) (ht : t.size < 100000) (me : FuncId) (d : Option Tmp) (H : Heap) : callA (Cx e) (lim (Cx e)) me 9 d [.v (.string t)] H = some (readV t,H) :=
 (ans14 he hx t ht).call (ext_9 he) (pure_9 _ _ _) rfl H
end Go.Ev
namespace Go.Ev
open Go.Proofs
theorem ba_ext {a b : ByteArray} (h : a.data.toList = b.data.toList) : a = b := by
 cases a;cases b;simp only [ByteArray.mk.injEq];exact Array.toList_inj.1 h
theorem ext_data (s : ByteArray) (a b : Nat) : (s.extract a b).data.toList = (s.data.toList.drop a).take (b - a) := by
 rw [ByteArray.data_extract,Array.toList_extract,List.extract_eq_take_drop]
theorem ext_drop (s : ByteArray) (a : Nat) : (s.extract a s.size).data.toList = s.data.toList.drop a := by
 rw [ext_data,size_len,List.take_of_length_le (by rw [List.length_drop];exact Nat.le_refl _)]
theorem ext_take (s : ByteArray) (a : Nat) : (s.extract 0 a).data.toList = s.data.toList.take a := by
 rw [ext_data,List.drop_zero,Nat.sub_zero]
theorem idxB_at : ∀ (x : List UInt8) (q : List UInt8) (j : Int),(∀ b ∈ x,b.toNat ≠ 10) → idxB 10 j (x ++ 10 :: q) = j + x.length
 | [],q,j,_ => by
  show (if Nat.beq (10 : UInt8).toNat 10 then j else _) = _
  rw [if_pos (show Nat.beq (10 : UInt8).toNat 10 = true from rfl)];simp
 | b :: x,q,j,h => by
  have hb := h b (List.mem_cons_self ..)
  have h1 : Nat.beq b.toNat 10 = false := by
   cases hq : Nat.beq b.toNat 10
   ·rfl
   ·exact absurd (Nat.eq_of_beq_eq_true hq) hb
  show (if Nat.beq b.toNat 10 then j else idxB 10 (j + 1) (x ++ 10 :: q)) = _
  rw [h1]
  simp only [Bool.false_eq_true,if_false]
  rw [idxB_at x q (j + 1) fun c hc => h c (List.mem_cons_of_mem _ hc),List.length_cons];omega
theorem idxB_none : ∀ (x : List UInt8) (j : Int),(∀ b ∈ x,b.toNat ≠ 10) → idxB 10 j x = -1
 | [],_,_ => rfl
 | b :: x,j,h => by
  have hb := h b (List.mem_cons_self ..)
  have h1 : Nat.beq b.toNat 10 = false := by
   cases hq : Nat.beq b.toNat 10
   ·rfl
   ·exact absurd (Nat.eq_of_beq_eq_true hq) hb
  show (if Nat.beq b.toNat 10 then j else idxB 10 (j + 1) x) = _
  rw [h1]
  simp only [Bool.false_eq_true,if_false]
  exact idxB_none x (j + 1) fun c hc => h c (List.mem_cons_of_mem _ hc)
theorem firstR_of {s : ByteArray} {x q : List UInt8} (hs : s.data.toList = x ++ 10 :: q) (hx : ∀ b ∈ x,b.toNat ≠ 10) : (lineOf s).data.toList = x ++ [10] ∧ (rowOf s).data.toList = x.take (x.length - 3) := by
 have hnl : nl s = x.length + 1 := by
  unfold nl
  rw [hs,idxB_at x q 0 hx];omega
 have h1 : (lineOf s).data.toList = x ++ [10] := by
  unfold lineOf
  rw [ext_take,hnl,hs,show x ++ 10 :: q = (x ++ [10]) ++ q by simp,List.take_left' (by simp)]
 refine ⟨h1, ?_⟩
 unfold rowOf
 have hsz : (lineOf s).size = x.length + 1 := by rw [size_len,h1];simp
 rw [ext_take,h1,hsz,List.take_append_of_le_length (by omega),show x.length + 1 - 4 = x.length - 3 by omega]
theorem firstR_none {s : ByteArray} (i : Nat) (hs : ∀ b ∈ s.data.toList,b.toNat ≠ 10) : firstR s i = none := by
 have hnl : nl s = 0 := by unfold nl;rw [idxB_none _ _ hs];rfl
 have h1 : (rowOf s).size = 0 := by
  unfold rowOf lineOf
  rw [hnl,ByteArray.size_extract,ByteArray.size_extract];omega
 unfold firstR
 rw [if_neg]
 intro h
 rw [Bool.and_eq_true] at h
 have h2 := h.1
 unfold rowB at h2
 simp only [Bool.and_eq_true,decide_eq_true_iff] at h2
 omega
end Go.Ev
