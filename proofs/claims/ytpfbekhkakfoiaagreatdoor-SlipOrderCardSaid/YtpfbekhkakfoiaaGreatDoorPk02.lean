/- What the proof of this claim stands on, part 3: an evaluator of the model, proved right, and what it answers for functions of the program. -/
import Derived.Test.YtpfbekhkakfoiaaGreatDoorPk01
import Derived.Test.YtpfbekhkakfoiaaGreatDoorProg
import Derived.KernelRfl
import Derived.Laws.StructEq
import Derived.Lib.Bytealg
import Derived.ChangeReads
import Derived.ChangeOld
import Derived.ChangeArms
import Derived.RowKit3
import Derived.WalkKit
import Derived.ProofKit
import Derived.OpenShut
import Derived.Shelf.Strings.OnBuilder
import Derived.Lib.Overlaps
set_option maxHeartbeats 8000000
set_option maxRecDepth 1000000
set_option linter.unusedSimpArgs false
namespace Go.Ev
@[go_sem] theorem obeq_tf : ((some true : Option Bool) == some false) = false := rfl
@[go_sem] theorem obeq_ft : ((some false : Option Bool) == some true) = false := rfl
@[go_sem] theorem obeq_nt : ((none : Option Bool) == some true) = false := rfl
section
variable {C : Cfg} {me : FuncId} {rd : Option Nat}
def loadI (P : Program) (H : Heap) (t : TypeId) (p : AV) : Option AV :=
 match p with
 | .ptr b v k => if b < H.size then loadA P H t (.ptr b v k) else none
 | .ro z k => loadA P H t (.ro z k)
 | _ => none
def lenI (P : Program) (ts : List TypeId) (l : List AV) : Option AV :=
 match l with
 | .mp _ :: _ => none
 | l => lenA P { objs := [],lock := 0 } ts l
open Classical in
noncomputable def callI (C : Cfg) (me f : FuncId) (d : Option Tmp) (args : List AV) : Option AV :=
 if h : ∃ v,(∀ H,callA C (lim C) me f d args H = some (v,H)) ∧ ((standA C f args).isSome = true ∨ callKind C me f d args = 1) then some h.choose else none
noncomputable def callV (C : Cfg) (me : FuncId) (d : Option Tmp) (g : AV) (l : List AV) : Option AV :=
 match g with
 | .fn (.func f) x y => callI C me f d (x ++ l ++ y)
 | _ => none
def sliceI (P : Program) (t : TypeId) (v : AV) (l h m : Option AV) : Option AV :=
 match v with
 | .sl _ _ _ _ _ => none
 | v => sliceA P { objs := [],lock := 0 } t v l h m
def bareO (d : Option Tmp) (op : Op) : Oper := { dst := d,op := op,type := 0,pos := "",after := #[],guard := none }
noncomputable def opI (C : Cfg) (me : FuncId) (H : Heap) (d : Option Tmp) (op : Op) (a : AAct) : Option AV :=
 match op with
 | .load t x => (a.eval x).bind (loadI C.P H t)
 | .slice t x l h m => (a.eval x).bind fun v => (lookO a l).bind fun l => (lookO a h).bind fun h => (lookO a m).bind fun m => sliceI C.P t v l h m
 | .call c =>
  match c.callee with
  | .builtin .len => (evals a c.args.toList).bind (lenI C.P c.argTypes.toList)
  | .builtin .min => (evals a c.args.toList).bind (mmA false)
  | .value g => (evals a c.args.toList).bind fun l => (a.eval g).bind fun v => callV C me d v l
  | _ => none
 | op => if plainO (bareO d op) then (opA C (lim C) me (bareO d op) a H 0).map fun r => r.1.getD undefA else none
theorem callI_of {f : FuncId} {d : Option Tmp} {args : List AV} {v : AV} (h : ∀ H,callA C (lim C) me f d args H = some (v,H)) (hk : (standA C f args).isSome = true ∨ callKind C me f d args = 1) : callI C me f d args = some v := by
 unfold callI
 have hex : ∃ v,(∀ H,callA C (lim C) me f d args H = some (v,H)) ∧ ((standA C f args).isSome = true ∨ callKind C me f d args = 1) := ⟨v,h,hk⟩
 rw [dif_pos hex]
 have h1 := hex.choose_spec.1 { objs := [],lock := 0 }
 rw [h] at h1
 simp only [Option.some.injEq,Prod.mk.injEq] at h1
 rw [← h1.1]
theorem Ans.callI {f : FuncId} {args : List AV} {v : AV} (h : Ans C f args v) {d : Option Tmp} (hx : C.ext f = none) (hp : C.pure me f d = true) (hb : boundL args = 0) (hh : C.exh f = none := by rfl) : callI C me f d args = some v :=
 callI_of (fun H => h.call hx hp hb H hh) (Or.inr (by unfold callKind;rw [hp,hb];rfl))
theorem ext_call {f : FuncId} {g : List AV → Option AV} (hx : C.ext f = some g) {args : List AV} {v : AV} (h : g args = some v) {d : Option Tmp} (H : Heap) : callA C (lim C) me f d args H = some (v,H) := by
 unfold callA standA;rw [hx];simp only [h]
noncomputable def idleA (C : Cfg) (me : FuncId) (arr : Array Oper) (H : Heap) : List Oper → AAct → Option AAct
 | [],a => some a
 | o :: r,a =>
  match wantedA arr a o with
  | some true => match opI C me H o.dst o.op a with | some v => idleA C me arr H r (a.put o.dst v) | none => none
  | some false => idleA C me arr H r (a.put o.dst undefA)
  | none => none
theorem plain_slot {o : Oper} (hp : plainO o = true) (a : AAct) (H : Heap) (s s' : Nat) : opA C (lim C) me o a H s = opA C (lim C) me o a H s' := by
 unfold plainO at hp
 unfold opA
 cases ho : o.op <;> rw [ho] at hp <;> simp only [] at hp <;> first | (cases hp;done) | rfl
def WpI (C : Cfg) (me : FuncId) (arr : Array Oper) (ops : List Oper) (a : AAct) (H : Heap) (K : AAct → Prop) : Prop := bindO (idleA C me arr H ops a) K
@[congr] theorem WpI_congr {arr : Array Oper} {ops : List Oper} {a a' : AAct} {H H' : Heap} {K : AAct → Prop} (ha : a = a') (hH : H = H') : WpI C me arr ops a H K = WpI C me arr ops a' H' K := by rw [ha,hH]
def drawOk (ops : Array Oper) : Bool := apartM (waitsAll ops.toList) 0 [] (rowsM ops ops.toList) && waitsOk (waitsAll ops.toList) ops.toList.length
def WpJ (C : Cfg) (me : FuncId) (d : Option Tmp) (op : Op) (a : AAct) (H : Heap) (K : PostO) : Prop := bindO (opI C me H d op a) fun v => AtO K v H
section
variable (d : Option Tmp) (a : AAct) (H : Heap) (arr : Array Oper) (r : List Oper) (d' : Option Tmp) (a' : AAct) (H2 : Heap) (K : AAct → Prop)
@[go_sem ↓] theorem wpJ_slice (K : PostO) (t x l h m) : WpJ C me d (.slice t x l h m) a H K = bindO (a.eval x) fun v => bindO (lookO a l) fun l => bindO (lookO a h) fun h => bindO (lookO a m) fun m => bindO (sliceI C.P t v l h m) fun v => AtO K v H := by
 unfold WpJ opI;simp only
 cases a.eval x with
 | none => rfl
 | some v =>
  cases lookO a l with
  | none => rfl
  | some l =>
   cases lookO a h with
   | none => rfl
   | some h =>
    cases lookO a m with
    | none => rfl
    | some m => rfl
@[go_sem ↓] theorem wpJ_len (K : PostO) (args ts) : WpJ C me d (.call ⟨.builtin .len,args,ts⟩) a H K = bindO (evals a args.toList) fun l => bindO (lenI C.P ts.toList l) fun v => AtO K v H := by
 unfold WpJ opI;simp only;cases evals a args.toList with
 | none => rfl
 | some p => rfl
@[go_sem ↓] theorem wpJ_call (K : PostO) (g args ts) : WpJ C me d (.call ⟨.value g,args,ts⟩) a H K = bindO (evals a args.toList) fun l => bindO (a.eval g) fun v => bindO (callV C me d v l) fun v => AtO K v H := by
 unfold WpJ opI;simp only
 cases evals a args.toList with
 | none => rfl
 | some p =>
  simp only [Option.bind_some,bindO_some]
  cases a.eval g with
  | none => rfl
  | some v => rfl
end
@[go_sem] theorem callV_fn (d : Option Tmp) (f : FuncId) (x y l : List AV) : callV C me d (.fn (.func f) x y) l = callI C me f d (x ++ l ++ y) := rfl
theorem SlOf.slice {P : Program} {t et sz : Nat} (hu : P.underlying t = some (.slice et)) (hs : sizeT P et = some sz) {xs : List AV} {x : AV} (h : SlOf sz xs x) (j : Nat) (hj : j ≤ xs.length) : ∃ y,sliceI P t x none (some (.v (.int .i64 j))) none = some y ∧ SlOf sz (xs.take j) y := by
 rcases h with ⟨rfl,rfl⟩ | ⟨cap,rfl⟩
 ·have : j = 0 := by simpa using hj
  subst this
  refine ⟨.v (.slice none 0 0), ?_,Or.inl ⟨rfl,rfl⟩⟩
  unfold sliceI sliceA
  simp [hu,hs,boundA]
 ·refine ⟨.vs sz (xs.take j) (capOf none xs.length 0 cap), ?_,Or.inr ⟨_,rfl⟩⟩
  have h1 : (0 : Int) ≤ (j : Int) ∧ (j : Int) ≤ (xs.length : Int) := by omega
  unfold sliceI sliceA
  simp [hu,hs,boundA,h1]
theorem SlOf.lenI {sz : Nat} {xs : List AV} {x : AV} (h : SlOf sz xs x) (P : Program) (ts : List TypeId) (r : List AV) : lenI P ts (x :: r) = lenA P { objs := [],lock := 0 } ts (x :: r) := by
 rcases h with ⟨rfl,rfl⟩ | ⟨cap,rfl⟩ <;> rfl
end
end Go.Ev
namespace Go.Ev
open Go.Proofs
def impF : List Nat := [91,125,141,142,150,159,163,165,167,184]
def impC : List (Nat × Nat × Nat) := []
def altF : List Nat := [72]
def keepF : Nat → List Nat
 | 2 => []
 | 3 => [0,1,2,4,6,3,36,9,5,10,11,13,12,14,15,17,16,18,19,21,20,22,23,25,24,26,8]
 | 4 => [42,1,3,5,7,9,11,13,15,17,19,21,23,22,0]
 | 5 => [0,1,3,4,7,35,9,11,8,10,63,66,65,67,64,12,14,15,17,13,16,100,19,21,18,20,129,2,22,24,23,26,25,6]
 | 6 => [0,1,3,4,7,31,2,8,9,11,10,63,13,14,76,16,81,12,89,88,90,87,17,19,100,21,110,116,124,20,22,151,15,6]
 | 7 => [0,1,4,5,9,31,2,3,12,10,11,14,16,13,15,90,18,19,103,20,21,22,17,125,8]
 | 8 => [0,1,3,4,7,26,2,9,35,36,37,11,8,13,12,58,10,14,65,66,64,17,15,103,6]
 | 9 => [0,1,4,5,9,40,2,3,10,12,14,11,13,15,17,19,21,23,25,22,24,135,18,138,137,139,136,26,20,28,146,150,149,151,148,30,158,16,31,8]
 | 10 => [0,1,5,6,11,44,13,12,56,2,3,4,16,17,18,19,20,21,22,26,24,15,23,25,27,29,31,14,28,166,169,32,33,35,191,30,34,10]
 | 11 => [0,1,4,5,9,45,2,3,11,13,15,74,10,12,17,97,16,99,19,14,18,23,22,21,20,8]
 | 12 => [0,1,2,4,6,5,9,42,3,10,11,13,15,72,19,88,17,14,12,18,21,20,126,130,129,131,128,23,139,16,8]
 | 13 => [0,1,2,3,4,5,24,23,25,22,9,34,7,11,13,15,17,10,12,96,14,16,6]
 | 14 => [0,1,2,3,4,5,7,34,9,13,11,71,73,8,12,85,84,86,83,14,16,97,98,10,109,123,140,6]
 | 15 => [0,1,9,3,14,24,4,33,46,5,58,74,2]
 | 16 => [0,1,2]
 | 17 => [0,6,3,10,17,2]
 | 18 => [0,4,1,11,6,29,5,3,2]
 | 19 => [0,1,2,3,4,8,17,5,9,23,11,33,12,39,45,51,6,7]
 | 20 => [0,1,2,3,4,8,14,5,18,23,9,29,35,41,6,7]
 | 21 => [0,1,2,6,14,3,7,20,26,25,27,24,8,10,4,5]
 | 22 => [0,1,2,6,20,3,24,11,7,9,13,52,16,14,67,78,12,15,4,5]
 | 23 => [0,1,3,4,8,23,2,9,28,10,36,35,37,34,11,13,45,44,46,43,15,54,53,55,52,18,60,16,6,7]
 | 24 => [0,1,3,4,9,22,2,10,27,12,8,32,14,38,13,54,11,6,7]
 | 25 => [0,4,10,14,13,15,6,24,5,2,3]
 | 26 => [0,4,12,6,17,8,22,7,37,5,2,3]
 | 27 => [0,1,10,5,14,25,4]
 | 28 => [0,1,10,5,14,25,4]
 | 29 => [0,1,2,3,15,5,20,6,7,46,8,51,65,4]
 | 30 => [0,1,10,5,14,25,4]
 | 31 => [3,2,1,4,6,5,8,7,10,9,12,11,14,13,16,15,0]
 | 32 => [0,1,5,12,11,2,3,4,10]
 | 33 => [0,1,2,6]
 | 34 => [0]
 | 35 => [0,1,2,3,4,5,9,21,6,8,25,31,30,32,29,12,56,58,59,10,65,7]
 | 36 => [0]
 | 37 => [0,1,2,3,4,8,15,6,5,10,25,7]
 | 38 => [0,2]
 | 39 => [0,1,2,3,4,5,10,18,6,12,27,7,36,13,11,40,8,9]
 | 40 => [0,1,2,3,6,12,4,5]
 | 41 => [0,1,5,2]
 | 42 => [0,1,2,3,4]
 | 43 => [0,1,2,3,6,11,4,5]
 | 44 => [0,1,5,13,4,16,17,18,6,2,3]
 | 45 => [0,1,2,7,16,4,5,6,20,21,22,8,3,25,9]
 | 46 => [0,1,2,7,14,6,3,19,4,5]
 | 47 => [0,2,7,6,20,4,1,8,9,5]
 | 48 => [0,1,4,6,2]
 | 49 => [0,1,15,14,16,13,5,20,3,2]
 | 50 => [0,2,1,9,8,20,10,29,6,7,4,5]
 | 51 => [0,7,9,11,10,5,14,3,2]
 | 52 => [0,7,9,8,5,4,17,3,2]
 | 53 => [0,1,2,4,3]
 | 54 => [0,2,7,14,1,18,6,4,5]
 | 55 => [1,0,9,8,10,7,6,3,15,4]
 | 56 => [0,1,12,3,17,4,35,5,38,49,6,54,64,7,72,84,2]
 | 57 => [0,1,7,3,12,22,2]
 | 58 => [0,1,3,18,5,23,2,6,34,70,7,75,8,86,96,4]
 | 59 => [0,1,2,3,7,15,4,6,5]
 | 60 => [0,1,2,3,4,9,19,8,5,24,28,27,29,26,11,40,6,7]
 | 61 => [0,1,2,3,9,19,4]
 | 62 => [0,1,2,3,6,5,4]
 | 63 => [0,1,2,5,9,3,4]
 | 64 => [0,7,6,8,5,4,26,2]
 | 65 => [0,1,2,3,4,5,7,6]
 | 66 => [0,1,2,5,9,3,4]
 | 67 => [0,1,2,3,5,8,9,7,13,38,14,45,15,4,12,62,10,11,18,105,107,114,17,16,121,6]
 | 68 => [0,1,4,2]
 | 69 => [0,1,2,10,9,11,5,3,6,4]
 | 70 => [0,1,3,5,2,6,28,27,29,8,40,7,4]
 | 71 => [0,1,5,2]
 | 72 => [0,8,11,5,16,22,4,6,42,50,2,3]
 | 73 => [0,1,10,5,14,25,4]
 | 74 => [0,5,2]
 | 75 => [0,1,2,3,13,12,14,11,7,20,19,21,5,8,4]
 | 76 => [0,1,2,3,6,14,9,8,21,7,4,5]
 | 77 => [0,6,3,10,18,2]
 | 78 => [1,0,3,4]
 | 79 => [0,1,2,7,16,4,5,6,19,20,21,9,3,24,8]
 | 80 => [0,8,7,9,6,5,3,14,2]
 | 81 => [0,1,4]
 | 82 => [0,1,2,3,4]
 | 83 => [0,1,2]
 | 84 => [0,1,2]
 | 85 => [0,1,6,2,3]
 | 86 => [0,1,2]
 | 87 => [0,1,3,2,4]
 | 88 => [0,1,3,2,13,5,27,4]
 | 89 => [3,0,7,19,2]
 | 90 => [0,9,12,11,13,3,24,2]
 | 91 => [0,1,8,9,10,3,5,4,2]
 | 92 => [0,1,2,6]
 | 93 => [0,1,2,3,6,15,17,18,5,32,45,4]
 | 94 => [0,1,4,2,3,11,10,27,33,13,5,42,14,68,71,9,12,80,8]
 | 95 => [0,1,2,7,14,4,6,3,20,5]
 | 96 => [0,1,2,15,14,16,13,5,7,29,30,31,8,10,9,3,4]
 | 97 => [0,1,3,2,28,4,5]
 | 98 => [0,2]
 | 99 => [0,5,2,8,10,11,3,14]
 | 100 => [0,1,4,3,2,21,20,22,19,9,28,27,29,26,7,11,8,10,6]
 | 101 => [0,2,1,5,4]
 | 102 => [1,0,8,7,9,3,5,16,4]
 | 103 => [0,1,5,2]
 | 104 => [1,0,5,3,11,4]
 | 105 => [0,4,11,3,2]
 | 106 => [4,0,8,12,3,2]
 | 107 => [6,0,16,5,7,3,4,8,37,12,53,60,66,9,10,11,91,98,2]
 | 108 => [0,11,10,12,9,3,5,20,27,26,28,25,6,8,2]
 | 109 => [0,1,10,13,12,14,5,24,4]
 | 110 => [0,4,1,11,5,22,6,36,3,2]
 | 111 => [1,0,8,7,9,3,5,16,4]
 | 112 => [0,1,4]
 | 113 => [0,1,5,11,6,12,13,16,19,4]
 | 114 => [0,1,9,8,10,7,6,2,22,4]
 | 115 => [0,1,2,6]
 | 116 => [0,1,11,15,14,16,13,4,3,38,2]
 | 117 => [0,1,8,9,10,4,13,12,14,11,5,3,2,6,24]
 | 118 => [0,1,2]
 | 119 => [1,0,4]
 | 120 => [0,1,9,8,10,7,6,2,22,4]
 | 121 => [0,1,3,2,30,35,36,37,5,7,4]
 | 122 => [0,1,15,14,16,13,6,8,9,5,4]
 | 123 => [1,0,11,10,12,9,7,8,3,24,5,4]
 | 124 => [0,1,12,21,6,34,5,4]
 | 125 => [0,1,4]
 | 126 => [0,2,1,5,4]
 | 127 => [0,12,13,15,1,22,29,5,41,40,42,39,7,49,8,65,64,66,63,10,4]
 | 128 => [0,14,16,15,1,8,21,6,23,5,7,33,36,49,48,50,47,9,10,11,4]
 | 129 => [0,5,6,7,2]
 | 130 => [1,6,0,16,4]
 | 132 => [0,2]
 | 133 => [0,2]
 | 134 => [1,0,3,4]
 | 135 => [0,12,15,14,16,4,25,31,30,32,29,6,37,3,2]
 | 136 => [1,10,9,11,8,4,18,17,19,0,3,5,31]
 | 137 => [0,1,12,11,13,10,2,7,8,5,42,4]
 | 138 => [3,0,9,4,5,38,2]
 | 139 => [0,2]
 | 140 => [0]
 | 141 => [0,2,1,4]
 | 142 => [0,2,1,4]
 | 143 => [0,1,13,4]
 | 144 => [0,1,16,4]
 | 145 => [4,0,9,5,16,2,3]
 | 146 => [0,7,1,12,4]
 | 147 => [0,7,1,15,4]
 | 148 => [0,9,1,5,18,6,4]
 | 149 => [0,9,5,17,1,26,6,4]
 | 150 => [0,1,2,4,3,5,6]
 | 151 => [0]
 | 152 => [1,0,8,9,6,3,7,5,17,4]
 | 153 => [0,1,3,2,4]
 | 154 => [0,1,3,4,10,2,5]
 | 155 => [0,1,7,21]
 | 156 => [0,1,4,5]
 | 157 => [0,2]
 | 158 => [0,5,6,1,32,7,54,4]
 | 159 => [0,1,4]
 | 160 => [0,2,1,3]
 | 161 => [0,1,2,3,4]
 | 162 => [1,3,0,4]
 | 163 => [0,2,4]
 | 164 => [1,0,3,4]
 | 165 => [0,2,1,4]
 | 166 => [1,3,0,4]
 | 167 => [0,2,1,4]
 | 168 => [0,1,4]
 | 169 => [0,10,2,3]
 | 170 => [0,1,4]
 | 171 => [0,4,10,5,2,18,6,27,33,35,3,48]
 | 172 => [1,11,2,14,0,6,25,7,33,3,8,42]
 | 173 => [0,1,4]
 | 174 => [0,1,2,3,4]
 | 175 => [0,1,2,3,4]
 | 176 => [0,1,2,3,9,4]
 | 177 => [0,1,2]
 | 178 => [1,10,9,11,4,2,5,28,27,29,7,32,6,46,0,53]
 | 179 => [0,6,1,4]
 | 180 => [0,6,19]
 | 181 => [0,1,4]
 | 182 => [0,1,17,20,19,21,5,6,31,37,7,8,62,9,10,85,110,4]
 | 183 => [0,13,16,15,17,5,1,6,27,33,7,8,58,9,10,78,95,4]
 | 184 => [0,8,7,9,1,5,16,4]
 | 185 => [0,4,16,5,6,23,7,8,45,10,9,57,59,11,75,77,12,98,2,3]
 | 186 => [1,160,0,171,175,177,176,6,181,5,183,7,8,9,26,33,11,43,12,51,64,10,98,13,108,124,14,15,139,16,143,156,4]
 | 187 => [0,2]
 | 188 => [1,5,0,16,24,31,36,8,9,59,6,64,11,73,7,93,10,107,12,114,132,13,139,4]
 | 191 => [0,1,4]
 | 192 => [0,3,10,2]
 | 193 => [0,2]
 | 195 => [0,1,4]
 | 196 => [1,9,7,20,8,0,5,39,10,44,6,77,4]
 | 198 => [5,0,12,4,8,25,30,6,7,2,3]
 | 226 => []
 | _ => []
def pureF (h g : Nat) (d : Option Nat) : Bool := !(impF.contains g) && !(impC.contains (h,g,d.getD 100000))
structure Exts where
 x : FuncId → Option (List AV → Option AV)
def Exts.more (e : Exts) (f : FuncId) (g : List AV → Option AV) : Exts := { e with x := fun h => if Nat.beq h f then some g else e.x h }
noncomputable def Cx (e : Exts) : Cfg := { P := Tryz.prog,pure := pureF,alter := fun h _ => altF.contains h,keep := keepF,ext := e.x }
def Quiet (e : Exts) : Prop := ∀ f,f ≠ 31 → f ≠ 131 → f ≠ 127 → f ≠ 197 → e.x f = none
@[go_sem] theorem Cx_P (e : Exts) : (Cx e).P = Tryz.prog := rfl
theorem size_3 : sizeT Tryz.prog 3 = some 1 := by kernel_rfl
theorem size_4 : sizeT Tryz.prog 4 = some 1 := by kernel_rfl
theorem size_9 : sizeT Tryz.prog 9 = some 1 := by kernel_rfl
theorem size_28 : sizeT Tryz.prog 28 = some 3 := by kernel_rfl
theorem size_30 : sizeT Tryz.prog 30 = some 6 := by kernel_rfl
theorem size_209 : sizeT Tryz.prog 209 = some 256 := by kernel_rfl
@[go_sem] theorem zero_3 : zeroT Tryz.prog 3 = some (.v (.int .i64 0)) := by kernel_rfl
@[go_sem] theorem zero_4 : zeroT Tryz.prog 4 = some (.v (.bool false)) := by kernel_rfl
@[go_sem] theorem zero_9 : zeroT Tryz.prog 9 = some (.v (.string ⟨#[]⟩)) := by kernel_rfl
@[go_sem] theorem zero_30 : zeroT Tryz.prog 30 = some (.agg [.v (.int .i64 0),.v (.int .i64 0),.v (.int .i64 0),.v (.string ⟨#[]⟩),.v (.string ⟨#[]⟩),.v (.string ⟨#[]⟩)]) := by kernel_rfl
@[go_sem] theorem keep_13 (e : Exts) : (Cx e).keep 13 = [0,1,2,3,4,5,24,23,25,22,9,34,7,11,13,15,17,10,12,96,14,16,6] := rfl
@[go_sem] theorem alter_13 (e : Exts) (d : Option Tmp) : (Cx e).alter 13 d = false := rfl
theorem fn_13 (e : Exts) : (Cx e).P.funcs[13]? = some Tryz.f13 := Tryz.func13
@[go_sem] theorem keep_16 (e : Exts) : (Cx e).keep 16 = [0,1,2] := rfl
theorem fn_16 (e : Exts) : (Cx e).P.funcs[16]? = some Tryz.f16 := Tryz.func16
theorem ext_16 {e : Exts} (he : Quiet e) : (Cx e).ext 16 = none := he _ (by decide) (by decide) (by decide) (by decide)
theorem pure_16 (e : Exts) (h : FuncId) (d : Option Tmp) : (Cx e).pure h 16 d = true := by simp [Cx,pureF,impF,impC]
@[go_sem] theorem keep_40 (e : Exts) : (Cx e).keep 40 = [0,1,2,3,6,12,4,5] := rfl
@[go_sem] theorem alter_40 (e : Exts) (d : Option Tmp) : (Cx e).alter 40 d = false := rfl
theorem fn_40 (e : Exts) : (Cx e).P.funcs[40]? = some Tryz.f40 := Tryz.func40
theorem ext_40 {e : Exts} (he : Quiet e) : (Cx e).ext 40 = none := he _ (by decide) (by decide) (by decide) (by decide)
theorem pure_40 (e : Exts) (h : FuncId) (d : Option Tmp) : (Cx e).pure h 40 d = true := by simp [Cx,pureF,impF,impC]
@[go_sem] theorem keep_48 (e : Exts) : (Cx e).keep 48 = [0,1,4,6,2] := rfl
theorem fn_48 (e : Exts) : (Cx e).P.funcs[48]? = some Tryz.f48 := Tryz.func48
theorem ext_48 {e : Exts} (he : Quiet e) : (Cx e).ext 48 = none := he _ (by decide) (by decide) (by decide) (by decide)
theorem pure_48 (e : Exts) (h : FuncId) (d : Option Tmp) : (Cx e).pure h 48 d = true := by simp [Cx,pureF,impF,impC]
@[go_sem] theorem keep_64 (e : Exts) : (Cx e).keep 64 = [0,7,6,8,5,4,26,2] := rfl
theorem fn_64 (e : Exts) : (Cx e).P.funcs[64]? = some Tryz.f64 := Tryz.func64
theorem ext_64 {e : Exts} (he : Quiet e) : (Cx e).ext 64 = none := he _ (by decide) (by decide) (by decide) (by decide)
theorem pure_64 (e : Exts) (h : FuncId) (d : Option Tmp) : (Cx e).pure h 64 d = true := by simp [Cx,pureF,impF,impC]
@[go_sem] theorem keep_72 (e : Exts) : (Cx e).keep 72 = [0,8,11,5,16,22,4,6,42,50,2,3] := rfl
@[go_sem] theorem alter_72 (e : Exts) (d : Option Tmp) : (Cx e).alter 72 d = true := rfl
theorem fn_72 (e : Exts) : (Cx e).P.funcs[72]? = some Tryz.f72 := Tryz.func72
theorem ext_72 {e : Exts} (he : Quiet e) : (Cx e).ext 72 = none := he _ (by decide) (by decide) (by decide) (by decide)
theorem pure_72 (e : Exts) (h : FuncId) (d : Option Tmp) : (Cx e).pure h 72 d = true := by simp [Cx,pureF,impF,impC]
@[go_sem] theorem keep_80 (e : Exts) : (Cx e).keep 80 = [0,8,7,9,6,5,3,14,2] := rfl
theorem fn_80 (e : Exts) : (Cx e).P.funcs[80]? = some Tryz.f80 := Tryz.func80
theorem ext_80 {e : Exts} (he : Quiet e) : (Cx e).ext 80 = none := he _ (by decide) (by decide) (by decide) (by decide)
theorem pure_80 (e : Exts) (h : FuncId) (d : Option Tmp) : (Cx e).pure h 80 d = true := by simp [Cx,pureF,impF,impC]
@[go_sem] theorem keep_81 (e : Exts) : (Cx e).keep 81 = [0,1,4] := rfl
theorem fn_81 (e : Exts) : (Cx e).P.funcs[81]? = some Tryz.f81 := Tryz.func81
theorem ext_81 {e : Exts} (he : Quiet e) : (Cx e).ext 81 = none := he _ (by decide) (by decide) (by decide) (by decide)
theorem pure_81 (e : Exts) (h : FuncId) (d : Option Tmp) : (Cx e).pure h 81 d = true := by simp [Cx,pureF,impF,impC]
@[go_sem] theorem keep_82 (e : Exts) : (Cx e).keep 82 = [0,1,2,3,4] := rfl
@[go_sem] theorem alter_82 (e : Exts) (d : Option Tmp) : (Cx e).alter 82 d = false := rfl
theorem fn_82 (e : Exts) : (Cx e).P.funcs[82]? = some Tryz.f82 := Tryz.func82
theorem ext_82 {e : Exts} (he : Quiet e) : (Cx e).ext 82 = none := he _ (by decide) (by decide) (by decide) (by decide)
theorem pure_82 (e : Exts) (h : FuncId) (d : Option Tmp) : (Cx e).pure h 82 d = true := by simp [Cx,pureF,impF,impC]
@[go_sem] theorem keep_89 (e : Exts) : (Cx e).keep 89 = [3,0,7,19,2] := rfl
theorem fn_89 (e : Exts) : (Cx e).P.funcs[89]? = some Tryz.f89 := Tryz.func89
theorem ext_89 {e : Exts} (he : Quiet e) : (Cx e).ext 89 = none := he _ (by decide) (by decide) (by decide) (by decide)
theorem pure_89 (e : Exts) (h : FuncId) (d : Option Tmp) : (Cx e).pure h 89 d = true := by simp [Cx,pureF,impF,impC]
@[go_sem] theorem keep_92 (e : Exts) : (Cx e).keep 92 = [0,1,2,6] := rfl
theorem fn_92 (e : Exts) : (Cx e).P.funcs[92]? = some Tryz.f92 := Tryz.func92
theorem ext_92 {e : Exts} (he : Quiet e) : (Cx e).ext 92 = none := he _ (by decide) (by decide) (by decide) (by decide)
theorem pure_92 (e : Exts) (h : FuncId) (d : Option Tmp) : (Cx e).pure h 92 d = true := by simp [Cx,pureF,impF,impC]
@[go_sem] theorem keep_98 (e : Exts) : (Cx e).keep 98 = [0,2] := rfl
@[go_sem] theorem alter_98 (e : Exts) (d : Option Tmp) : (Cx e).alter 98 d = false := rfl
theorem fn_98 (e : Exts) : (Cx e).P.funcs[98]? = some Tryz.f98 := Tryz.func98
theorem ext_98 {e : Exts} (he : Quiet e) : (Cx e).ext 98 = none := he _ (by decide) (by decide) (by decide) (by decide)
theorem pure_98 (e : Exts) (h : FuncId) (d : Option Tmp) : (Cx e).pure h 98 d = true := by simp [Cx,pureF,impF,impC]
@[go_sem] theorem keep_99 (e : Exts) : (Cx e).keep 99 = [0,5,2,8,10,11,3,14] := rfl
theorem fn_99 (e : Exts) : (Cx e).P.funcs[99]? = some Tryz.f99 := Tryz.func99
theorem ext_99 {e : Exts} (he : Quiet e) : (Cx e).ext 99 = none := he _ (by decide) (by decide) (by decide) (by decide)
theorem pure_99 (e : Exts) (h : FuncId) (d : Option Tmp) : (Cx e).pure h 99 d = true := by simp [Cx,pureF,impF,impC]
@[go_sem] theorem keep_112 (e : Exts) : (Cx e).keep 112 = [0,1,4] := rfl
theorem fn_112 (e : Exts) : (Cx e).P.funcs[112]? = some Tryz.f112 := Tryz.func112
theorem ext_112 {e : Exts} (he : Quiet e) : (Cx e).ext 112 = none := he _ (by decide) (by decide) (by decide) (by decide)
theorem pure_112 (e : Exts) (h : FuncId) (d : Option Tmp) : (Cx e).pure h 112 d = true := by simp [Cx,pureF,impF,impC]
@[go_sem] theorem keep_113 (e : Exts) : (Cx e).keep 113 = [0,1,5,11,6,12,13,16,19,4] := rfl
theorem fn_113 (e : Exts) : (Cx e).P.funcs[113]? = some Tryz.f113 := Tryz.func113
theorem ext_113 {e : Exts} (he : Quiet e) : (Cx e).ext 113 = none := he _ (by decide) (by decide) (by decide) (by decide)
theorem pure_113 (e : Exts) (h : FuncId) (d : Option Tmp) : (Cx e).pure h 113 d = true := by simp [Cx,pureF,impF,impC]
@[go_sem] theorem keep_114 (e : Exts) : (Cx e).keep 114 = [0,1,9,8,10,7,6,2,22,4] := rfl
theorem fn_114 (e : Exts) : (Cx e).P.funcs[114]? = some Tryz.f114 := Tryz.func114
theorem ext_114 {e : Exts} (he : Quiet e) : (Cx e).ext 114 = none := he _ (by decide) (by decide) (by decide) (by decide)
theorem pure_114 (e : Exts) (h : FuncId) (d : Option Tmp) : (Cx e).pure h 114 d = true := by simp [Cx,pureF,impF,impC]
@[go_sem] theorem keep_124 (e : Exts) : (Cx e).keep 124 = [0,1,12,21,6,34,5,4] := rfl
theorem fn_124 (e : Exts) : (Cx e).P.funcs[124]? = some Tryz.f124 := Tryz.func124
theorem ext_124 {e : Exts} (he : Quiet e) : (Cx e).ext 124 = none := he _ (by decide) (by decide) (by decide) (by decide)
theorem pure_124 (e : Exts) (h : FuncId) (d : Option Tmp) : (Cx e).pure h 124 d = true := by simp [Cx,pureF,impF,impC]
@[go_sem] theorem keep_125 (e : Exts) : (Cx e).keep 125 = [0,1,4] := rfl
theorem fn_125 (e : Exts) : (Cx e).P.funcs[125]? = some Tryz.f125 := Tryz.func125
theorem ext_125 {e : Exts} (he : Quiet e) : (Cx e).ext 125 = none := he _ (by decide) (by decide) (by decide) (by decide)
@[go_sem] theorem keep_132 (e : Exts) : (Cx e).keep 132 = [0,2] := rfl
theorem fn_132 (e : Exts) : (Cx e).P.funcs[132]? = some Tryz.f132 := Tryz.func132
theorem ext_132 {e : Exts} (he : Quiet e) : (Cx e).ext 132 = none := he _ (by decide) (by decide) (by decide) (by decide)
theorem pure_132 (e : Exts) (h : FuncId) (d : Option Tmp) : (Cx e).pure h 132 d = true := by simp [Cx,pureF,impF,impC]
@[go_sem] theorem keep_145 (e : Exts) : (Cx e).keep 145 = [4,0,9,5,16,2,3] := rfl
theorem fn_145 (e : Exts) : (Cx e).P.funcs[145]? = some Tryz.f145 := Tryz.func145
theorem ext_145 {e : Exts} (he : Quiet e) : (Cx e).ext 145 = none := he _ (by decide) (by decide) (by decide) (by decide)
theorem pure_145 (e : Exts) (h : FuncId) (d : Option Tmp) : (Cx e).pure h 145 d = true := by simp [Cx,pureF,impF,impC]
@[go_sem] theorem keep_146 (e : Exts) : (Cx e).keep 146 = [0,7,1,12,4] := rfl
theorem fn_146 (e : Exts) : (Cx e).P.funcs[146]? = some Tryz.f146 := Tryz.func146
theorem ext_146 {e : Exts} (he : Quiet e) : (Cx e).ext 146 = none := he _ (by decide) (by decide) (by decide) (by decide)
theorem pure_146 (e : Exts) (h : FuncId) (d : Option Tmp) : (Cx e).pure h 146 d = true := by simp [Cx,pureF,impF,impC]
@[go_sem] theorem keep_147 (e : Exts) : (Cx e).keep 147 = [0,7,1,15,4] := rfl
theorem fn_147 (e : Exts) : (Cx e).P.funcs[147]? = some Tryz.f147 := Tryz.func147
theorem ext_147 {e : Exts} (he : Quiet e) : (Cx e).ext 147 = none := he _ (by decide) (by decide) (by decide) (by decide)
theorem pure_147 (e : Exts) (h : FuncId) (d : Option Tmp) : (Cx e).pure h 147 d = true := by simp [Cx,pureF,impF,impC]
@[go_sem] theorem keep_150 (e : Exts) : (Cx e).keep 150 = [0,1,2,4,3,5,6] := rfl
theorem fn_150 (e : Exts) : (Cx e).P.funcs[150]? = some Tryz.f150 := Tryz.func150
theorem ext_150 {e : Exts} (he : Quiet e) : (Cx e).ext 150 = none := he _ (by decide) (by decide) (by decide) (by decide)
@[go_sem] theorem keep_168 (e : Exts) : (Cx e).keep 168 = [0,1,4] := rfl
theorem fn_168 (e : Exts) : (Cx e).P.funcs[168]? = some Tryz.f168 := Tryz.func168
theorem ext_168 {e : Exts} (he : Quiet e) : (Cx e).ext 168 = none := he _ (by decide) (by decide) (by decide) (by decide)
theorem pure_168 (e : Exts) (h : FuncId) (d : Option Tmp) : (Cx e).pure h 168 d = true := by simp [Cx,pureF,impF,impC]
@[go_sem] theorem keep_172 (e : Exts) : (Cx e).keep 172 = [1,11,2,14,0,6,25,7,33,3,8,42] := rfl
theorem fn_172 (e : Exts) : (Cx e).P.funcs[172]? = some Tryz.f172 := Tryz.func172
@[go_sem] theorem keep_173 (e : Exts) : (Cx e).keep 173 = [0,1,4] := rfl
theorem fn_173 (e : Exts) : (Cx e).P.funcs[173]? = some Tryz.f173 := Tryz.func173
theorem ext_173 {e : Exts} (he : Quiet e) : (Cx e).ext 173 = none := he _ (by decide) (by decide) (by decide) (by decide)
theorem pure_173 (e : Exts) (h : FuncId) (d : Option Tmp) : (Cx e).pure h 173 d = true := by simp [Cx,pureF,impF,impC]
@[go_sem] theorem keep_188 (e : Exts) : (Cx e).keep 188 = [1,5,0,16,24,31,36,8,9,59,6,64,11,73,7,93,10,107,12,114,132,13,139,4] := rfl
theorem fn_188 (e : Exts) : (Cx e).P.funcs[188]? = some Tryz.f188 := Tryz.func188
theorem ext_188 {e : Exts} (he : Quiet e) : (Cx e).ext 188 = none := he _ (by decide) (by decide) (by decide) (by decide)
theorem pure_188 (e : Exts) (h : FuncId) (d : Option Tmp) : (Cx e).pure h 188 d = true := by simp [Cx,pureF,impF,impC]
@[go_sem] theorem keep_195 (e : Exts) : (Cx e).keep 195 = [0,1,4] := rfl
theorem fn_195 (e : Exts) : (Cx e).P.funcs[195]? = some Tryz.f195 := Tryz.func195
theorem ext_195 {e : Exts} (he : Quiet e) : (Cx e).ext 195 = none := he _ (by decide) (by decide) (by decide) (by decide)
theorem pure_195 (e : Exts) (h : FuncId) (d : Option Tmp) : (Cx e).pure h 195 d = true := by simp [Cx,pureF,impF,impC]
theorem isagg_3 : isAggT Tryz.prog 3 = some false := by kernel_rfl
@[go_sem] theorem part_3 (cs : List AV) (k : Nat) : partOf Tryz.prog 3 cs k = cs[k]? := partOf_one cs k isagg_3 size_3
theorem isagg_4 : isAggT Tryz.prog 4 = some false := by kernel_rfl
@[go_sem] theorem part_4 (cs : List AV) (k : Nat) : partOf Tryz.prog 4 cs k = cs[k]? := partOf_one cs k isagg_4 size_4
@[go_sem] theorem store_4 (H : Heap) (b v k : Nat) (x : AV) : storeA Tryz.prog H 4 (.ptr b v k) x = if x.cells.length = 1 then storeCells H b v k x.cells else none := by unfold storeA;rw [size_4]
theorem isagg_9 : isAggT Tryz.prog 9 = some false := by kernel_rfl
@[go_sem] theorem part_9 (cs : List AV) (k : Nat) : partOf Tryz.prog 9 cs k = cs[k]? := partOf_one cs k isagg_9 size_9
@[go_sem] theorem store_9 (H : Heap) (b v k : Nat) (x : AV) : storeA Tryz.prog H 9 (.ptr b v k) x = if x.cells.length = 1 then storeCells H b v k x.cells else none := by unfold storeA;rw [size_9]
theorem und_9 : Tryz.prog.underlying 9 = some .string := by kernel_rfl
@[go_sem] theorem len_9 (H : Heap) (s : ByteArray) : lenA Tryz.prog H [9] [.v (.string s)] = some (.v (.int .i64 s.size)) := len_str und_9 H s []
@[go_sem] theorem idx_9 (s : ByteArray) (k : IntKind) (n : Int) : indexA Tryz.prog 9 (.v (.string s)) (.v (.int k n)) = if 0 ≤ n then (strAt s n.toNat).map fun b => .v (.int .u8 b.toNat) else none := index_str und_9 s k n
theorem isagg_28 : isAggT Tryz.prog 28 = some true := by kernel_rfl
@[go_sem] theorem part_28 (cs : List AV) (k : Nat) : partOf Tryz.prog 28 cs k = if k + 3 ≤ cs.length then some (.agg ((cs.drop k).take 3)) else none := partOf_agg cs k isagg_28 size_28
theorem foff_28_0 : fieldOff Tryz.prog 28 0 = some (0,1) := by kernel_rfl
@[go_sem] theorem fptr_28_0 (b v k : Nat) : fieldAddrA Tryz.prog 28 (.ptr b v k) 0 = some (.ptr b v (k + 0)) := fieldAddr_ptr foff_28_0 b v k
theorem foff_28_1 : fieldOff Tryz.prog 28 1 = some (1,1) := by kernel_rfl
@[go_sem] theorem fptr_28_1 (b v k : Nat) : fieldAddrA Tryz.prog 28 (.ptr b v k) 1 = some (.ptr b v (k + 1)) := fieldAddr_ptr foff_28_1 b v k
theorem foff_28_2 : fieldOff Tryz.prog 28 2 = some (2,1) := by kernel_rfl
@[go_sem] theorem fptr_28_2 (b v k : Nat) : fieldAddrA Tryz.prog 28 (.ptr b v k) 2 = some (.ptr b v (k + 2)) := fieldAddr_ptr foff_28_2 b v k
theorem isagg_30 : isAggT Tryz.prog 30 = some true := by kernel_rfl
@[go_sem] theorem part_30 (cs : List AV) (k : Nat) : partOf Tryz.prog 30 cs k = if k + 6 ≤ cs.length then some (.agg ((cs.drop k).take 6)) else none := partOf_agg cs k isagg_30 size_30
@[go_sem] theorem store_30 (H : Heap) (b v k : Nat) (x : AV) : storeA Tryz.prog H 30 (.ptr b v k) x = if x.cells.length = 6 then storeCells H b v k x.cells else none := by unfold storeA;rw [size_30]
theorem foff_30_0 : fieldOff Tryz.prog 30 0 = some (0,3) := by kernel_rfl
@[go_sem] theorem fptr_30_0 (b v k : Nat) : fieldAddrA Tryz.prog 30 (.ptr b v k) 0 = some (.ptr b v (k + 0)) := fieldAddr_ptr foff_30_0 b v k
theorem foff_30_1 : fieldOff Tryz.prog 30 1 = some (3,1) := by kernel_rfl
@[go_sem] theorem fptr_30_1 (b v k : Nat) : fieldAddrA Tryz.prog 30 (.ptr b v k) 1 = some (.ptr b v (k + 3)) := fieldAddr_ptr foff_30_1 b v k
theorem foff_30_2 : fieldOff Tryz.prog 30 2 = some (4,1) := by kernel_rfl
@[go_sem] theorem fptr_30_2 (b v k : Nat) : fieldAddrA Tryz.prog 30 (.ptr b v k) 2 = some (.ptr b v (k + 4)) := fieldAddr_ptr foff_30_2 b v k
theorem foff_30_3 : fieldOff Tryz.prog 30 3 = some (5,1) := by kernel_rfl
@[go_sem] theorem fptr_30_3 (b v k : Nat) : fieldAddrA Tryz.prog 30 (.ptr b v k) 3 = some (.ptr b v (k + 5)) := fieldAddr_ptr foff_30_3 b v k
theorem und_31 : Tryz.prog.underlying 31 = some (.slice 30) := by kernel_rfl
@[go_sem] theorem len_31 (H : Heap) (x : AV) : lenA Tryz.prog H [31] [x] = slLen x := len_sl und_31 H x
@[go_sem] theorem idx_31 (x y : AV) : indexAddrA Tryz.prog 31 x y = slIdx 6 x y := idx_sl und_31 size_30 x y
@[go_sem] theorem bsl_31 (mt : Bool) (H : Heap) (slot len : Nat) (parts : List (Nat × AV)) : buildSliceA Tryz.prog mt H slot 31 len parts = if len * 6 ≤ 65536 then (fillA (fun i => some (i * 6,6)) (repeatCells [.v (.int .i64 0),.v (.int .i64 0),.v (.int .i64 0),.v (.string ⟨#[]⟩),.v (.string ⟨#[]⟩),.v (.string ⟨#[]⟩)] len) parts).bind (bsFin mt 30 6 H slot len) else none := buildSl_eq und_31 size_30 zero_30 (by decide) rfl mt H slot len parts
theorem und_48 : Tryz.prog.underlying 48 = some (.slice 3) := by kernel_rfl
@[go_sem] theorem len_48 (H : Heap) (x : AV) : lenA Tryz.prog H [48] [x] = slLen x := len_sl und_48 H x
@[go_sem] theorem idx_48 (x y : AV) : indexAddrA Tryz.prog 48 x y = slIdx 1 x y := idx_sl und_48 size_3 x y
@[go_sem] theorem bsl_48 (mt : Bool) (H : Heap) (slot len : Nat) (parts : List (Nat × AV)) : buildSliceA Tryz.prog mt H slot 48 len parts = if len * 1 ≤ 65536 then (fillA (fun i => some (i * 1,1)) (repeatCells [.v (.int .i64 0)] len) parts).bind (bsFin mt 3 1 H slot len) else none := buildSl_eq und_48 size_3 zero_3 (by decide) rfl mt H slot len parts
theorem und_87 : Tryz.prog.underlying 87 = some (.slice 9) := by kernel_rfl
@[go_sem] theorem len_87 (H : Heap) (x : AV) : lenA Tryz.prog H [87] [x] = slLen x := len_sl und_87 H x
@[go_sem] theorem idx_87 (x y : AV) : indexAddrA Tryz.prog 87 x y = slIdx 1 x y := idx_sl und_87 size_9 x y
@[go_sem] theorem bsl_87 (mt : Bool) (H : Heap) (slot len : Nat) (parts : List (Nat × AV)) : buildSliceA Tryz.prog mt H slot 87 len parts = if len * 1 ≤ 65536 then (fillA (fun i => some (i * 1,1)) (repeatCells [.v (.string ⟨#[]⟩)] len) parts).bind (bsFin mt 9 1 H slot len) else none := buildSl_eq und_87 size_9 zero_9 (by decide) rfl mt H slot len parts
theorem foff_170_0 : fieldOff Tryz.prog 170 0 = some (0,1) := by kernel_rfl
@[go_sem] theorem fptr_170_0 (b v k : Nat) : fieldAddrA Tryz.prog 170 (.ptr b v k) 0 = some (.ptr b v (k + 0)) := fieldAddr_ptr foff_170_0 b v k
theorem foff_170_1 : fieldOff Tryz.prog 170 1 = some (1,1) := by kernel_rfl
@[go_sem] theorem fptr_170_1 (b v k : Nat) : fieldAddrA Tryz.prog 170 (.ptr b v k) 1 = some (.ptr b v (k + 1)) := fieldAddr_ptr foff_170_1 b v k
@[go_sem] theorem build_170 (ps : List (Nat × AV)) : buildA Tryz.prog 170 ps = (fillA (fun i => ([(0,1),(1,1)] : List (Nat × Nat))[i]?) [.v (.int .i64 0),.v (.int .i64 0)] ps).map .agg := by kernel_rfl
theorem isagg_209 : isAggT Tryz.prog 209 = some true := by kernel_rfl
@[go_sem] theorem part_209 (cs : List AV) (k : Nat) : partOf Tryz.prog 209 cs k = if k + 256 ≤ cs.length then some (.agg ((cs.drop k).take 256)) else none := partOf_agg cs k isagg_209 size_209
@[go_sem] theorem store_209 (H : Heap) (b v k : Nat) (x : AV) : storeA Tryz.prog H 209 (.ptr b v k) x = if x.cells.length = 256 then storeCells H b v k x.cells else none := by unfold storeA;rw [size_209]
theorem und_209 : Tryz.prog.underlying 209 = some (.array 256 4) := by kernel_rfl
@[go_sem] theorem idx_209 (x y : AV) : indexAddrA Tryz.prog 209 x y = arIdx 256 1 x y := idx_ar und_209 size_4 x y
attribute [go_sem] repeatCells splice chunk bsFin ne_eq not_true_eq_false not_false_eq_true List.headD_cons Bool.false_eq_true Nat.le_refl Nat.zero_mul Nat.one_mul Nat.mul_one decide_true decide_false Bool.not_true Bool.not_false List.mem_cons List.not_mem_nil true_or or_true false_or or_false and_true true_and and_self List.getElem?_cons_succ List.getElem?_cons_zero Option.bind_some Option.map_some Option.map_none List.map_cons List.map_nil List.length_cons List.length_nil List.filterMap_cons List.filterMap_nil List.cons_append List.nil_append List.append_nil Nat.zero_add Nat.add_zero List.take_succ_cons List.take_zero List.take_nil List.drop_succ_cons List.drop_zero List.drop_nil List.all_cons List.all_nil Bool.and_true Bool.true_and Bool.false_and Bool.and_false beq_iff_eq beq_self_eq_true
attribute [go_sem_proc] Nat.reduceEqDiff Nat.reduceLT Nat.reduceLeDiff Nat.reduceAdd Nat.reduceSub Nat.reduceMul reduceCtorEq
theorem callA_none {C : Cfg} {rec : Task → Option Out} {me f : FuncId} {d : Option Tmp} {args : List AV} {H : Heap} (hx : C.ext f = none) (hh : C.exh f = none) : callA C rec me f d args H = callB C rec me f d args H := by unfold callA standA standH;rw [hx];simp only;rw [hh]
end Go.Ev
namespace Go.Ev
open Go.Proofs
def withinB (lo hi : Int) (ns : List Int) : Bool := ns.all fun n => decide (lo ≤ n) && decide (n ≤ hi)
def intA (n : Int) : AV := .v (.int .i64 n)
def letter (c : UInt8) : Bool := decide (97 ≤ (c.toNat : Int)) && decide ((c.toNat : Int) ≤ 122)
def lettersB (s : ByteArray) (j : Nat) : Bool := (s.data.toList.drop j).all letter
def wordB (s : ByteArray) : Bool := withinB 1 12 [(s.size : Int)] && lettersB s 0
theorem strAt_lt (s : ByteArray) (j : Nat) (h : j < s.size) : strAt s j = some (s.data.toList[j]'(by simpa using h)) := by
 unfold strAt;exact List.getElem?_eq_getElem _
end Go.Ev
namespace Go.Ev
open Go.Proofs
def loops : Code → List Code
 | .loop b => b :: loops b
 | .seq a b => loops a ++ loops b
 | .block _ a => loops a
 | .scope a => loops a
 | .cond _ a b => loops a ++ loops b
 | .rangeFunc _ _ _ b => loops b
 | _ => []
theorem range1 (lo hi n : Int) : withinB lo hi [n] = (decide (lo ≤ n) && decide (n ≤ hi)) := by simp [withinB]
theorem ans43 {e : Exts} (n lo hi : Int) : Ans (Cx e) 92 [intA n,intA lo,intA hi] (.v (.bool (withinB lo hi [n]))) := by
 unfold Ans
 rw [fn_step (fn_92 e) (show Tryz.f92.body = some _ from rfl),range1]
 by_cases h1 : lo ≤ n
 ·simp -implicitDefEqProofs only [Tryz.f92,intA,go_sem,↓reduceIte,h1]
 ·simp -implicitDefEqProofs only [Tryz.f92,intA,go_sem,↓reduceIte,h1,Bool.false_and]
theorem call43 {e : Exts} (he : Quiet e) (n lo hi : Int) (me : FuncId) (d : Option Tmp) (H : Heap) : callA (Cx e) (lim (Cx e)) me 92 d [.v (.int .i64 n),.v (.int .i64 lo),.v (.int .i64 hi)] H = some (.v (.bool (withinB lo hi [n])),H) :=
 (ans43 n lo hi).call (ext_92 he) (pure_92 _ _ _) rfl H
noncomputable def body61 : Code := ((Tryz.f89.body.map loops).getD [])[0]?.getD .skip
theorem loop61 {e : Exts} (s : ByteArray) (hn : s.size < 2 ^ 63) (H : Heap) (K : Post) :
  ∀ m j : Nat,j + m = s.size → (lettersB s j = true → AtK K (.exit 0) ⟨23,[(0,.v (.string s)),(2,.v (.bool false)),(3,intA s.size)],[]⟩ H) → (lettersB s j = false → ∀ l,assoc 2 l = some (.v (.bool false)) → AtK K .ret ⟨23,l,[]⟩ H) →
  Lp (Cx e) 89 none [0,2,3] body61 ⟨23,[(0,.v (.string s)),(2,.v (.bool false)),(3,intA j)],[]⟩ H K := by
 intro m
 induction m with
 | zero =>
  intro j hj h1 h2
  rw [Lp_step]
  generalize hK : loopK (Cx e) 89 none [0,2,3] body61 H.size K = KK
  unfold body61
  obtain rfl : j = s.size := by omega
  simp -implicitDefEqProofs only [Tryz.f89,loops,Option.map_some,Option.getD_some,intA,go_sem,↓reduceIte,Int.lt_irrefl]
  subst hK
  simp -implicitDefEqProofs only [go_sem,↓reduceIte]
  exact h1 (by unfold lettersB;rw [List.drop_of_length_le (by simp)];rfl)
 | succ m ih =>
  intro j hj h1 h2
  rw [Lp_step]
  generalize hK : loopK (Cx e) 89 none [0,2,3] body61 H.size K = KK
  unfold body61
  have hlt : (j : Int) < (s.size : Int) := by omega
  have hy := strAt_lt s j (by omega)
  have hjl : j < s.data.toList.length := by simp;omega
  have hw := wrap_succ j (by omega)
  have hj0 : (0 : Int) ≤ (j : Int) := by omega
  generalize hc : s.data.toList[j] = c at hy
  have hd : lettersB s j = (letter c && lettersB s (j + 1)) := by
   unfold lettersB
   rw [List.drop_eq_getElem_cons (by simp;omega),← hc];rfl
  simp only [Tryz.f89,loops,Option.map_some,Option.getD_some,List.nil_append,List.append_nil,List.cons_append,List.getElem?_cons_zero]
  by_cases c1 : (c.toNat : Int) < 97
  ·simp -implicitDefEqProofs only [go_sem,↓reduceIte,intA,hlt,hw,hy,c1,hj0,Int.toNat_natCast]
   subst hK
   simp -implicitDefEqProofs only [go_sem,↓reduceIte]
   exact h2 (by rw [hd];simp [letter];omega) _ rfl
  ·by_cases c2 : 122 < (c.toNat : Int)
   ·simp -implicitDefEqProofs only [go_sem,↓reduceIte,intA,hlt,hw,hy,c1,c2,hj0,Int.toNat_natCast]
    subst hK
    simp -implicitDefEqProofs only [go_sem,↓reduceIte]
    exact h2 (by rw [hd];simp [letter];omega) _ rfl
   ·simp -implicitDefEqProofs only [go_sem,↓reduceIte,intA,hlt,hw,hy,c1,c2,hj0,Int.toNat_natCast]
    subst hK
    simp -implicitDefEqProofs only [go_sem,↓reduceIte]
    have hd' : lettersB s j = lettersB s (j + 1) := by rw [hd];simp [letter];omega
    rw [hd'] at h1 h2
    exact ih (j + 1) (by omega) h1 h2
theorem ans61 {e : Exts} (he : Quiet e) (s : ByteArray) (hn : s.size < 2 ^ 63) : Ans (Cx e) 89 [.v (.string s)] (.v (.bool (wordB s))) := by
 unfold Ans
 rw [fn_step (fn_89 e) (show Tryz.f89.body = some _ from rfl)]
 simp -implicitDefEqProofs only [Tryz.f89,intA,go_sem,↓reduceIte]
 refine loop61 s hn _ _ s.size 0 (by omega) ?_ ?_
 ·intro h
  simp -implicitDefEqProofs only [intA,go_sem,↓reduceIte,call43 he]
  unfold wordB;rw [h,Bool.and_true]
 ·intro h l hl
  simp -implicitDefEqProofs only [go_sem,↓reduceIte,hl]
  unfold wordB;rw [h,Bool.and_false]
end Go.Ev
namespace Go.Ev
open Go.Proofs
def All2 {α β : Type} (R : α → β → Prop) (l : List α) (m : List β) : Prop := l.length = m.length ∧ ∀ (i : Nat) a b,l[i]? = some a → m[i]? = some b → R a b
theorem All2.get {α β : Type} {R : α → β → Prop} {l : List α} {m : List β} (h : All2 R l m) {i : Nat} {a : α} (ha : l[i]? = some a) : ∃ b,m[i]? = some b ∧ R a b := by
 have hi := (List.getElem?_eq_some_iff.1 ha).1
 exact ⟨m[i]'(h.1 ▸ hi),List.getElem?_eq_getElem _,h.2 i a _ ha (List.getElem?_eq_getElem _)⟩
def strs (ws : List ByteArray) : List AV := ws.map fun s => .v (.string s)
abbrev Line := List ByteArray
abbrev Chap := Int × List Line
abbrev Txt := List Chap
def LineA (ws : Line) (x : AV) : Prop := SlOf 1 (strs ws) x
theorem strs_get {ws : Line} {i : Nat} {s : ByteArray} (h : ws[i]? = some s) : (strs ws)[i]? = some (.v (.string s)) := by
 unfold strs;rw [List.getElem?_map,h];rfl
theorem strs_len (ws : Line) : (strs ws).length = ws.length := by simp [strs]
end Go.Ev
namespace Go.Ev
open Go.Proofs
theorem at_lt {α : Type} (l : List α) (j : Nat) (h : j < l.length) : ∃ x,l[j]? = some x := ⟨l[j],List.getElem?_eq_getElem h⟩
end Go.Ev
namespace Go.Ev
open Go.Proofs
def lineB (l : Line) : Bool := withinB 1 10 [(l.length : Int)] && l.all wordB
def idB (t : Txt) (id : Int) (j n : Nat) : Bool := ((t.take n).drop j).any fun c => decide (c.1 = id)
def condC (t : Txt) (i : Nat) (c : Chap) : Bool := withinB 0 9999 [c.1] && withinB 1 10 [(c.2.length : Int)] && !idB t c.1 0 i && c.2.all lineB
def okFrom (t : Txt) : Nat → Txt → Bool
 | _,[] => true
 | j,c :: r => condC t j c && okFrom t (j + 1) r
def textB (t : Txt) : Bool := withinB 1 6 [(t.length : Int)] && okFrom t 0 t
end Go.Ev
namespace Go.Ev
def Heap.plus (H : Heap) (E : List (Option AObj)) : Heap := { H with objs := H.objs ++ E }
theorem plus_size (H : Heap) (E : List (Option AObj)) : (H.plus E).size = H.size + E.length := by simp [Heap.plus,Heap.size]
theorem plus_nil (H : Heap) : H.plus [] = H := by simp [Heap.plus]
theorem plus_plus (H : Heap) (E F : List (Option AObj)) : (H.plus E).plus F = H.plus (E ++ F) := by simp [Heap.plus]
theorem plus_get {H : Heap} {b : Nat} (E : List (Option AObj)) (h : b < H.size) : (H.plus E).get b = H.get b := by
 unfold Heap.get Heap.plus;simp only;rw [List.getElem?_append_left h]
theorem plus_get_hi {H : Heap} {b : Nat} (E : List (Option AObj)) (h : H.size ≤ b) : (H.plus E).get b = (E[b - H.size]?).join := by
 unfold Heap.get Heap.plus;simp only;rw [List.getElem?_append_right h];rfl
theorem plus_row {H : Heap} {b v : Nat} (E : List (Option AObj)) (h : b < H.size) : (H.plus E).row b v = H.row b v := by
 unfold Heap.row;rw [plus_get E h]
theorem sop_right {α : Type} (x : α) : ∀ (b : Nat) (l E : List α),l.length ≤ b → setOrPush x b (l ++ E) = l ++ setOrPush x (b - l.length) E
 | b,[],E,_ => rfl
 | 0,y :: r,E,h => by simp at h
 | n + 1,y :: r,E,h => by
  simp only [List.cons_append,setOrPush];rw [sop_right x n r E (by simpa using h)];simp
theorem plus_put_hi {H : Heap} {b : Nat} (E : List (Option AObj)) (o : AObj) (h : H.size ≤ b) : (H.plus E).put b o = H.plus (setOrPush (some o) (b - H.size) E) := by
 unfold Heap.put Heap.plus;simp only;rw [sop_right _ _ _ _ h];rfl
theorem put_push {H : Heap} (o : AObj) : H.put H.size o = H.plus [some o] := by
 have h := plus_put_hi (H := H) (b := H.size) [] o (Nat.le_refl _)
 rw [plus_nil] at h
 rw [h,Nat.sub_self];rfl
theorem plus_push {H : Heap} (E : List (Option AObj)) (o : AObj) : (H.plus E).put (H.plus E).size o = H.plus (E ++ [some o]) := by rw [put_push,plus_plus]
section
variable {C : Cfg} {me : FuncId}
def bodyK (l n : Nat) (K : Bool → Heap → Prop) : Post := fun e _ H3 =>
 ∃ r3 j,loopObj H3 l = some r3 ∧ jumpOf e = some j ∧ K j.isNone ((H3.put l (.loop { r3 with state := if j.isNone then .ready else .done,pending := j })).trim n [] [])
def asgK (C : Cfg) (l n : Nat) (r : ALoop) (K : Bool → Heap → Prop) : Post := fun e a1 H1 =>
 e = .normal ∧ ∃ r1,loopObj H1 l = some r1 ∧ r1.state = .ready ∧ Wp C r.fn (some l) r.body a1 (H1.put l (.loop { r1 with state := .busy })) (bodyK l n K)
theorem round_step {l : Nat} {args : List AV} {H : Heap} {r : ALoop} {K : Bool → Heap → Prop} (hr : loopObj H l = some r) (ha : args.length = r.params.size) (hl : H.lock ≤ l)
  (h : Wp C r.fn (some l) r.assign ⟨r.size,setTmps r.size r.tmps (r.params.toList.zip args),[]⟩ H (asgK C l H.size r K)) :
  ∃ b H',lim C (.round l args H) = some (.ret (.v (.bool b)) H') ∧ K b H' := by
 unfold Wp at h
 rw [bindO_iff] at h
 obtain ⟨⟨e1,a1,H1⟩,h1,he,r1,hr1,hs1,h2⟩ := h
 simp only at he h2 hr1
 subst he
 unfold Wp at h2
 rw [bindO_iff] at h2
 obtain ⟨⟨e2,a2,H3⟩,h3,r3,j,hr3,hj,hK⟩ := h2
 simp only at hr3 hj hK
 refine ⟨j.isNone,_, ?_,hK⟩
 rw [lim_eq]
 simp only [taskA,hr]
 rw [if_pos ⟨ha,hl⟩,h1]
 simp only [hr1,hs1,if_true,h3,hr3,hj]
def runIt {S : Type} (stp : S → List AV → Bool × S) : List (List AV) → S → Bool × S
 | [],s => (true,s)
 | x :: r,s => if (stp s x).1 then runIt stp r (stp s x).2 else (false,(stp s x).2)
theorem callB_yld {f : FuncId} {d : Option Tmp} {args : List AV} {l : Nat} (hy : AV.yld l ∈ args) {H H' : Heap} {v : AV} (h : lim C (.call f args H) = some (.ret v H')) : callB C (lim C) me f d args H = some (v,H'.trim H.size [v] []) := by
 have hb : Nat.beq (boundL args) 0 = false := by
  have h1 : ¬ boundL args ≤ 0 := fun hle => by
   have := boundL_le.1 hle _ hy
   simp [bound] at this
  cases hq : Nat.beq (boundL args) 0
  ·rfl
  ·exact absurd (Nat.le_of_eq (Nat.eq_of_beq_eq_true hq)) h1
 have hany : args.any isYld = true := List.any_eq_true.2 ⟨_,hy,rfl⟩
 have hk : callKind C me f d args = 0 := by
  unfold callKind;rw [hb,hany];split <;> rfl
 unfold callB;rw [hk];simp only [h]
theorem wp_range0 {g : Operand} {ps : Array Tmp} {asg body : Code} {a : AAct} {H : Heap} {K : Post} {f : FuncId} {first cap : List AV} (hg : a.eval g = some (.fn (.func f) first cap))
  {v : AV} {H2 : Heap} (hc : callB C (lim C) me f none (first ++ [.yld (H.size + 1)] ++ cap) ((H.put H.size .dfr).put (H.size + 1) (.loop { fn := me,state := .ready,pending := none,size := a.size,tmps := a.tmps,params := ps,assign := asg,body := body,dfr := H.size })) = some (v,H2))
  {r : ALoop} (hr : loopObj H2 (H.size + 1) = some r) (hs : r.state ≠ .busy) (hd : r.dfr = H.size)
  (hK : match r.pending with
   | none => AtK K .normal { a with marks := H.size :: a.marks } (H2.put (H.size + 1) .dead)
   | some .ret => AtK K .ret { a with marks := H.size :: a.marks } (H2.put (H.size + 1) .dead)
   | some (.exit id) => AtK K (.exit id) { a with marks := H.size :: a.marks } (H2.put (H.size + 1) .dead)
   | _ => False) : Wp C me none (.rangeFunc g ps asg body) a H K := by
 unfold Wp
 simp only [codeA,hg,hc,hr]
 rw [if_neg (by rintro (h | h);exact hs h;exact h hd)]
 split at hK
 ·rename_i hp;simp only [hp];exact hK
 ·rename_i hp;simp only [hp];exact hK
 ·rename_i hp;simp only [hp];exact hK
 ·exact hK.elim
end
end Go.Ev
namespace Go.Ev
theorem plus_mid_put {X : Heap} {n : Nat} (hn : X.size = n) (A B : List (Option AObj)) (o : Option AObj) (o' : AObj) : (X.plus (A ++ o :: B)).put (n + A.length) o' = X.plus (A ++ some o' :: B) := by
 subst hn
 rw [plus_put_hi _ _ (by omega)]
 congr 1
 rw [sop_right _ _ _ _ (by omega)]
 congr 1
 rw [show X.size + A.length - X.size - A.length = 0 by omega];rfl
theorem plus_mid_get {X : Heap} {n : Nat} (hn : X.size = n) (A B : List (Option AObj)) (o : Option AObj) : (X.plus (A ++ o :: B)).get (n + A.length) = o := by
 subst hn
 rw [plus_get_hi _ (by omega)]
 rw [show X.size + A.length - X.size = A.length by omega,List.getElem?_append_right (Nat.le_refl _),Nat.sub_self];rfl
theorem plus_put_end {X : Heap} {n : Nat} (hn : X.size = n) (E : List (Option AObj)) (o : AObj) : (X.plus E).put (n + E.length) o = X.plus (E ++ [some o]) := by
 subst hn;rw [← plus_size];exact plus_push E o
end Go.Ev
namespace Go.Ev
end Go.Ev
namespace Go.Ev
section
variable {C : Cfg}
theorem asgK_mk {l n : Nat} {r r1 : ALoop} {K : Bool → Heap → Prop} {a1 : AAct} {H1 : Heap} (h1 : loopObj H1 l = some r1) (hs : r1.state = .ready) (h : Wp C r.fn (some l) r.body a1 (H1.put l (.loop { r1 with state := .busy })) (bodyK l n K)) : AtK (asgK C l n r K) .normal a1 H1 :=
 ⟨rfl,r1,h1,hs,h⟩
theorem bodyK_mk {l n : Nat} {K : Bool → Heap → Prop} {e : AExit} {a : AAct} {H3 : Heap} {r3 : ALoop} {j : Option Code} (h1 : loopObj H3 l = some r3) (hj : jumpOf e = some j) (h : K j.isNone ((H3.put l (.loop { r3 with state := if j.isNone then .ready else .done,pending := j })).trim n [] [])) : AtK (bodyK l n K) e a H3 :=
 ⟨r3,j,h1,hj,h⟩
def wBox (l t : Nat) : AObj := .cells 0 (l + 1) t 1 false [.yld l]
def hq {S : Type} (hp : S → Heap) (E : List (Option AObj)) (l t : Nat) (q : S × ALoop) : Heap := (hp q.1).plus (E ++ [some (wBox l t),some .dfr,some (.loop q.2)])
variable {l t n : Nat} {S : Type} {hp : S → Heap} {stp : S → List AV → Bool × S} {ok : List AV → Prop} {live : S → Prop}
end
end Go.Ev
namespace Go.Ev
open Go.Proofs
def slElems (x : AV) : List AV := match x with | .vs _ xs _ => xs | _ => []
theorem SlOf.elems {sz : Nat} {xs : List AV} {x : AV} (h : SlOf sz xs x) : slElems x = xs := by
 rcases h with ⟨rfl,rfl⟩ | ⟨cap,rfl⟩ <;> rfl
def OkCh (y : AV) : Prop := ∃ id l0 lxs,y = .agg [intA id,l0] ∧ SlOf 1 lxs l0 ∧ (∀ x ∈ lxs,x.cells = [x]) ∧ lxs.length < 2 ^ 63
theorem fn_ex {C : Cfg} {f : FuncId} {args : List AV} {H : Heap} {K : PostO} (h : Fn' C f args H K) : ∃ v H',lim C (.call f args H) = some (.ret v H') ∧ K v H' := by
 unfold Fn' at h
 rw [bindO_iff] at h
 obtain ⟨o,h1,h2⟩ := h
 cases o with
 | ret v H' => exact ⟨v,H',h1,h2⟩
 | go => exact h2.elim
end Go.Ev
namespace Go.Ev
open Go.Proofs
end Go.Ev
namespace Go.Ev
open Go.Proofs
theorem setT_nil (n : Nat) (t : List (Tmp × AV)) : setTmps n t [] = t := rfl
theorem setT_cons (n : Nat) (t : List (Tmp × AV)) (d : Tmp) (v : AV) (r : List (Tmp × AV)) : setTmps n t ((d,v) :: r) = setTmps n (if d < n then setAssoc d v t else t) r := rfl
end Go.Ev
namespace Go.Ev
open Go.Proofs
theorem runIt_cons {S : Type} (stp : S → List AV → Bool × S) (x : List AV) (r : List (List AV)) (s : S) : runIt stp (x :: r) s = if (stp s x).1 then runIt stp r (stp s x).2 else (false,(stp s x).2) := rfl
def OkCh2 (y : AV) : Prop := ∃ id l0 lxs,y = .agg [intA id,l0] ∧ SlOf 1 lxs l0 ∧ lxs.length < 2 ^ 63 ∧ ∀ x ∈ lxs,∃ els,SlOf 1 els x ∧ (∀ z ∈ els,z.cells = [z]) ∧ els.length < 2 ^ 63
theorem OkCh2.ok {y : AV} (h : OkCh2 y) : OkCh y := by
 obtain ⟨id,l0,lxs,h1,h2,h3,h4⟩ := h
 exact ⟨id,l0,lxs,h1,h2,fun x hx => by obtain ⟨els,h5, -⟩ := h4 x hx;exact h5.cells,h3⟩
end Go.Ev
namespace Go.Ev
open Go.Proofs
end Go.Ev
namespace Go.Ev
open Go.Proofs
theorem All2.take {α β : Type} {R : α → β → Prop} {l : List α} {m : List β} (h : All2 R l m) (n : Nat) : All2 R (l.take n) (m.take n) := by
 refine ⟨by simp [h.1],fun i a b ha hb => ?_⟩
 rw [List.getElem?_take] at ha hb
 split at ha
 ·rename_i hi;rw [if_pos hi] at hb;exact h.2 i a b ha hb
 ·cases ha
end Go.Ev
namespace Go.Ev
open Go.Proofs
end Go.Ev
namespace Go.Ev
open Go.Proofs
def beforeB (a b : Int × Int × Int) : Bool := if a.1 ≠ b.1 then decide (a.1 < b.1) else if a.2.1 ≠ b.2.1 then decide (a.2.1 < b.2.1) else decide (a.2.2 < b.2.2)
end Go.Ev
namespace Go.Ev
def pend : AExit → Option Code
 | .normal => none
 | .ret => some .ret
 | .exit i => some (.exit i)
theorem jumpOf_pend (e : AExit) : jumpOf e = some (pend e) := by cases e <;> rfl
def isGo : AExit → Bool
 | .normal => true
 | _ => false
theorem pend_none (e : AExit) : (pend e).isNone = isGo e := by cases e <;> rfl
def foldE {S : Type} (stp : S → List AV → AExit × S) : List (List AV) → S → AExit × S
 | [],s => (.normal,s)
 | x :: r,s => match (stp s x).1 with | .normal => foldE stp r (stp s x).2 | e => (e,(stp s x).2)
theorem foldE_go {S : Type} {stp : S → List AV → AExit × S} {x : List AV} {r : List (List AV)} {s : S} (h : (stp s x).1 = .normal) : foldE stp (x :: r) s = foldE stp r (stp s x).2 := by
 simp only [foldE,h]
theorem foldE_out {S : Type} {stp : S → List AV → AExit × S} {x : List AV} {r : List (List AV)} {s : S} (h : (stp s x).1 ≠ .normal) : foldE stp (x :: r) s = stp s x := by
 simp only [foldE]
def busyL (me : FuncId) (n : Nat) (ts : List (Tmp × AV)) (ps : Array Tmp) (asg body : Code) (d : Nat) (st : LoopState) (p : Option Code) : ALoop := { fn := me,state := st,pending := p,size := n,tmps := ts,params := ps,assign := asg,body := body,dfr := d }
def stateOf (e : AExit) : LoopState := if (pend e).isNone then .ready else .done
section
variable {C : Cfg} {me : FuncId} {S : Type} {hb : S → Heap} {stp : S → List AV → AExit × S} {lv : S → Prop} {ok : List AV → Prop} {n0 : Nat}
theorem run_range (stp : S → List AV → AExit × S) : ∀ (items : List (List AV)) (s : S),runIt (fun (q : S × AExit) x => (isGo (stp q.1 x).1,((stp q.1 x).2,(stp q.1 x).1))) items (s,.normal) = (isGo (foldE stp items s).1,((foldE stp items s).2,(foldE stp items s).1))
 | [],s => rfl
 | x :: r,s => by
  have ih := run_range stp r (stp s x).2
  unfold runIt
  simp only
  cases h : (stp s x).1 with
  | normal =>
   rw [if_pos (show isGo .normal = true from rfl),ih,foldE_go h]
  | exit i => rw [if_neg (show ¬ isGo (.exit i) = true from fun h => nomatch h),foldE_out (by rw [h];intro h;cases h),h];rfl
  | ret => rw [if_neg (show ¬ isGo .ret = true from fun h => nomatch h),foldE_out (by rw [h];intro h;cases h),h];rfl
end
end Go.Ev
namespace Go.Ev
section
variable {C : Cfg} {me : FuncId} {rd : Option Nat}
abbrev Inv := Nat → AAct → Heap → Prop
def Again (P : Inv) (m : Nat) (a : AAct) (H : Heap) : Prop := ∃ m',m' < m ∧ P m' a H
@[congr] theorem Again_congr {P : Inv} {m : Nat} {a a' : AAct} {H H' : Heap} (ha : a = a') (hH : H = H') : Again P m a H = Again P m a' H' := by rw [ha,hH]
def itK (P : Inv) (m : Nat) (ks : List Tmp) (n : Nat) (K : Post) : Post := fun e a H =>
 match e with
 | .normal => Again P m (a.only ks) (H.trim n ((a.only ks).tmps.map (·.2)) (a.only ks).marks)
 | .exit i => AtK K (.exit i) (a.only ks) (H.trim n ((a.only ks).tmps.map (·.2)) (a.only ks).marks)
 | .ret => AtK K .ret a H
@[go_sem ↓] theorem itK_normal (P : Inv) (m : Nat) (ks : List Tmp) (n : Nat) (K : Post) (s : Nat) (l : List (Tmp × AV)) (ms : List Nat) (H : Heap) : AtK (itK P m ks n K) .normal ⟨s,l,ms⟩ H = bindO (nf (ks.filterMap fun k => (assoc k l).map fun v => (k,v))) fun l' => bindO (nf (H.trim n (l'.map (·.2)) ms)) fun H' => Again P m ⟨s,l',ms⟩ H' := rfl
@[go_sem ↓] theorem itK_exit (P : Inv) (m : Nat) (ks : List Tmp) (n i : Nat) (K : Post) (s : Nat) (l : List (Tmp × AV)) (ms : List Nat) (H : Heap) : AtK (itK P m ks n K) (.exit i) ⟨s,l,ms⟩ H = bindO (nf (ks.filterMap fun k => (assoc k l).map fun v => (k,v))) fun l' => bindO (nf (H.trim n (l'.map (·.2)) ms)) fun H' => AtK K (.exit i) ⟨s,l',ms⟩ H' := rfl
@[go_sem ↓] theorem itK_ret (P : Inv) (m : Nat) (ks : List Tmp) (n : Nat) (K : Post) (a : AAct) (H : Heap) : AtK (itK P m ks n K) .ret a H = AtK K .ret a H := rfl
theorem Lp_rule {ks : List Tmp} {c : Code} {K : Post} (P : Inv) (hstep : ∀ m a H,P m a H → Wp C me rd c a H (itK P m ks H.size K)) : ∀ m a H,P m a H → Lp C me rd ks c a H K := by
 intro m
 induction m using Nat.strongRecOn with
 | _ m ih =>
  intro a H hp
  rw [Lp_step]
  refine Wp_mono (hstep m a H hp) ?_
  intro e a' H' h
  cases e with
  | normal =>
   obtain ⟨m',hm,hp'⟩ := h
   exact ih m' hm _ _ hp'
  | exit i => exact h
  | ret => exact h
theorem Lp_ruleQ {ks : List Tmp} {c : Code} {K : Post} (P : Inv) (hstep : ∀ (Q : Inv) (KK : Post),(∀ m a H,P m a H → Q m a H) → (∀ e a H,AtK K e a H → AtK KK e a H) → ∀ m a H,P m a H → Wp C me rd c a H (itK Q m ks H.size KK)) : ∀ m a H,P m a H → Lp C me rd ks c a H K :=
 Lp_rule P (hstep P K (fun _ _ _ h => h) (fun _ _ _ h => h))
theorem Again.mk' {P : Inv} {m : Nat} {a : AAct} {H : Heap} (m' : Nat) (h : m' < m) (hp : P m' a H) : Again P m a H := ⟨m',h,hp⟩
end
end Go.Ev
namespace Go.Ev
open Go.Proofs
abbrev Plc := Nat × Nat × Nat
def plN (p : Plc) : AV := .agg [intA p.1,intA p.2.1,intA p.2.2]
theorem All2.cons {α β : Type} {R : α → β → Prop} {a : α} {l : List α} {m : List β} (h : All2 R (a :: l) m) : ∃ b m',m = b :: m' ∧ R a b ∧ All2 R l m' := by
 cases m with
 | nil => have := h.1;simp at this
 | cons b m' => exact ⟨b,m',rfl,h.2 0 a b rfl rfl,by simpa using h.1,fun i x y hx hy => h.2 (i + 1) x y (by simpa using hx) (by simpa using hy)⟩
end Go.Ev
namespace Go.Ev
open Go.Proofs
theorem okFrom_mem : ∀ (t t' : Txt) (j : Nat),okFrom t j t' = true → ∀ c ∈ t',withinB 1 10 [(c.2.length : Int)] = true ∧ c.2.all lineB = true
 | t,[],j,_,c,hc => by cases hc
 | t,c' :: r,j,h,c,hc => by
  simp only [okFrom,Bool.and_eq_true,condC] at h
  rcases List.mem_cons.1 hc with rfl | hc
  ·exact ⟨h.1.1.1.2,h.1.2⟩
  ·exact okFrom_mem t r (j + 1) h.2 c hc
structure Small (t : Txt) : Prop where
 chs : 1 ≤ t.length ∧ t.length ≤ 6
 lines : ∀ c ∈ t,1 ≤ c.2.length ∧ c.2.length ≤ 10
 words : ∀ c ∈ t,∀ l ∈ c.2,1 ≤ l.length ∧ l.length ≤ 10
 word : ∀ c ∈ t,∀ l ∈ c.2,∀ s ∈ l,wordB s = true
theorem small_of {t : Txt} (h : textB t = true) : Small t := by
 unfold textB at h
 simp only [Bool.and_eq_true] at h
 obtain ⟨h1,h2⟩ := h
 have hl : ∀ c ∈ t,∀ l ∈ c.2,lineB l = true := fun c hc l hl => List.all_eq_true.1 (okFrom_mem t t 0 h2 c hc).2 l hl
 refine ⟨?_,fun c hc => ?_,fun c hc l hlm => ?_,fun c hc l hlm s hs => ?_⟩
 ·rw [range1] at h1;simp at h1;omega
 ·have := (okFrom_mem t t 0 h2 c hc).1
  rw [range1] at this;simp at this;omega
 ·have := hl c hc l hlm
  unfold lineB at this
  rw [range1] at this;simp at this;omega
 ·have := hl c hc l hlm
  unfold lineB at this
  simp only [Bool.and_eq_true] at this
  exact List.all_eq_true.1 this.2 s hs
theorem wrap_nat (n : Nat) (h : n < 2 ^ 62) : IntKind.i64.wrap (n : Int) = (n : Int) := wrap_in _ (by omega) (by omega)
end Go.Ev
namespace Go.Ev
open Go.Proofs
def q15 (n : Int) (c : Nat) (_ : Plc) : Bool := decide (IntKind.i64.wrap c = n)
end Go.Ev
namespace Go.Ev
section
variable {P : Program}
theorem rp_bind {α β : Type} : ∀ (s : Sem α) (f : α → Sem β),runPure P (s >>= f) = (runPure P s).bind fun x => runPure P (f x) := by
 intro s f
 show runPure P (s.bind f) = _
 induction s with
 | pure a => rfl
 | program k ih => exact ih P
 | mark m k ih => exact ih
 | _ => rfl
theorem rp_pure {α : Type} (x : α) : runPure P (pure x : Sem α) = some x := rfl
theorem rp_program : runPure P program = some P := rfl
theorem rp_underlying {t : TypeId} {d : TypeDesc} (h : P.underlying t = some d) : runPure P (underlying t) = some d := by
 unfold underlying
 rw [rp_bind,rp_program,Option.bind_some,h];rfl
theorem rp_ite {α : Type} (c : Prop) [Decidable c] (x y : Sem α) : runPure P (if c then x else y) = if c then runPure P x else runPure P y := by split <;> rfl
theorem rp_struct {t : TypeId} {fs : Array Field} (hu : P.underlying t = some (.struct fs)) (hst : P.stoodInHeld t = false) (xs ys : Array Value) (d : Nat) : runPure P (Op.equalIn (d + 1) t (.agg xs) (.agg ys)) = runPure P (Op.eqFields d xs ys fs.toList) := by
 unfold Op.equalIn
 simp only [rp_bind,rp_underlying hu,Option.bind_some,rp_program,hst]
 simp only [Bool.false_eq_true,if_false,rp_bind]
 rw [← Array.forIn_toList]
 induction fs.toList with
 | nil => simp [Op.eqFields,rp_pure]
 | cons f r ih =>
  simp only [List.forIn_cons,Op.eqFields,rp_bind,rp_ite]
  split
  ·cases runPure P (part f.type xs f.offset) with
   | none => rfl
   | some a =>
    simp only [Option.bind_some]
    cases runPure P (part f.type ys f.offset) with
    | none => rfl
    | some b =>
     simp only [Option.bind_some]
     cases runPure P (Op.equalIn d f.type a b) with
     | none => rfl
     | some r =>
      cases r
      ·simp only [Option.bind_some,Bool.not_false,if_true,rp_pure]
      ·simp only [Option.bind_some,Bool.not_true,Bool.false_eq_true,if_false,rp_pure]
       exact ih
  ·simp only [rp_pure,Option.bind_some]
   exact ih
theorem rp_int {t : TypeId} {k' : IntKind} (hu : P.underlying t = some (.int k')) (k : IntKind) (a b : Int) (d : Nat) : runPure P (Op.equalIn (d + 1) t (.int k a) (.int k b)) = some (decide (a = b)) := by
 unfold Op.equalIn
 simp only [rp_bind,rp_underlying hu,Option.bind_some,if_true]
 have : (a == b) = decide (a = b) := rfl
 rw [this];rfl
theorem rp_bool {t : TypeId} (hu : P.underlying t = some .bool) (a b : Bool) (d : Nat) : runPure P (Op.equalIn (d + 1) t (.bool a) (.bool b)) = some (a == b) := by
 unfold Op.equalIn
 simp only [rp_bind,rp_underlying hu,Option.bind_some]
 rfl
theorem beqB (a b : ByteArray) : (a == b) = decide (a = b) := by
 obtain ⟨⟨x⟩⟩ := a
 obtain ⟨⟨y⟩⟩ := b
 show ((⟨x⟩ : Array UInt8) == ⟨y⟩) = _
 by_cases h : x = y
 ·subst h;simp
 ·simp [h]
theorem rp_string {t : TypeId} (hu : P.underlying t = some .string) (a b : ByteArray) (d : Nat) : runPure P (Op.equalIn (d + 1) t (.string a) (.string b)) = some (decide (a = b)) := by
 unfold Op.equalIn
 simp only [rp_bind,rp_underlying hu,Option.bind_some]
 rw [beqB];rfl
def eqCell : Value → Value → Bool
 | .int _ m,.int _ n => decide (m = n)
 | .string a,.string b => decide (a = b)
 | .bool a,.bool b => a == b
 | _,_ => false
def eqCells : List Value → List Value → Bool
 | [],[] => true
 | x :: r,y :: s => eqCell x y && eqCells r s
 | _,_ => false
theorem eqCells_append : ∀ (a b c d : List Value),a.length = b.length → eqCells (a ++ c) (b ++ d) = (eqCells a b && eqCells c d)
 | [],[],c,d,_ => by simp [eqCells]
 | [],_ :: _,c,d,h => by simp at h
 | _ :: _,[],c,d,h => by simp at h
 | x :: a,y :: b,c,d,h => by simp only [List.cons_append,eqCells,eqCells_append a b c d (by simpa using h),Bool.and_assoc]
def tiledE (P : Program) : Nat → List Field → Nat → Bool
 | k,[],e => k == e
 | k,f :: r,e => f.offset == k && f.name != "_" && tiledE P (k + P.cellsOf f.type) r e
def eqOk (P : Program) : Nat → TypeId → List Value → List Value → Bool
 | 0,_,_,_ => false
 | n + 1,t,us,ws => (P.info? t).isSome &&
  match P.underlying t with
  | some .bool => match us,ws with | [.bool _],[.bool _] => true | _,_ => false
  | some (.int _) => match us,ws with | [.int k _],[.int k' _] => decide (k = k') | _,_ => false
  | some .string => match us,ws with | [.string _],[.string _] => true | _,_ => false
  | some (.struct fs) => !P.stoodInHeld t && tiledE P 0 fs.toList us.length && us.length == ws.length && P.cellsOf t == us.length && fs.toList.all fun f => eqOk P n f.type ((us.drop f.offset).take (P.cellsOf f.type)) ((ws.drop f.offset).take (P.cellsOf f.type))
  | _ => false
def isStr (P : Program) (t : TypeId) : Bool := match P.underlying t with | some (.struct _) => true | _ => false
def valOf (P : Program) (t : TypeId) (us : List Value) : Value := if isStr P t then .agg us.toArray else us.headD (.bool false)
theorem rp_info {t : TypeId} {i : TypeInfo} (h : P.info? t = some i) : runPure P (typeInfo t) = some i := by
 unfold typeInfo
 rw [rp_bind,rp_program,Option.bind_some,h];rfl
theorem rp_isAgg {t : TypeId} {d : TypeDesc} (h : P.underlying t = some d) : runPure P (isAgg t) = some (match d with | .struct _ | .array _ _ => true | _ => false) := by
 unfold isAgg
 rw [rp_bind,rp_underlying h,Option.bind_some]
 cases d <;> rfl
theorem rp_part_one {t : TypeId} {d : TypeDesc} (hu : P.underlying t = some d) (hd : (match d with | .struct _ | .array _ _ => true | _ => false) = false) {xs : List Value} {k c : Nat} {u : Value} (hx : (xs.drop k).take c = [u]) : runPure P (part t xs.toArray k) = some u := by
 unfold part
 rw [rp_bind,rp_isAgg hu,Option.bind_some,hd]
 have h0 : xs.toArray[k]? = some u := Go.getElem?_of_chunk (c := c) (by simpa using hx)
 simp only [Bool.false_eq_true,if_false,h0]
 rfl
theorem rp_part_agg {t : TypeId} {fs : Array Field} (hu : P.underlying t = some (.struct fs)) {i : TypeInfo} (hi : P.info? t = some i) (xs : List Value) (k : Nat) : runPure P (part t xs.toArray k) = some (.agg ((xs.drop k).take (P.cellsOf t)).toArray) := by
 unfold part
 rw [rp_bind,rp_isAgg hu,Option.bind_some]
 simp only [if_true]
 unfold sizeOf
 simp only [rp_bind,rp_info hi,Option.bind_some,rp_pure]
 unfold Program.cellsOf
 rw [hi]
 simp [List.extract_toArray]
theorem eqOk_len {n t : Nat} {us ws : List Value} (h : eqOk P n t us ws = true) : us.length = ws.length := by
 cases n with
 | zero => cases h
 | succ n =>
  unfold eqOk at h
  simp only [Bool.and_eq_true] at h
  replace h := h.2
  split at h
  ·split at h <;> first | rfl | cases h
  ·split at h <;> first | rfl | cases h
  ·split at h <;> first | rfl | cases h
  ·simp only [Bool.and_eq_true,beq_iff_eq] at h;exact h.1.1.2
  ·cases h
theorem rp_eq : ∀ (n : Nat) (t : TypeId) (us ws : List Value),eqOk P n t us ws = true → ∀ K,n ≤ K → (∀ (xs : List Value) (k : Nat),(xs.drop k).take (P.cellsOf t) = us → runPure P (part t xs.toArray k) = some (valOf P t us)) ∧ (∀ (xs : List Value) (k : Nat),(xs.drop k).take (P.cellsOf t) = ws → runPure P (part t xs.toArray k) = some (valOf P t ws)) ∧ runPure P (Op.equalIn K t (valOf P t us) (valOf P t ws)) = some (eqCells us ws)
 | 0,_,_,_,h,_,_ => by cases h
 | n + 1,t,us,ws,h,0,hK => by omega
 | n + 1,t,us,ws,h,K + 1,hK => by
  unfold eqOk at h
  simp only [Bool.and_eq_true] at h
  obtain ⟨hi,h⟩ := h
  obtain ⟨i,hi⟩ := Option.isSome_iff_exists.1 hi
  cases hu : P.underlying t with
  | none => rw [hu] at h;cases h
  | some d =>
   rw [hu] at h
   have hv : ∀ l,valOf P t l = if (match d with | .struct _ => true | _ => false) then .agg l.toArray else l.headD (.bool false) := by
    intro l;unfold valOf isStr;rw [hu];cases d <;> rfl
   cases d <;> try (cases h;done)
   case bool =>
    simp only at h
    split at h
    ·rw [hv,hv]
     exact ⟨fun xs k hx => rp_part_one hu rfl hx,fun xs k hx => rp_part_one hu rfl hx,(rp_bool hu _ _ K).trans (congrArg some (Bool.and_true _).symm)⟩
    ·cases h
   case int =>
    simp only at h
    split at h
    ·rename_i k a k' b
     simp only [decide_eq_true_eq] at h
     subst h
     rw [hv,hv]
     exact ⟨fun xs k hx => rp_part_one hu rfl hx,fun xs k hx => rp_part_one hu rfl hx,(rp_int hu _ _ _ K).trans (congrArg some (Bool.and_true _).symm)⟩
    ·cases h
   case string =>
    simp only at h
    split at h
    ·rw [hv,hv]
     exact ⟨fun xs k hx => rp_part_one hu rfl hx,fun xs k hx => rp_part_one hu rfl hx,(rp_string hu _ _ K).trans (congrArg some (Bool.and_true _).symm)⟩
    ·cases h
   case struct fs =>
    simp only [Bool.and_eq_true,Bool.not_eq_true',beq_iff_eq] at h
    obtain ⟨⟨⟨⟨hst,htl⟩,hlen⟩,hc⟩,hall⟩ := h
    rw [hv,hv]
    simp only [if_true]
    refine ⟨fun xs k hx => by rw [rp_part_agg hu hi,hx],fun xs k hx => by rw [rp_part_agg hu hi,hx], ?_⟩
    rw [rp_struct hu hst]
    have hall' : ∀ f ∈ fs.toList,eqOk P n f.type ((us.drop f.offset).take (P.cellsOf f.type)) ((ws.drop f.offset).take (P.cellsOf f.type)) = true := fun f hf => List.all_eq_true.1 hall f (by simpa using hf)
    have key : ∀ (l : List Field) (k : Nat),(∀ f ∈ l,f ∈ fs.toList) → tiledE P k l us.length = true → runPure P (Op.eqFields K us.toArray ws.toArray l) = some (eqCells (us.drop k) (ws.drop k)) := by
     intro l
     induction l with
     | nil =>
      intro k _ ht
      have : k = us.length := by unfold tiledE at ht;simpa using ht
      subst this
      rw [List.drop_of_length_le (Nat.le_refl _),List.drop_of_length_le (by omega)]
      rfl
     | cons f r ih =>
      intro k hm ht
      unfold tiledE at ht
      simp only [Bool.and_eq_true,beq_iff_eq,bne_iff_ne,ne_eq] at ht
      obtain ⟨⟨ho,hn⟩,ht⟩ := ht
      have hf := hall' f (hm f List.mem_cons_self)
      obtain ⟨h1,h2,h3⟩ := rp_eq n f.type _ _ hf K (by omega)
      have ihr := ih (k + P.cellsOf f.type) (fun g hg => hm g (List.mem_cons_of_mem _ hg)) ht
      unfold Op.eqFields
      rw [if_pos (by simpa using hn)]
      simp only [rp_bind,rp_ite]
      rw [h1 us f.offset rfl,h2 ws f.offset rfl]
      simp only [Option.bind_some,h3,rp_pure,ihr]
      rw [ho]
      have hl := eqOk_len hf
      rw [ho] at hl
      have e1 : us.drop k = (us.drop k).take (P.cellsOf f.type) ++ us.drop (k + P.cellsOf f.type) := by
       rw [← List.drop_drop,List.take_append_drop]
      have e2 : ws.drop k = (ws.drop k).take (P.cellsOf f.type) ++ ws.drop (k + P.cellsOf f.type) := by
       rw [← List.drop_drop,List.take_append_drop]
      have e3 := eqCells_append _ _ (us.drop (k + P.cellsOf f.type)) (ws.drop (k + P.cellsOf f.type)) hl
      rw [← e1,← e2] at e3
      rw [e3]
      cases eqCells ((us.drop k).take (P.cellsOf f.type)) ((ws.drop k).take (P.cellsOf f.type)) <;> rfl
    have := key fs.toList 0 (fun _ h => h) htl
    simpa using this
theorem bin_struct {t : TypeId} {us ws : List Value} {n : Nat} (hok : eqOk P n t us ws = true) (hn : n ≤ 10000) (hs : isStr P t = true) (hg : P.eqGuardType P.depth t = false) (x y : Operand) :
  binA P .eql t x y (.agg (us.map .v)) (.agg (ws.map .v)) = some (.v (.bool (eqCells us ws))) ∧ binA P .neq t x y (.agg (us.map .v)) (.agg (ws.map .v)) = some (.v (.bool (!eqCells us ws))) := by
 have ha : ∀ l : List Value,toAtoms (l.map .v) = some l := by
  intro l;induction l with
  | nil => rfl
  | cons a r ih => simp only [List.map_cons,toAtoms,ih,Option.map_some]
 have hv : ∀ l : List Value,toValue (.agg (l.map .v)) = some (.agg l.toArray) := by
  intro l;simp only [toValue,ha,Option.map_some]
 have h := (rp_eq n t us ws hok 10000 hn).2.2
 have hvv : ∀ l,valOf P t l = .agg l.toArray := by intro l;unfold valOf;rw [hs];rfl
 rw [hvv,hvv] at h
 have h' : runPure P (Op.equal t (.agg us.toArray) (.agg ws.toArray)) = some (eqCells us ws) := h
 constructor
 ·unfold binA
  simp only [hv,isEq,hg,Bool.not_false,Bool.and_true,if_true]
  show atomA (runPure P (do pure (.bool (← Op.equal t (.agg us.toArray) (.agg ws.toArray))))) = _
  rw [rp_bind,h'];rfl
 ·unfold binA
  simp only [hv,isEq,hg,Bool.not_false,Bool.and_true,if_true]
  show atomA (runPure P (do pure (.bool (!(← Op.equal t (.agg us.toArray) (.agg ws.toArray)))))) = _
  rw [rp_bind,h'];rfl
end
end Go.Ev
namespace Go.Ev
open Go.Proofs
def eqP (a b c a' b' c' : Int) : Bool := decide (a = a') && (decide (b = b') && decide (c = c'))
def q16 (q : Plc) (_ : Nat) (p : Plc) : Bool := eqP p.1 p.2.1 p.2.2 q.1 q.2.1 q.2.2
end Go.Ev
namespace Go.Ev
open Go.Proofs
attribute [local irreducible] Wp WpS
def lineAt (t : Txt) (a b : Int) : Option Line := if 0 ≤ a ∧ 0 ≤ b then (t[a.toNat]?).bind fun c => c.2[b.toNat]? else none
def LineO (o : Option Line) (x : AV) : Prop := match o with | some l => LineA l x | none => x = .v (.slice none 0 0)
theorem lineAt_mem {t : Txt} {a b : Int} {l : Line} (h : lineAt t a b = some l) : ∃ c ∈ t,l ∈ c.2 := by
 unfold lineAt at h
 split at h
 ·obtain ⟨c,h1,h2⟩ := Option.bind_eq_some_iff.1 h
  exact ⟨c,List.mem_of_getElem? h1,List.mem_of_getElem? h2⟩
 ·cases h
end Go.Ev
namespace Go.Ev
theorem cmp_bytes : ∀ (a b : List UInt8),Lib.compareBytes a b = if bytesLt a b then -1 else if bytesLt b a then 1 else 0
 | [],[] => by simp [Lib.compareBytes,bytesLt]
 | [],_ :: _ => by simp [Lib.compareBytes,bytesLt]
 | _ :: _,[] => by simp [Lib.compareBytes,bytesLt]
 | x :: a,y :: b => by
  have ih := cmp_bytes a b
  unfold Lib.compareBytes bytesLt
  simp only [UInt8.lt_iff_toNat_lt]
  by_cases h1 : x.toNat < y.toNat
  ·have e1 : Nat.blt x.toNat y.toNat = true := Nat.ble_eq_true_of_le h1
   simp [h1,e1]
  ·have e1 : Nat.blt x.toNat y.toNat = false := by
    cases hb : Nat.blt x.toNat y.toNat
    ·rfl
    ·exact absurd (Nat.le_of_ble_eq_true hb) h1
   by_cases h2 : y.toNat < x.toNat
   ·have e2 : Nat.blt y.toNat x.toNat = true := Nat.ble_eq_true_of_le h2
    have e3 : (x.toNat == y.toNat) = false := by simp;omega
    simp [h1,h2,e1,e2,e3]
   ·have e2 : Nat.blt y.toNat x.toNat = false := by
     cases hb : Nat.blt y.toNat x.toNat
     ·rfl
     ·exact absurd (Nat.le_of_ble_eq_true hb) h2
    have e3 : x.toNat = y.toNat := by omega
    simp [e3,ih]
theorem ext_cmp {P : Program} {f : FuncId} {fn : Func} (hf : P.funcs[f]? = some fn) (hb : fn.body = none) (hn : (fn.name == "runtime.NumGoroutine") = false) (h1 : (Extern.findNext fn).isNone = true) (h2 : Extern.find fn = some Extern.BytealgCompare.compare)
  {args : List AV} {v : AV} (h : cmpStr args = some v) (Z : Fzn) (ρ : Pls) (H : Heap) (w : World) (vals : List Value) (hs : Sim Z ρ H w) (hl : RepL Z ρ args vals) : FnMeets P f vals w (After Z ρ H w v H) := by
 unfold cmpStr at h
 split at h
 ·rename_i a b
  obtain ⟨v1,ws,rfl,hv1,hl⟩ := hl.uncons
  obtain ⟨v2,ws,rfl,hv2,hl⟩ := hl.uncons
  have : ws = [] := by have := hl.1;exact List.length_eq_zero_iff.1 this.symm
  subst this
  obtain ⟨rfl, -⟩ := hv1.v_inv
  obtain ⟨rfl, -⟩ := hv2.v_inv
  simp only [Option.some.injEq] at h
  subst h
  refine Or.inl ⟨.int .i64 (Lib.compareBytes a.data.toList b.data.toList),w, ?_,Z,ρ, ?_,hs,Ext.refl _ _ _ _⟩
  ·have hfn : Extern.findNext fn = none := Option.isNone_iff_eq_none.1 h1
   have := Lib.run_compareString (P := P) a b w
   have hn' : ¬ fn.name = "runtime.NumGoroutine" := by
    intro e;rw [e] at hn;simp at hn
   simp [callFunc,hf,hn',hb,hfn,h2,this]
  ·rw [cmp_bytes];exact .v rfl
 ·cases h
theorem ext_of_ans {C : Cfg} (hgo : NoGo C.P) (hm : C.P.follows .mixedOrders = true) (hext : ExtOK C) {f : FuncId} {args : List AV} {v : AV} (h : Ans C f args v) (hb : boundL args = 0)
  (Z : Fzn) (ρ : Pls) (H : Heap) (w : World) (vals : List Value) (hs : Sim Z ρ H w) (hl : RepL Z ρ args vals) : FnMeets C.P f vals w (After Z ρ H w v H) := by
 obtain ⟨x,H',h1,h2⟩ := Ans.iff.1 h
 obtain ⟨n,hn⟩ := lim_iff.1 h1
 have hrec : RecOK C.P (evT C n) := (ev_sound hgo hext (draw_ok hm hext) n).1
 let D : Cfg := { C with pure := fun _ _ _ => true }
 have hk : callKind D f f none args = 1 := by unfold callKind;rw [hb];rfl
 have hB : callB D (evT C n) f f none args H = some (v,H) := by
  unfold callB;rw [hk];simp only [hn,h2,Option.map_some]
 obtain ⟨hbody,hc⟩ := callB_sound (C := D) hrec hs hl hB
 exact Or.inr ⟨hbody.run _ _,hc⟩
def moreExt (e : FuncId → Option (List AV → Option AV)) (f : FuncId) (g : List AV → Option AV) : FuncId → Option (List AV → Option AV) := fun f' => if Nat.beq f' f then some g else e f'
theorem extOK_more {C C' : Cfg} (hP : C'.P = C.P) {f : FuncId} {g : List AV → Option AV} (hg : ∀ args v,g args = some v → ∀ (Z : Fzn) (ρ : Pls) (H : Heap) (w : World) (vals : List Value),Sim Z ρ H w → RepL Z ρ args vals → FnMeets C.P f vals w (After Z ρ H w v H))
  (hext : ExtOK C) (he : C'.ext = moreExt C.ext f g) (hlay : C'.lay = C.lay := by rfl) (hexh : C'.exh = C.exh := by rfl) : ExtOK C' := by
 refine ⟨fun f' g' hf' args v hv Z ρ H w vals hs hl => ?_,fun f' g' hf' => by rw [hP];rw [hlay] at hf';exact hext.lay f' g' hf',fun f' g' hf' => by rw [hP];rw [hexh] at hf';exact hext.exh f' g' hf'⟩
 rw [hP]
 rw [he] at hf'
 unfold moreExt at hf'
 split at hf'
 ·rename_i hb
  have := Nat.eq_of_beq_eq_true hb
  subst this
  simp only [Option.some.injEq] at hf'
  subst hf'
  exact hg args v hv Z ρ H w vals hs hl
 ·exact hext.ext f' g' hf' args v hv Z ρ H w vals hs hl
def eqV : Value → Value → Bool
 | .int k n,.int k' n' => decide (k = k') && decide (n = n')
 | .bool a,.bool b => a == b
 | .string a,.string b => bytesEq a.data.toList b.data.toList
 | .slice none 0 0,.slice none 0 0 => true
 | _,_ => false
theorem eqV_eq {x y : Value} (h : eqV x y = true) : x = y := by
 unfold eqV at h
 split at h
 ·simp at h;rw [h.1,h.2]
 ·simp at h;rw [h]
 ·rw [bytesEq_iff,decide_eq_true_eq,← str_ext] at h;rw [h]
 ·rfl
 ·cases h
def listEq (f : AV → AV → Bool) : List AV → List AV → Bool
 | [],[] => true
 | x :: r,y :: s => f x y && listEq f r s
 | _,_ => false
theorem listEq_eq {f : AV → AV → Bool} (hf : ∀ x y,f x y = true → x = y) : ∀ {l m : List AV},listEq f l m = true → l = m
 | [],[],_ => rfl
 | [],_ :: _,h => by simp [listEq] at h
 | _ :: _,[],h => by simp [listEq] at h
 | x :: r,y :: s,h => by
  simp only [listEq,Bool.and_eq_true] at h
  rw [hf _ _ h.1,listEq_eq hf h.2]
def capEq : Option Nat → Option Nat → Bool
 | none,none => true
 | some k,some k' => Nat.beq k k'
 | _,_ => false
theorem capEq_eq {c c' : Option Nat} (h : capEq c c' = true) : c = c' := by
 unfold capEq at h
 split at h
 ·rfl
 ·rw [Nat.eq_of_beq_eq_true h]
 ·cases h
def eqStep (rec : AV → AV → Bool) (x y : AV) : Bool :=
 match x,y with
 | .v x,.v y => eqV x y
 | .agg a,.agg b => listEq rec a b
 | .vs s a c,.vs s' a' c' => Nat.beq s s' && listEq rec a a' && capEq c c'
 | _,_ => false
def eqA (n : Nat) : AV → AV → Bool := Nat.rec (fun _ _ => false) (fun _ rec => eqStep rec) n
theorem eqA_eq : ∀ (n : Nat) (x y : AV),eqA n x y = true → x = y
 | 0,_,_,h => by cases h
 | n + 1,x,y,h => by
  have h' : eqStep (eqA n) x y = true := h
  unfold eqStep at h'
  split at h'
  ·rw [eqV_eq h']
  ·rw [listEq_eq (eqA_eq n) h']
  ·simp only [Bool.and_eq_true] at h'
   obtain ⟨⟨h1,h2⟩,h3⟩ := h'
   rw [Nat.eq_of_beq_eq_true h1,listEq_eq (eqA_eq n) h2,capEq_eq h3]
  ·cases h'
def atArgs (K : List AV) (R : AV) : List AV → Option AV := fun args => if listEq (eqA 30) args K then some R else none
theorem atArgs_some {K : List AV} {R : AV} {args : List AV} {v : AV} (h : atArgs K R args = some v) : args = K ∧ v = R := by
 unfold atArgs at h
 split at h
 ·rename_i hq
  exact ⟨listEq_eq (eqA_eq 30) hq,by simpa using h.symm⟩
 ·cases h
end Go.Ev
namespace Go.Ev
open Go.Proofs
attribute [local irreducible] Wp WpS
end Go.Ev
namespace Go.Ev
def tiled (P : Program) : Nat → List Field → Nat → Bool
 | k,[],e => k == e
 | k,f :: r,e => f.offset == k && tiled P (k + P.cellsOf f.type) r e
def plainT (P : Program) : Nat → TypeId → Bool
 | 0,_ => false
 | n + 1,t =>
  match P.underlying t with
  | some .bool => true
  | some (.int _) => true
  | some .string => true
  | some (.slice e) => decide (0 < P.cellsOf e) && plainT P n e
  | some (.struct fs) => tiled P 0 fs.toList (P.cellsOf t) && fs.toList.all fun f => plainT P n f.type
  | _ => false
def elemOf (cs : List AV) : AV := match cs with | [c] => c | cs => .agg cs
def Plain (P : Program) : Nat → TypeId → List AV → Prop
 | 0,_,_ => False
 | n + 1,t,cs =>
  match P.underlying t with
  | some .bool => ∃ b,cs = [.v (.bool b)]
  | some (.int k) => ∃ m,cs = [.v (.int k m)] ∧ (Lit.int k m).wf = true
  | some .string => ∃ s,cs = [.v (.string s)] ∧ s.size ≤ maxLen
  | some (.slice e) => ∃ x xs,cs = [x] ∧ SlOf (P.cellsOf e) xs x ∧ xs.length ≤ maxLen ∧ ∀ y ∈ xs,∃ c,y = elemOf c ∧ c.length = P.cellsOf e ∧ Plain P n e c
  | some (.struct fs) => cs.length = P.cellsOf t ∧ ∀ f ∈ fs.toList,Plain P n f.type ((cs.drop f.offset).take (P.cellsOf f.type))
  | _ => False
theorem elem_cells {cs : List AV} (h : ∀ c ∈ cs,c.flat = true) : (elemOf cs).cells = cs := by
 unfold elemOf
 split
 ·rename_i c
  have := h c (by simp)
  cases c <;> simp_all [AV.cells,AV.flat]
 ·rfl
theorem exists_list {α : Type} {Q : Nat → α → Prop} : ∀ (n : Nat),(∀ i,i < n → ∃ y,Q i y) → ∃ l : List α,l.length = n ∧ ∀ i y,l[i]? = some y → Q i y
 | 0,_ => ⟨[],rfl,fun i y h => by simp at h⟩
 | n + 1,h => by
  obtain ⟨l,hl,hq⟩ := exists_list n fun i hi => h i (by omega)
  obtain ⟨y,hy⟩ := h n (by omega)
  refine ⟨l ++ [y],by simp [hl],fun i z hz => ?_⟩
  by_cases hi : i < l.length
  ·rw [List.getElem?_append_left hi] at hz;exact hq i z hz
  ·have hlt := (List.getElem?_eq_some_iff.1 hz).1
   simp at hlt
   have : i = l.length := by omega
   subst this
   simp at hz;subst hz;rw [hl];exact hy
theorem tile_rep {Z : Fzn} {ρ : Pls} {P : Program} {Q : Field → List AV → Prop} : ∀ (fs : List Field) (k e : Nat) (cs : List Value),tiled P k fs e = true → cs.length = e →
  (∀ f ∈ fs,∃ a,RepL Z ρ a ((cs.drop f.offset).take (P.cellsOf f.type)) ∧ Q f a ∧ ∀ c ∈ a,c.flat = true) →
  k ≤ e → ∃ A,RepL Z ρ A (cs.drop k) ∧ (∀ c ∈ A,c.flat = true) ∧ ∀ f ∈ fs,k ≤ f.offset ∧ f.offset + P.cellsOf f.type ≤ e ∧ Q f ((A.drop (f.offset - k)).take (P.cellsOf f.type))
 | [],k,e,cs,ht,hl,_,_ => by
  have : k = e := by simpa [tiled] using ht
  subst this
  refine ⟨[], ?_,by simp,by simp⟩
  rw [List.drop_of_length_le (by omega)];exact RepL.nil
 | f :: r,k,e,cs,ht,hl,hf,hk => by
  simp only [tiled,Bool.and_eq_true,beq_iff_eq] at ht
  obtain ⟨ho,ht⟩ := ht
  have hle : ∀ (fs : List Field) (k : Nat),tiled P k fs e = true → k ≤ e := by
   intro fs
   induction fs with
   | nil => intro k h;have : k = e := by simpa [tiled] using h
            omega
   | cons g s ih => intro k h;simp only [tiled,Bool.and_eq_true] at h;have := ih _ h.2;omega
  have hle' := hle _ _ ht
  obtain ⟨A,hA,hAf,hAq⟩ := tile_rep r (k + P.cellsOf f.type) e cs ht hl (fun g hg => hf g (List.mem_cons_of_mem _ hg)) hle'
  obtain ⟨a,ha,hq,haf⟩ := hf f List.mem_cons_self
  have hal : a.length = P.cellsOf f.type := by rw [ha.1];simp;omega
  refine ⟨a ++ A, ?_, ?_, ?_⟩
  ·have : cs.drop k = (cs.drop f.offset).take (P.cellsOf f.type) ++ cs.drop (k + P.cellsOf f.type) := by
    rw [ho,← List.drop_drop];exact (List.take_append_drop _ _).symm
   rw [this];exact ha.append hA
  ·intro c hc
   rcases List.mem_append.1 hc with h | h
   ·exact haf c h
   ·exact hAf c h
  ·intro g hg
   rcases List.mem_cons.1 hg with rfl | hg
   ·refine ⟨by omega,by omega, ?_⟩
    rw [ho,Nat.sub_self,List.drop_zero,List.take_append_of_le_length (by omega),List.take_of_length_le (by omega)]
    exact hq
   ·obtain ⟨h1,h2,h3⟩ := hAq g hg
    refine ⟨by omega,h2, ?_⟩
    have : (a ++ A).drop (g.offset - k) = A.drop (g.offset - (k + P.cellsOf f.type)) := by
     rw [List.drop_append,List.drop_of_length_le (by omega),List.nil_append,hal];congr 1;omega
    rw [this];exact h3
section
variable {HH : Type} {enc : TypeId × Value → HH} {P : Program} {w : World}
theorem cells_at {a : Addr} {n : Nat} {cs : List Value} (h : w.cells? 0 a n = some cs) (hn : 0 < n) : a.spot = none ∧ ∃ arr e fr,w.heap[a.block]? = some (.cells arr e fr) ∧ cs.length = n ∧ ∀ j,j < n → arr[a.off + j]? = cs[j]? := by
 obtain ⟨_,hl,hc⟩ := World.cells?_some h
 have h0 := hc 0 hn
 obtain ⟨c0,hc0⟩ : ∃ c0,cs[0]? = some c0 := ⟨cs[0]'(by omega),List.getElem?_eq_getElem _⟩
 have hsp : a.spot = none := by
  have := World.cell?_spot (h0.trans hc0)
  simpa [Addr.add] using this
 have hcell := h0.trans hc0
 have hb : ∀ j,(a.add j).block = a.block := by intro j;unfold Addr.add;split <;> rfl
 have hs : ∀ j,(a.add j).spot = none := by
  intro j;unfold Addr.add;split
  ·exact hsp
  ·rfl
 have ho : ∀ j,(a.add j).off = a.off + j := by
  intro j;unfold Addr.add;split
  ·rename_i hj;subst hj;rfl
  ·rfl
 refine ⟨hsp, ?_⟩
 unfold World.cell? at hcell
 rw [hb] at hcell
 split at hcell
 ·rename_i arr e fr hh
  refine ⟨arr,e,fr,hh,hl,fun j hj => ?_⟩
  have := hc j hj
  unfold World.cell? at this
  rw [hb,hh] at this
  simp only [hs,ho,Option.isSome_none,Bool.false_eq_true,if_false] at this
  exact this
 ·cases hcell
theorem plain_rep : ∀ (N t fuel : Nat) (cs : List Value) (x : DataW HH × List MemPlace),plainT P N t = true → DataW.trod enc P w 0 (fun _ => true) true fuel t cs = some x →
  ∃ A,RepL (allZ w) noPls A cs ∧ Plain P N t A ∧ ∀ c ∈ A,c.flat = true
 | 0,_,_,_,_,hp,_ => by simp [plainT] at hp
 | N + 1,t,fuel,cs,x,hp,h => by
  unfold plainT at hp
  cases hu : P.underlying t with
  | none => rw [hu] at hp;simp at hp
  | some u =>
   rw [hu] at hp
   cases u <;> simp only [Bool.false_eq_true] at hp
   case bool =>
    obtain ⟨b,rfl, -⟩ := DataW.trod_bool hu h
    exact ⟨[.v (.bool b)],RepL.cons (.v rfl) RepL.nil,by unfold Plain;rw [hu];exact ⟨b,rfl⟩,by simp [AV.flat]⟩
   case int k =>
    obtain ⟨n,rfl, -,hw⟩ := DataW.trod_int hu h
    exact ⟨[.v (.int k n)],RepL.cons (.v rfl) RepL.nil,by unfold Plain;rw [hu];exact ⟨n,rfl,hw⟩,by simp [AV.flat]⟩
   case string =>
    obtain ⟨n,rfl, -,hw⟩ := DataW.trod_string hu h
    exact ⟨[.v (.string n)],RepL.cons (.v rfl) RepL.nil,by unfold Plain;rw [hu];exact ⟨n,rfl,hw⟩,by simp [AV.flat]⟩
   case struct fs =>
    rw [Bool.and_eq_true,List.all_eq_true] at hp
    obtain ⟨xs,n, -, -,hl,hlen,hf⟩ := DataW.trod_struct hu h
    have hall : ∀ f ∈ fs.toList,∃ a,RepL (allZ w) noPls a ((cs.drop f.offset).take (P.cellsOf f.type)) ∧ Plain P N f.type a ∧ ∀ c ∈ a,c.flat = true := by
     intro f hfm
     obtain ⟨i,hi⟩ := List.getElem?_of_mem hfm
     have hi' : fs[i]? = some f := by simpa using hi
     have hxi := hf i f hi'
     have hlt : i < xs.length := by
      rw [hlen]
      have := (List.getElem?_eq_some_iff.1 hi).1
      simpa using this
     rw [List.getElem?_eq_getElem hlt] at hxi
     exact plain_rep N f.type n _ _ (hp.2 f hfm) hxi
    obtain ⟨A,hA,hAf,hAq⟩ := tile_rep fs.toList 0 (P.cellsOf t) cs hp.1 hl hall (Nat.zero_le _)
    rw [List.drop_zero] at hA
    refine ⟨A,hA, ?_,hAf⟩
    unfold Plain;rw [hu]
    refine ⟨by rw [hA.1];exact hl,fun f hf => ?_⟩
    have := (hAq f hf).2.2
    rwa [Nat.sub_zero] at this
   case slice e =>
    simp only [Bool.and_eq_true,decide_eq_true_eq] at hp
    rcases DataW.trod_slice hu h with ⟨rfl, -⟩ | ⟨a,len,cap,elems,rest,n, -,rfl, -, -,hlc,hcm,hel,hget, -, -⟩
    ·refine ⟨[.v (.slice none 0 0)],RepL.cons (.v rfl) RepL.nil, ?_,by simp [AV.flat]⟩
     unfold Plain;rw [hu]
     exact ⟨_,[],rfl,Or.inl ⟨rfl,rfl⟩,Nat.zero_le _,by simp⟩
    ·have hone : ∀ i,i < len → ∃ y : AV,∃ A ci,w.cells? 0 (a.add (i * P.cellsOf e)) (P.cellsOf e) = some ci ∧ RepL (allZ w) noPls A ci ∧ Plain P N e A ∧ (∀ c ∈ A,c.flat = true) ∧ y = elemOf A := by
      intro i hi
      have := hget i hi
      rw [List.getElem?_eq_getElem (by omega),Option.bind_eq_some_iff] at this
      obtain ⟨ci,hc1,hc2⟩ := this
      obtain ⟨A,h1,h2,h3⟩ := plain_rep N e n ci _ hp.2 hc2
      exact ⟨_,A,ci,hc1,h1,h2,h3,rfl⟩
     obtain ⟨xs,hxl,hxq⟩ := exists_list len hone
     have hsz : ∀ y ∈ xs,y.cells.length = P.cellsOf e := by
      intro y hy
      obtain ⟨i,hi⟩ := List.getElem?_of_mem hy
      obtain ⟨A,ci,h1,h2,h3,h4,rfl⟩ := hxq i y hi
      rw [elem_cells h4,h2.1]
      exact (World.cells?_some h1).2.1
     have hplain : Plain P (N + 1) t [.vs (P.cellsOf e) xs (some cap)] := by
      unfold Plain;rw [hu]
      refine ⟨_,xs,rfl,Or.inr ⟨_,rfl⟩,by omega,fun y hy => ?_⟩
      obtain ⟨i,hi⟩ := List.getElem?_of_mem hy
      obtain ⟨A,ci,h1,h2,h3,h4,rfl⟩ := hxq i y hi
      exact ⟨A,rfl,by rw [h2.1];exact (World.cells?_some h1).2.1,h3⟩
     by_cases h0 : len = 0
     ·subst h0
      have : xs = [] := List.length_eq_zero_iff.1 hxl
      subst this
      exact ⟨_,RepL.cons (.vs0 (by simp)) RepL.nil,hplain,by simp [AV.flat]⟩
     ·-- the block
      have hpos := hp.1
      obtain ⟨y0,hy0⟩ : ∃ y,xs[0]? = some y := ⟨xs[0]'(by omega),List.getElem?_eq_getElem _⟩
      obtain ⟨A0,c0,hc0, -⟩ := hxq 0 y0 hy0
      obtain ⟨hsp0,arr,et,fr,hh, -, -⟩ := cells_at hc0 hpos
      have hb : ∀ j,(a.add j).block = a.block := by intro j;unfold Addr.add;split <;> rfl
      have ho : ∀ j,(a.add j).off = a.off + j := by
       intro j;unfold Addr.add;split
       ·rename_i hj;subst hj;rfl
       ·rfl
      rw [hb] at hh
      have hsp : a.spot = none := by simpa [Addr.add] using hsp0
      have hall : ∀ i j,i < len → j < P.cellsOf e → ∃ A ci,xs[i]? = some (elemOf A) ∧ (∀ c ∈ A,c.flat = true) ∧ RepL (allZ w) noPls A ci ∧ ci.length = P.cellsOf e ∧ arr[a.off + i * P.cellsOf e + j]? = ci[j]? := by
       intro i j hi hj
       obtain ⟨y,hy⟩ : ∃ y,xs[i]? = some y := ⟨xs[i]'(by omega),List.getElem?_eq_getElem _⟩
       obtain ⟨A,ci,h1,h2,h3,h4,rfl⟩ := hxq i y hy
       obtain ⟨-,arr',et',fr',hh',hl',hg⟩ := cells_at h1 hpos
       rw [hb,hh] at hh'
       obtain ⟨rfl,rfl,rfl⟩ : arr = arr' ∧ et = et' ∧ fr = fr' := by simpa using hh'
       have := hg j hj
       rw [ho] at this
       exact ⟨A,ci,hy,h4,h2,hl',this⟩
      have hfl : (xs.flatMap AV.cells).length = len * P.cellsOf e := by rw [flat_len hsz,hxl]
      have hfit : a.off + len * P.cellsOf e ≤ arr.size := by
       obtain ⟨A,ci, -, -, -,hl',hg⟩ := hall (len - 1) (P.cellsOf e - 1) (by omega) (by omega)
       rw [List.getElem?_eq_getElem (by omega)] at hg
       have := (Array.getElem?_eq_some_iff.1 hg).1
       have e1 : (len - 1) * P.cellsOf e + P.cellsOf e = len * P.cellsOf e := by
        have : len = (len - 1) + 1 := by omega
        conv => rhs;rw [this,Nat.succ_mul]
       omega
      refine ⟨[.vs (P.cellsOf e) xs (some cap)],RepL.cons ?_ RepL.nil,hplain,by simp [AV.flat]⟩
      have hval : (Value.slice (some a) len cap) = .slice (some ⟨a.block,(arr.toList.take a.off).length,none⟩) xs.length cap := by
       have : (arr.toList.take a.off).length = a.off := by simp;omega
       rw [this,hxl];cases a;simp_all
      rw [hval]
      refine .vs (vs := (arr.toList.drop a.off).take (len * P.cellsOf e)) (post := (arr.toList.drop a.off).drop (len * P.cellsOf e)) (pre := arr.toList.take a.off) (e := et) (fz := fr) (arr := arr) hh ?_ hsz ?_ ?_ (by simp) (by omega)
      ·rw [List.append_assoc,List.take_append_drop,List.take_append_drop]
      ·rw [hfl];simp;omega
      ·intro i c v hc hv
       have hi := (List.getElem?_eq_some_iff.1 hc).1
       rw [hfl] at hi
       have hq : i / P.cellsOf e < len := Nat.div_lt_of_lt_mul (by rw [Nat.mul_comm];exact hi)
       have hr : i % P.cellsOf e < P.cellsOf e := Nat.mod_lt _ hpos
       have hdm : i / P.cellsOf e * P.cellsOf e + i % P.cellsOf e = i := by rw [Nat.mul_comm];exact Nat.div_add_mod _ _
       obtain ⟨A,ci,hx,hA,hR,hl',hg⟩ := hall _ _ hq hr
       have hfa := (flat_at hsz hx).1
       rw [elem_cells hA] at hfa
       have hcA : A[i % P.cellsOf e]? = some c := by
        rw [← hfa,List.getElem?_take,if_pos hr,List.getElem?_drop,hdm];exact hc
       have hvA : ci[i % P.cellsOf e]? = some v := by
        rw [← hg]
        rw [List.getElem?_take,if_pos hi,List.getElem?_drop] at hv
        rw [show a.off + i / P.cellsOf e * P.cellsOf e + i % P.cellsOf e = a.off + i by omega]
        simpa using hv
       exact hR.2 _ _ _ hcA hvA
theorem plain_spare {base : Nat} {sp : Nat → Bool} : ∀ (N t fuel : Nat) (cs : List Value) (x : DataW HH × List MemPlace),plainT P N t = true → DataW.trod enc P w base (fun _ => true) true fuel t cs = some x →
  (∀ p ∈ x.2,sp p.block = true) → DataW.trod enc P w base sp true fuel t cs = some x
 | 0,_,_,_,_,hp,_,_ => by simp [plainT] at hp
 | N + 1,t,fuel,cs,x,hp,h,hs => by
  unfold plainT at hp
  cases fuel with
  | zero => simp [DataW.trod] at h
  | succ n =>
   cases hu : P.underlying t with
   | none => rw [hu] at hp;simp at hp
   | some u =>
    rw [hu] at hp
    cases u <;> simp only [Bool.false_eq_true] at hp
    case bool => obtain ⟨b,rfl,rfl⟩ := DataW.trod_bool hu h;rw [DataW.trod_step];unfold DataW.trodStep;rw [hu]
    case int k => obtain ⟨m,rfl,rfl,hw⟩ := DataW.trod_int hu h;rw [DataW.trod_step];unfold DataW.trodStep;rw [hu];simp [hw]
    case string => obtain ⟨m,rfl,rfl,hw⟩ := DataW.trod_string hu h;rw [DataW.trod_step];unfold DataW.trodStep;rw [hu];simp [hw]
    case struct fs =>
     rw [Bool.and_eq_true,List.all_eq_true] at hp
     rw [DataW.trod_step] at h ⊢
     unfold DataW.trodStep at h ⊢
     rw [hu] at h ⊢
     simp only at h ⊢
     split at h
     ·rename_i hl
      rw [if_pos hl]
      simp only [Option.map_eq_some_iff] at h ⊢
      obtain ⟨xs,hxs,rfl⟩ := h
      refine ⟨xs,mapM_carry hxs fun f y hf hy hfy => plain_spare N f.type n _ y (hp.2 f hf) hfy fun p hpm => hs p ?_,rfl⟩
      exact List.mem_flatMap.2 ⟨y,hy,hpm⟩
     ·cases h
    case slice e =>
     simp only [Bool.and_eq_true,decide_eq_true_eq] at hp
     have h0 := h
     rw [DataW.trod_step] at h ⊢
     unfold DataW.trodStep at h ⊢
     rw [hu] at h ⊢
     rcases DataW.trod_slice hu h0 with ⟨rfl,rfl⟩ | ⟨a,len,cap,elems,rest,n',hn',rfl,rfl, -,hlc,hcm,hel,hget,hrest, -⟩
     ·rfl
     ·simp only at h ⊢
      split at h
      ·rename_i hc
       rw [if_pos hc]
       simp only [if_true,Option.bind_eq_some_iff,Option.map_eq_some_iff] at h ⊢
       obtain ⟨es,hes,rs,hrs,heq⟩ := h
       have hin : ∀ y,y ∈ es ++ rs → ∀ p ∈ y.2,sp p.block = true := by
        intro y hy p hpm
        refine hs p ?_
        have := congrArg Prod.snd heq
        simp only at this
        rw [← this]
        exact List.mem_append_right _ (List.mem_flatMap.2 ⟨y,hy,hpm⟩)
       refine ⟨es,mapM_carry hes fun i y _ hy hfy => ?_,rs, ?_,heq⟩
       ·obtain ⟨ci,h1,h2⟩ := Option.bind_eq_some_iff.1 hfy
        rw [h1]
        exact plain_spare N e n ci y hp.2 h2 (hin y (List.mem_append_left _ hy))
       ·have hrl : rs.length = cap - len := by
         have := mapM_some_length hrs
         simpa using this
        by_cases hz : cap - len = 0
        ·have : rs = [] := List.length_eq_zero_iff.1 (by omega)
         subst this
         split
         ·rw [hz] at hrs ⊢;exact hrs
         ·rfl
        ·have hsp : sp a.block = true := by
          have hel' : es.length = len := by
           have := mapM_some_length hes
           simpa using this
          have := congrArg Prod.snd heq
          simp only at this
          have hm : MemPlace.cell a.block (a.off + 0) ∈ MemPlace.row a ((elems.length + rest.length) * P.cellsOf e) ++ (elems ++ rest).flatMap (·.2) := by
           rw [← this]
           refine List.mem_append_left _ (MemPlace.mem_row.2 ⟨0, ?_,rfl⟩)
           exact Nat.mul_pos (by omega) hp.1
          exact hs _ hm
         rw [if_pos hsp]
         refine mapM_carry hrs fun i y _ hy hfy => ?_
         obtain ⟨ci,h1,h2⟩ := Option.bind_eq_some_iff.1 hfy
         rw [h1]
         exact plain_spare N e n ci y hp.2 h2 (hin y (List.mem_append_right _ hy))
      ·cases h
end
end Go.Ev
namespace Go.Ev
open Go.ChangeShapes Go.WideShapes Go.ChangeAt Go.RowKit
def Arg (P : Program) (N : Nat) (t : TypeId) (x : AV) : Prop :=
 match P.underlying t with
 | some (.struct _) => ∃ A,x = .agg A ∧ Plain P N t A
 | _ => Plain P N t [x]
inductive ArgsOf (P : Program) (N : Nat) : List TypeId → List AV → Prop
 | nil : ArgsOf P N [] []
 | cons {t : TypeId} {ts : List TypeId} {x : AV} {xs : List AV} (h : Arg P N t x) (hs : ArgsOf P N ts xs) : ArgsOf P N (t :: ts) (x :: xs)
section
variable {HH : Type} {enc : TypeId × Value → HH} {P : Program} {w : World}
theorem arg_rep {N base : Nat} {t : TypeId} {v : Value} {d : DataW HH} {ps : List MemPlace} (hp : plainT P N t = true) (hok : Value.okWide P w .any base t v) (h : DataW.Trod enc P w 0 (fun _ => true) true t v d ps) :
  ∃ x,Rep (allZ w) noPls x v ∧ Arg P N t x := by
 obtain ⟨fuel,h⟩ := h
 obtain ⟨A,hA,hpl,hfl⟩ := plain_rep N t fuel _ _ hp h
 cases N with
 | zero => simp [plainT] at hp
 | succ N =>
  have one : ∀ (hv : v.cells.toList = [v]),(∃ c,A = [c]) → (∀ fs,P.underlying t ≠ some (.struct fs)) → ∃ x,Rep (allZ w) noPls x v ∧ Arg P (N + 1) t x := by
   rintro hv ⟨c,rfl⟩ hns
   rw [hv] at hA
   obtain ⟨v',ws,e,hr, -⟩ := hA.uncons
   cases e
   refine ⟨c,hr, ?_⟩
   unfold Arg
   split
   ·rename_i fs hu;exact absurd hu (hns fs)
   ·exact hpl
  unfold plainT at hp
  unfold Value.okWide at hok
  have hpl' := hpl
  unfold Plain at hpl'
  cases hu : P.underlying t with
  | none => rw [hu] at hp;simp at hp
  | some u =>
   rw [hu] at hp hok hpl'
   cases u <;> simp only [Bool.false_eq_true] at hp hok hpl'
   case bool =>
    obtain ⟨b,rfl⟩ := hpl'
    refine one ?_ ⟨_,rfl⟩ (by simp [hu])
    unfold Cell.okWide Cell.ok at hok;rw [hu] at hok
    cases v <;> first | rfl | simp at hok
   case int k =>
    obtain ⟨m,rfl, -⟩ := hpl'
    refine one ?_ ⟨_,rfl⟩ (by simp [hu])
    unfold Cell.okWide Cell.ok at hok;rw [hu] at hok
    cases v <;> first | rfl | simp at hok
   case string =>
    obtain ⟨m,rfl, -⟩ := hpl'
    refine one ?_ ⟨_,rfl⟩ (by simp [hu])
    unfold Cell.okWide Cell.ok at hok;rw [hu] at hok
    cases v <;> first | rfl | simp at hok
   case slice e =>
    obtain ⟨x,xs,rfl, -⟩ := hpl'
    refine one ?_ ⟨_,rfl⟩ (by simp [hu])
    unfold Cell.okWide Cell.ok at hok;rw [hu] at hok
    cases v <;> first | rfl | simp at hok
   case struct fs =>
    obtain ⟨cs,rfl, -, -⟩ := hok
    refine ⟨.agg A, ?_, ?_⟩
    ·have := hA.agg
     simpa [Value.cells] using this
    ·unfold Arg;rw [hu];exact ⟨A,rfl,hpl⟩
theorem args_rep {N base : Nat} : ∀ {ts : List TypeId} {vs : List Value} {ds : List (DataW HH)} {ps : List MemPlace},ts.all (plainT P N) = true → (∀ (j : Nat) t v,ts[j]? = some t → vs[j]? = some v → Value.okWide P w .any base t v) →
  DataW.TrodAll enc P w 0 (fun _ => true) true ts vs ds ps → ∃ xs,RepL (allZ w) noPls xs vs ∧ ArgsOf P N ts xs
 | [],vs,ds,ps,_,_,h => by
  cases vs <;> cases ds <;> simp [DataW.TrodAll] at h
  exact ⟨[],RepL.nil,.nil⟩
 | t :: ts,vs,ds,ps,hp,hok,h => by
  obtain ⟨v,vs',d,ds',p,q,rfl,rfl,rfl,h1,h2⟩ := trodAll_cons h
  simp only [List.all_cons,Bool.and_eq_true] at hp
  obtain ⟨x,hx,hax⟩ := arg_rep hp.1 (hok 0 t v rfl rfl) h1
  obtain ⟨xs,hxs,haxs⟩ := args_rep hp.2 (fun j t' v' ht hv => hok (j + 1) t' v' (by simpa using ht) (by simpa using hv)) h2
  exact ⟨x :: xs,RepL.cons hx hxs,.cons hax haxs⟩
theorem trod_after {w' : World} (hh : ∀ k,k < w.heap.size → w'.heap[k]? = w.heap[k]?) {N : Nat} {sp : Nat → Bool} : ∀ {ts : List TypeId} {vs : List Value} {ds : List (DataW HH)} {ps : List MemPlace},ts.all (plainT P N) = true →
  DataW.TrodAll enc P w 0 (fun _ => true) true ts vs ds ps → (∀ p ∈ ps,sp p.block = true) → DataW.TrodAll enc P w' 0 sp true ts vs ds ps
 | [],vs,ds,ps,_,h,_ => by
  cases vs <;> cases ds <;> simp [DataW.TrodAll] at h ⊢
  exact h
 | t :: ts,vs,ds,ps,hp,h,hs => by
  obtain ⟨v,vs',d,ds',p,q,rfl,rfl,rfl,⟨fuel,h1⟩,h2⟩ := trodAll_cons h
  simp only [List.all_cons,Bool.and_eq_true] at hp
  refine ⟨p,q,⟨fuel, ?_⟩,trod_after hh hp.2 h2 fun p hp => hs p (List.mem_append_right _ hp),rfl⟩
  have hlt := DataW.trod_lt _ _ _ _ h1
  refine plain_spare N t fuel _ _ hp.1 (DataW.trod_carry _ _ _ _ h1 fun p hp => ?_) fun p hp => hs p (List.mem_append_left _ hp)
  have := hlt p hp
  cases p with
  | cell b off =>
   have hb : b < w.heap.size := this
   simp only [World.sameAt,World.cell?,hh b hb]
  | map b =>
   have hb : b < w.heap.size := this
   simp only [World.sameAt,hh b hb]
theorem trodAll_len {b : Nat} {sp : Nat → Bool} {hd : Bool} : ∀ {ts : List TypeId} {vs : List Value} {ds : List (DataW HH)} {ps : List MemPlace},DataW.TrodAll enc P w b sp hd ts vs ds ps → ds.length = ts.length
 | [],vs,ds,ps,h => by cases vs <;> cases ds <;> simp [DataW.TrodAll] at h ⊢
 | t :: ts,vs,ds,ps,h => by
  obtain ⟨v,vs',d,ds',p,q,rfl,rfl,rfl,h1,h2⟩ := trodAll_cons h
  simp [trodAll_len h2]
theorem kept_of {w' : World} (hos : w'.os = w.os) (hout : w'.output = w.output) (hh : ∀ k,k < w.heap.size → w'.heap[k]? = w.heap[k]?) : w.keptBut w' (fun _ => False) := by
 refine ⟨hos,hout,fun i hi => ?_⟩
 rw [hh i hi]
 cases h : w.heap[i]? with
 | none => simp
 | some o => cases o <;> simp
theorem post_of_old {f : Func} {s : ChangeSpec} {apart fresh handsOn again : Bool} {W W' : World} {args : Array Value} {v : Value} {ds gs : List (DataW HH)} {before pa pv : List MemPlace}
  (hW : DataW.Whole enc P f.params.toList s.vars apart W args.toList ds gs before)
  (hres : ∀ (b : Nat) (sp : Nat → Bool) (hd : Bool),DataW.TrodAll enc P W' b sp hd f.resultTypes.toList (v.resultList f.resultTypes.size) (s.fn HH (ds ++ gs)).results [])
  (hargs : ∀ sp : Nat → Bool,(∀ p ∈ before,sp p.block = true) → DataW.TrodAll enc P W' 0 sp true f.params.toList args.toList (s.fn HH (ds ++ gs)).args pa)
  (hvars : ∀ sp : Nat → Bool,(∀ p ∈ before,sp p.block = true) → DataW.TrodVars enc P W' sp s.vars (s.fn HH (ds ++ gs)).vars pv)
  (hps : before = pa ++ pv) (hk : W.keptBut W' (· ∈ before)) (hfz : ∀ a : Addr,a.block < W.heap.size → W'.frozen? a = W.frozen? a)
  (hok : ∀ (j : Nat) (t : TypeId) (r : Value),f.resultTypes[j]? = some t → (v.resultList f.resultTypes.size)[j]? = some r → Value.okWide P W' .any 0 t r) :
  s.post enc P f apart fresh handsOn again W args v W' := by
 have hold : ∀ p ∈ before,(fun b => decide (b < W.heap.size)) p.block = true := fun p hp => by simpa using hW.lt p hp
 have hlt := hW.lt
 refine ⟨ds,gs,before,[],pa,pv,hW,hres _ _ _,hargs _ hold,hvars _ hold,World.keptBut_mono (fun p hp => ⟨hp, ?_⟩) hk,fun _ => ?_⟩
 ·rw [hps,List.mem_append] at hp
  exact Or.inr hp
 ·obtain ⟨_,_,_,_,_,hz,hn⟩ := hW
  refine ⟨hok,_,_,([] ++ pa) ++ pv,⟨[] ++ pa,pv,trodAll_append (hargs _ (fun _ _ => rfl)) (hres _ _ _),hvars _ (fun _ _ => rfl),rfl, ?_, ?_⟩, ?_⟩
  ·intro b off hp
   have hp' : MemPlace.cell b off ∈ before := by rw [hps];simpa using hp
   rw [hfz ⟨b,off,none⟩ (hlt _ hp')]
   exact hz b off hp'
  ·intro ha
   have := hn ha
   rw [hps] at this
   simpa using this
  ·intro p hp _
   rw [hps]
   simpa using hp
theorem law_contract {C : Cfg} (hP : C.P = P) (hgo : NoGo P) (hm : P.follows .mixedOrders = true) (hext : ExtOK C) {f : FuncId} {fn : Func} {s : ChangeSpec} {N : Nat} {apart fresh handsOn again : Bool} {tb : TypeId}
  (hpl : fn.params.toList.all (plainT P N) = true) (hvars : s.vars = []) (hspec : ∀ ds : List (DataW HH),ds.length = fn.params.size → s.fn HH ds = { results := [.lit (.bool true)],args := ds })
  (hrt : fn.resultTypes = #[tb]) (htb : P.underlying tb = some .bool)
  (hlaw : ∀ xs,ArgsOf P N fn.params.toList xs → ∃ H',lim C (.call f xs { objs := [],lock := 0 }) = some (.ret (.v (.bool true)) H'))
  {W : World} {base : Nat} {args : Array Value} {ds gs : List (DataW HH)} {before : List MemPlace}
  (hval : ∀ (j : Nat) t v,fn.params[j]? = some t → args[j]? = some v → Value.okWide P W .any base t v)
  (hW : DataW.Whole enc P fn.params.toList s.vars apart W args.toList ds gs before) (hg : laidOk (allZ W) := by intro p hp;cases hp) :
  Calls P f args W fun e W' => ∃ v,e = .returned v ∧ s.post enc P fn apart fresh handsOn again W args v W' := by
 subst hP
 have hW' := hW
 obtain ⟨p,q,hA,hV,rfl,hfz,hnd⟩ := hW
 have hV' := hV
 rw [hvars] at hV'
 obtain ⟨rfl,rfl⟩ := trodVars_none hV'
 obtain ⟨xs,hxs,hax⟩ := args_rep hpl (fun j t v ht hv => hval j t v (by simpa using ht) (by simpa using hv)) hA
 obtain ⟨H',hl⟩ := hlaw xs hax
 have hc := top_calls hg hgo hm hext hl hxs
 have hlen : ds.length = fn.params.size := by have := trodAll_len hA;simpa using this
 have hsf : s.fn HH (ds ++ []) = { results := [.lit (.bool true)],args := ds } := by rw [List.append_nil];exact hspec ds hlen
 refine Calls.mono' hc ?_
 rintro e W' ⟨rfl,hh,hsz,hos,hout, -,hfr⟩
 refine ⟨_,rfl,post_of_old (pa := p) (pv := []) hW' ?_ ?_ ?_ rfl (World.keptBut_mono (fun _ h => h.elim) (kept_of hos hout hh)) hfr ?_⟩
 ·intro b sp hd
  rw [hsf,hrt]
  exact trodAll_mk1 (shut_bool htb true)
 ·intro sp hsp
  rw [hsf]
  exact trod_after hh hpl hA fun x hx => hsp x (List.mem_append_left _ hx)
 ·intro sp hsp
  rw [hsf,hvars]
  rfl
 ·exact ok_one hrt rfl (okWide_bool_mk htb true)
end
end Go.Ev
namespace Go.Ev
open Go.Proofs
attribute [local irreducible] Wp WpS
def fieldsAt (P : Program) (t : TypeId) : List (Nat × Nat) := match P.underlying t with | some (.struct fs) => fs.toList.map fun f => (f.offset,f.type) | _ => []
def isStruct (P : Program) (t : TypeId) : Bool := match P.underlying t with | some (.struct _) => true | _ => false
theorem plain_struct {P : Program} {N t : Nat} {cs : List AV} {l : List (Nat × Nat)} (hs : isStruct P t = true) (hl : fieldsAt P t = l) (h : Plain P (N + 1) t cs) : cs.length = P.cellsOf t ∧ ∀ x ∈ l,Plain P N x.2 ((cs.drop x.1).take (P.cellsOf x.2)) := by
 unfold Plain at h
 unfold isStruct at hs
 unfold fieldsAt at hl
 split at hs
 ·rename_i fs hu
  rw [hu] at h hl
  simp only at h hl
  refine ⟨h.1,fun x hx => ?_⟩
  rw [← hl] at hx
  obtain ⟨f,hf,rfl⟩ := List.mem_map.1 hx
  exact h.2 f hf
 ·cases hs
theorem arg_struct {P : Program} {N t : Nat} {x : AV} (hs : isStruct P t = true) (h : Arg P N t x) : ∃ A,x = .agg A ∧ Plain P N t A := by
 unfold Arg at h
 unfold isStruct at hs
 split at hs
 ·rename_i fs hu;rw [hu] at h;exact h
 ·cases hs
theorem plain_int {P : Program} {N t : Nat} {k : IntKind} {cs : List AV} (hu : P.underlying t = some (.int k)) (h : Plain P (N + 1) t cs) : ∃ m,cs = [.v (.int k m)] ∧ (Lit.int k m).wf = true := by
 unfold Plain at h;rw [hu] at h;exact h
theorem plain_string {P : Program} {N t : Nat} {cs : List AV} (hu : P.underlying t = some .string) (h : Plain P (N + 1) t cs) : ∃ s,cs = [.v (.string s)] ∧ s.size ≤ maxLen := by
 unfold Plain at h;rw [hu] at h;exact h
theorem freeze_to_v {H : Heap} {K : Nat} {x : AV} {y : Value} (h : freezeV H K x = some (.v y)) : x = .v y := by
 cases K with
 | zero => cases h
 | succ K =>
  unfold freezeV at h
  cases x with
  | v z => simpa using h
  | ro z k => simp at h
  | vs s l c => simp at h
  | agg l => simp only [Option.map_eq_some_iff] at h;obtain ⟨_,_,h⟩ := h;cases h
  | tup l => simp only [Option.map_eq_some_iff] at h;obtain ⟨_,_,h⟩ := h;cases h
  | ifc t z => simp only [Option.map_eq_some_iff] at h;obtain ⟨_,_,h⟩ := h;cases h
  | mp b => simp only at h;split at h <;> simp at h
  | yld b => simp only at h;split at h <;> simp at h
  | fn f a b => simp only at h;split at h <;> simp at h
  | ptr b v k =>
   simp only at h
   split at h
   ·simp at h
   ·split at h
    ·split at h
     ·split at h <;> simp at h
     ·simp at h
    ·simp at h
  | sl b v off len c =>
   simp only at h
   split at h
   ·simp at h
   ·split at h
    ·split at h
     ·split at h
      ·simp at h
      ·split at h
       ·split at h <;> simp at h
       ·simp at h
     ·simp at h
    ·simp at h
theorem Ans.lim {C : Cfg} {f : FuncId} {args : List AV} (h : Ans C f args (.v (.bool true))) : ∃ H',Go.Ev.lim C (.call f args { objs := [],lock := 0 }) = some (.ret (.v (.bool true)) H') := by
 obtain ⟨x,H,h1,h2⟩ := Ans.iff.1 h
 rw [freeze_to_v h2] at h1
 exact ⟨H,h1⟩
end Go.Ev
namespace Go.Ev
abbrev Fm := List (Nat × AObj)
def Has (m : Fm) (H : Heap) : Prop := ∀ p ∈ m,H.get p.1 = some p.2
def keyIn (b : Nat) (m : Fm) : Prop := ∃ p ∈ m,p.1 = b
def Anch (n0 : Nat) (m : Fm) : Prop := ∀ n,n0 ≤ n → (∃ p ∈ m,n ≤ p.1) → ∃ p ∈ m,p.1 < n ∧ n < p.2.bound
structure Moves (m : Fm) (H : Heap) (m' : Fm) (H' : Heap) : Prop where
 lock : H'.lock = H.lock
 size : H.size ≤ H'.size
 same : ∀ b,b < H.size → ¬ keyIn b m → H'.get b = H.get b
 keys : ∀ p ∈ m',keyIn p.1 m ∨ H.size ≤ p.1
theorem boundsOk_getI {n : Nat} : ∀ {l : List (Option AObj)} {b : Nat} {o : AObj},boundsOk n l = true → l[b]? = some (some o) → o.bound ≤ n
 | [],b,o,_,h => by simp at h
 | none :: r,0,o,_,h => by simp at h
 | none :: r,b + 1,o,hb,h => boundsOk_getI (l := r) (b := b) (by simpa [boundsOk] using hb) (by simpa using h)
 | some x :: r,0,o,hb,h => by
  simp at h;subst h
  simp only [boundsOk,Bool.and_eq_true] at hb
  exact Nat.le_of_ble_eq_true hb.1
 | some x :: r,b + 1,o,hb,h => by
  simp only [boundsOk,Bool.and_eq_true] at hb
  exact boundsOk_getI (l := r) (b := b) hb.2 (by simpa using h)
theorem trim_cases (H : Heap) (n : Nat) (vs : List AV) (ms : List Nat) : H.trim n vs ms = H ∨ (H.trim n vs ms = { H with objs := H.objs.take n } ∧ boundsOk n (H.objs.take n) = true) := by
 unfold Heap.trim
 split
 ·rename_i h
  simp only [Bool.and_eq_true] at h
  exact Or.inr ⟨rfl,h.1.2⟩
 ·exact Or.inl rfl
theorem take_get {H : Heap} {n b : Nat} (h : b < n) : (Heap.mk (H.objs.take n) H.lock).get b = H.get b := by
 unfold Heap.get;simp only;rw [List.getElem?_take,if_pos h]
theorem get_objs {H : Heap} {b : Nat} {o : AObj} (h : H.get b = some o) : H.objs[b]? = some (some o) := by
 unfold Heap.get at h
 cases hb : H.objs[b]? with
 | none => rw [hb] at h;cases h
 | some x => rw [hb] at h;cases x with
  | none => cases h
  | some y => cases h;rfl
theorem Has.trim {m : Fm} {H : Heap} {n0 n : Nat} (h : Has m H) (ha : Anch n0 m) (hn : n0 ≤ n) (vs : List AV) (ms : List Nat) : Has m (H.trim n vs ms) := by
 rcases trim_cases H n vs ms with h1 | ⟨h1,h2⟩
 ·rw [h1];exact h
 ·rw [h1]
  have key : ∀ p ∈ m,p.1 < n := by
   intro p hp
   rcases Nat.lt_or_ge p.1 n with hlt | hge
   ·exact hlt
   ·obtain ⟨q,hq,hq1,hq2⟩ := ha n hn ⟨p,hp,hge⟩
    have := boundsOk_getI h2 (b := q.1) (o := q.2) (by rw [List.getElem?_take,if_pos hq1];exact get_objs (h q hq))
    omega
  intro p hp
  show (Heap.mk (H.objs.take n) H.lock).get p.1 = _
  rw [take_get (key p hp)];exact h p hp
theorem Has.settle {m : Fm} {H : Heap} (h : Has m H) (n : Nat) : Has m (settleH n H) := by
 unfold settleH
 split
 ·rename_i hn
  have key : ∀ p ∈ m,p.1 < n := by
   intro p hp
   rcases Nat.lt_or_ge p.1 n with hlt | hge
   ·exact hlt
   ·have h1 := get_objs (h p hp)
    have h2 : (H.objs.drop n)[p.1 - n]? = some (some p.2) := by rw [List.getElem?_drop,show n + (p.1 - n) = p.1 by omega];exact h1
    have := List.all_eq_true.1 hn _ (List.mem_of_getElem? h2)
    simp at this
  intro p hp
  show (Heap.mk (H.objs.take n) H.lock).get p.1 = _
  rw [take_get (key p hp)];exact h p hp
 ·exact h
theorem Moves.refl (m : Fm) (H : Heap) : Moves m H m H := ⟨rfl,Nat.le_refl _,fun _ _ _ => rfl,fun p hp => Or.inl ⟨p,hp,rfl⟩⟩
theorem Moves.trans {m m' m'' : Fm} {H H' H'' : Heap} (h : Moves m H m' H') (k : Moves m' H' m'' H'') : Moves m H m'' H'' := by
 refine ⟨k.lock.trans h.lock,Nat.le_trans h.size k.size,fun b hb hm => ?_,fun p hp => ?_⟩
 ·have h1 : ¬ keyIn b m' := by
   rintro ⟨p,hp,rfl⟩
   rcases h.keys p hp with h2 | h2
   ·exact hm h2
   ·omega
  rw [k.same b (Nat.lt_of_lt_of_le hb h.size) h1,h.same b hb hm]
 ·rcases k.keys p hp with ⟨q,hq,he⟩ | h2
  ·rcases h.keys q hq with h3 | h3
   ·exact Or.inl (he ▸ h3)
   ·exact Or.inr (he ▸ h3)
  ·exact Or.inr (Nat.le_trans h.size h2)
theorem Moves.trim {m m' : Fm} {H H' : Heap} (h : Moves m H m' H') (vs : List AV) (ms : List Nat) {n : Nat} (hn : n = H.size) : Moves m H m' (H'.trim n vs ms) := by
 subst hn
 rcases trim_cases H' H.size vs ms with h1 | ⟨h1, -⟩
 ·rw [h1];exact h
 ·rw [h1]
  refine ⟨h.lock, ?_,fun b hb hm => ?_,h.keys⟩
  ·show H.size ≤ (H'.objs.take H.size).length
   have := h.size
   rw [List.length_take];unfold Heap.size at *;omega
  ·show (Heap.mk (H'.objs.take H.size) H'.lock).get b = _
   rw [take_get hb];exact h.same b hb hm
theorem Moves.settle {m m' : Fm} {H H' : Heap} (h : Moves m H m' H') {n : Nat} (hn : n = H.size) : Moves m H m' (settleH n H') := by
 subst hn
 unfold settleH
 split
 ·refine ⟨h.lock, ?_,fun b hb hm => ?_,h.keys⟩
  ·show H.size ≤ (H'.objs.take H.size).length
   have := h.size
   rw [List.length_take];unfold Heap.size at *;omega
  ·show (Heap.mk (H'.objs.take H.size) H'.lock).get b = _
   rw [take_get hb];exact h.same b hb hm
 ·exact h
theorem Moves.plus (m : Fm) (H : Heap) (E : List (Option AObj)) : Moves m H m (H.plus E) :=
 ⟨rfl,by rw [plus_size];omega,fun b hb _ => plus_get E hb,fun p hp => Or.inl ⟨p,hp,rfl⟩⟩
theorem Has.plus {m : Fm} {H : Heap} (h : Has m H) (E : List (Option AObj)) : Has m (H.plus E) := fun p hp => by rw [plus_get E (get_ltS (h p hp))];exact h p hp
theorem Moves.put {m m' : Fm} {H H' : Heap} (h : Moves m H m' H') {b : Nat} (o : AObj) (hb : H.size ≤ b) (hb2 : b < H'.size) : Moves m H m' (H'.put b o) := by
 refine ⟨h.lock,by rw [put_sizeI o hb2];exact h.size,fun c hc hm => ?_,h.keys⟩
 rw [put_get_ne o (by omega) (by omega)];exact h.same c hc hm
theorem Has.put {m : Fm} {H : Heap} (h : Has m H) {b : Nat} (o : AObj) (hb : b ≤ H.size) (hm : ¬ keyIn b m) : Has m (H.put b o) := fun p hp => by
 rw [put_get_ne o hb (fun e => hm ⟨p,hp,e⟩)];exact h p hp
def okRun {S : Type} (stp : S → List AV → Bool × S) (ok : S → List AV → Prop) : List (List AV) → S → Prop
 | [],_ => True
 | x :: r,s => ok s x ∧ ((stp s x).1 = true → okRun stp ok r (stp s x).2)
structure Src2 (C : Cfg) (l : Nat) (S : Type) (R : S → Fm → Prop) (stp : S → List AV → Bool × S) (ok : S → List AV → Prop) (live : S → Prop) (n0 k : Nat) : Prop where
 anch : ∀ s m,R s m → Anch n0 m
 klock : k ≤ n0
 step : ∀ s x,live s → ok s x → (stp s x).1 = true → live (stp s x).2
 round : ∀ s m x H,live s → ok s x → R s m → Has m H → H.lock = k → n0 ≤ H.size → ∃ H' m',lim C (.round l x H) = some (.ret (.v (.bool (stp s x).1)) H') ∧ R (stp s x).2 m' ∧ Has m' H' ∧ Moves m H m' H'
theorem Src2.round' {C : Cfg} {l : Nat} {S : Type} {R : S → Fm → Prop} {stp : S → List AV → Bool × S} {ok : S → List AV → Prop} {live : S → Prop} {n0 k : Nat} (h : Src2 C l S R stp ok live n0 k) (s : S) (m : Fm) (x : List AV) (H : Heap) (h1 : live s) (h2 : ok s x) (h3 : R s m) (h4 : Has m H) (h5 : H.lock = k) (h6 : n0 ≤ H.size) :
  ∃ H' H2 m',lim C (.round l x H) = some (.ret (.v (.bool (stp s x).1)) H') ∧ settleH H.size H' = H2 ∧ R (stp s x).2 m' ∧ Has m' H2 ∧ Moves m H m' H2 := by
 obtain ⟨H',m',a,b,c,d⟩ := h.round s m x H h1 h2 h3 h4 h5 h6
 exact ⟨H',_,m',a,rfl,b,c.settle _,d.settle rfl⟩
end Go.Ev
namespace Go.Ev
section
variable {C : Cfg} {me : FuncId} {S : Type} {R : S → Fm → Prop} {stp : S → List AV → AExit × S} {lv : S → Prop} {ok : S → List AV → Prop} {n0 k d : Nat}
def bd2K (R : S → Fm → Prop) (d : Nat) (L' : ALoop) (m : Fm) (H : Heap) (p : AExit × S) : Post := fun e _ H' => e = p.1 ∧ ∃ m',R p.2 m' ∧ Has m' H' ∧ loopObj H' (d + 1) = some L' ∧ Moves ((d + 1,.loop L') :: m) H ((d + 1,.loop L') :: m') H'
def as2K (C : Cfg) (me : FuncId) (R : S → Fm → Prop) (d : Nat) (body : Code) (L L' : ALoop) (m : Fm) (H : Heap) (p : AExit × S) : Post := fun e a H1 => e = .normal ∧ loopObj H1 (d + 1) = some L ∧ Wp C me (some (d + 1)) body a (H1.put (d + 1) (.loop L')) (bd2K R d L' m H p)
theorem loopObj_getI {H : Heap} {b : Nat} {L : ALoop} (h : loopObj H b = some L) : H.get b = some (.loop L) := by
 unfold loopObj at h
 split at h
 ·rename_i l hl;cases h;exact hl
 ·cases h
theorem get_loopObj {H : Heap} {b : Nat} {L : ALoop} (h : H.get b = some (.loop L)) : loopObj H b = some L := by
 unfold loopObj;rw [h]
def RR (R : S → Fm → Prop) (d : Nat) (L : LoopState → Option Code → ALoop) (q : S × AExit) (m' : Fm) : Prop := ∃ m,R q.1 m ∧ m' = (d,.dfr) :: (d + 1,.loop (L (stateOf q.2) (pend q.2))) :: m
theorem src2_range {sz : Nat} {ts : List (Tmp × AV)} {ps : Array Tmp} {asg body : Code} (hn0 : n0 ≤ d) (hk : k ≤ d)
  (hanch : ∀ s m,R s m → Anch n0 m) (hdm : ∀ s m,R s m → ¬ keyIn d m ∧ ¬ keyIn (d + 1) m)
  (hlv : ∀ s x,lv s → ok s x → (stp s x).1 = .normal → lv (stp s x).2)
  (hbody : ∀ (L L' : ALoop) s m x H,L'.dfr = d → lv s → ok s x → x.length = ps.size → R s m → Has m H → H.get d = some .dfr → loopObj H (d + 1) = some L → H.lock = k → d + 2 ≤ H.size →
   Wp C me (some (d + 1)) asg ⟨sz,setTmps sz ts (ps.toList.zip x),[]⟩ H (as2K C me R d body L L' m H (stp s x))) :
  Src2 C (d + 1) (S × AExit) (RR R d (busyL me sz ts ps asg body d)) (fun q x => (isGo (stp q.1 x).1,((stp q.1 x).2,(stp q.1 x).1))) (fun q x => ok q.1 x ∧ x.length = ps.size) (fun q => lv q.1 ∧ q.2 = .normal) (d + 2) k := by
 refine ⟨?_,by omega,fun q x hl ho hs => ?_,fun q m' x H hl ho hR hH hlk hsz => ?_⟩
 ·rintro q m' ⟨m,hm,rfl⟩ n hn ⟨p,hp,hpn⟩
  have hpm : p ∈ m := by
   rcases List.mem_cons.1 hp with rfl | hp
   ·simp only at hpn;omega
   ·rcases List.mem_cons.1 hp with rfl | hp
    ·simp only at hpn;omega
    ·exact hp
  obtain ⟨q',hq,h1,h2⟩ := hanch _ m hm n (by omega) ⟨p,hpm,hpn⟩
  exact ⟨q',List.mem_cons_of_mem _ (List.mem_cons_of_mem _ hq),h1,h2⟩
 ·obtain ⟨s,e⟩ := q
  simp only at hl hs ⊢
  have he : (stp s x).1 = .normal := by
   cases h : (stp s x).1 <;> rw [h] at hs <;> first | rfl | cases hs
  exact ⟨hlv s x hl.1 ho.1 he,he⟩
 ·obtain ⟨s,e⟩ := q
  obtain ⟨hl1,rfl⟩ := hl
  obtain ⟨m,hm,rfl⟩ := hR
  simp only at hm ⊢
  have h0 : H.get d = some .dfr := hH (d,.dfr) (by simp)
  have h1 : H.get (d + 1) = some (.loop (busyL me sz ts ps asg body d (stateOf .normal) (pend .normal))) := hH (d + 1,_) (by simp)
  have hmH : Has m H := fun p hp => hH p (List.mem_cons_of_mem _ (List.mem_cons_of_mem _ hp))
  have key := round_step (C := C) (l := d + 1) (args := x) (H := H) (r := busyL me sz ts ps asg body d .ready none) (K := fun b H' => b = isGo (stp s x).1 ∧ ∃ m',RR R d (busyL me sz ts ps asg body d) ((stp s x).2,(stp s x).1) m' ∧ Has m' H' ∧ Moves ((d,.dfr) :: (d + 1,.loop (busyL me sz ts ps asg body d (stateOf .normal) (pend .normal))) :: m) H m' H') (get_loopObj h1) ho.2 (by omega) ?_
  ·obtain ⟨b,H',h2,rfl,m',h3,h4,h5⟩ := key
   exact ⟨H',m',h2,h3,h4,h5⟩
  ·refine Wp_mono (hbody (busyL me sz ts ps asg body d .ready none) (busyL me sz ts ps asg body d .busy none) s m x H rfl hl1 ho.1 ho.2 hm hmH h0 (get_loopObj h1) hlk hsz) ?_
   rintro e0 a0 H0 ⟨rfl,hL0,hb0⟩
   refine asgK_mk (r1 := busyL me sz ts ps asg body d .ready none) hL0 rfl ?_
   refine Wp_mono hb0 ?_
   rintro e1 a1 H1 ⟨rfl,m',hm',hH1,hL1,hmv⟩
   refine bodyK_mk (r3 := busyL me sz ts ps asg body d .busy none) (j := pend (stp s x).1) hL1 (jumpOf_pend _) ⟨pend_none _, ?_⟩
   have e1 : ({ busyL me sz ts ps asg body d .busy none with state := if (pend (stp s x).1).isNone then .ready else .done,pending := pend (stp s x).1 } : ALoop) = busyL me sz ts ps asg body d (stateOf (stp s x).1) (pend (stp s x).1) := rfl
   rw [e1]
   generalize hLf : busyL me sz ts ps asg body d (stateOf (stp s x).1) (pend (stp s x).1) = Lf
   have hd1 : d + 1 < H1.size := get_ltS (loopObj_getI hL1)
   have hd0 : H1.get d = some .dfr := by
    rw [hmv.same d (by omega) ?_,h0]
    rintro ⟨p,hp,he⟩
    rcases List.mem_cons.1 hp with rfl | hp
    ·simp only at he;omega
    ·exact (hdm _ _ hm).1 ⟨p,hp,he⟩
   have hR' : RR R d (busyL me sz ts ps asg body d) ((stp s x).2,(stp s x).1) ((d,.dfr) :: (d + 1,.loop Lf) :: m') := ⟨m',hm',by rw [← hLf]⟩
   have hH2 : Has ((d,.dfr) :: (d + 1,.loop Lf) :: m') (H1.put (d + 1) (.loop Lf)) := by
    intro p hp
    rcases List.mem_cons.1 hp with rfl | hp
    ·simp only;rw [put_get_ne _ (by omega) (by omega)];exact hd0
    ·rcases List.mem_cons.1 hp with rfl | hp
     ·simp only;exact put_get_eq _ (by omega)
     ·rw [put_get_ne _ (by omega) (fun e => (hdm _ _ hm').2 ⟨p,hp,e⟩)];exact hH1 p hp
   have hmv2 : Moves ((d,.dfr) :: (d + 1,.loop (busyL me sz ts ps asg body d (stateOf .normal) (pend .normal))) :: m) H ((d,.dfr) :: (d + 1,.loop Lf) :: m') (H1.put (d + 1) (.loop Lf)) := by
    refine ⟨hmv.lock,by rw [put_sizeI _ hd1];exact hmv.size,fun b hb hnb => ?_,fun p hp => ?_⟩
    ·have hb1 : b ≠ d + 1 := fun e => hnb ⟨(d + 1,.loop (busyL me sz ts ps asg body d (stateOf .normal) (pend .normal))),List.mem_cons_of_mem _ List.mem_cons_self,e.symm⟩
     rw [put_get_ne _ (by omega) hb1]
     refine hmv.same b hb ?_
     rintro ⟨p,hp,he⟩
     rcases List.mem_cons.1 hp with rfl | hp
     ·exact hb1 he.symm
     ·exact hnb ⟨p,List.mem_cons_of_mem _ (List.mem_cons_of_mem _ hp),he⟩
    ·rcases List.mem_cons.1 hp with rfl | hp
     ·exact Or.inl ⟨(d,.dfr),by simp,rfl⟩
     ·rcases List.mem_cons.1 hp with rfl | hp
      ·exact Or.inl ⟨(d + 1,.loop (busyL me sz ts ps asg body d (stateOf .normal) (pend .normal))),List.mem_cons_of_mem _ List.mem_cons_self,rfl⟩
      ·rcases hmv.keys p (List.mem_cons_of_mem _ hp) with ⟨q,hq,he⟩ | h
       ·rcases List.mem_cons.1 hq with rfl | hq
        ·exact Or.inl ⟨(d + 1,.loop (busyL me sz ts ps asg body d (stateOf .normal) (pend .normal))),List.mem_cons_of_mem _ List.mem_cons_self,he⟩
        ·exact Or.inl ⟨q,List.mem_cons_of_mem _ (List.mem_cons_of_mem _ hq),he⟩
       ·exact Or.inr h
   have hanch2 : Anch (d + 2) ((d,.dfr) :: (d + 1,.loop Lf) :: m') := by
    rintro n hn ⟨p,hp,hpn⟩
    have hpm : p ∈ m' := by
     rcases List.mem_cons.1 hp with rfl | hp
     ·simp only at hpn;omega
     ·rcases List.mem_cons.1 hp with rfl | hp
      ·simp only at hpn;omega
      ·exact hp
    obtain ⟨q',hq,h1,h2⟩ := hanch _ m' hm' n (by omega) ⟨p,hpm,hpn⟩
    exact ⟨q',List.mem_cons_of_mem _ (List.mem_cons_of_mem _ hq),h1,h2⟩
   exact ⟨_,hR',hH2.trim hanch2 hsz _ _,hmv2.trim _ _ rfl⟩
theorem okRun_q {n : Nat} : ∀ (items : List (List AV)) (s : S) (e : AExit),okRun (fun s x => (isGo (stp s x).1,(stp s x).2)) ok items s → (∀ x ∈ items,x.length = n) →
  okRun (fun (q : S × AExit) x => (isGo (stp q.1 x).1,((stp q.1 x).2,(stp q.1 x).1))) (fun q x => ok q.1 x ∧ x.length = n) items (s,e)
 | [],_,_,_,_ => trivial
 | x :: r,s,e,h,hl => ⟨⟨h.1,hl x (by simp)⟩,fun hg => okRun_q r _ _ (h.2 hg) fun y hy => hl y (by simp [hy])⟩
end
end Go.Ev
namespace Go.Ev
open Go.Proofs
theorem settle_eqN {H : Heap} {n : Nat} (hn : H.size = n) : settleH n H = H := by subst hn;exact settle_size H
theorem trim_eqN {H : Heap} {n : Nat} (hn : H.size = n) (vs : List AV) (ms : List Nat) : H.trim n vs ms = H := by subst hn;exact trim_size H vs ms
end Go.Ev
namespace Go.Ev
section
variable {C : Cfg} {me : FuncId} {rd : Option Nat}
def okFoot (base top w : Nat) (ft : Foot) : Bool := match ft.reads with | some l => l.all fun b => Nat.blt b base || Nat.ble top b || w.testBit (b - base) | none => false
def callFoot : Foot := ⟨some [],some [],[],false,false,0,false,noKept⟩
def idleFoot (C : Cfg) (me : FuncId) (o : Oper) (a : AAct) (slot : Nat) : Foot :=
 match o.op with
 | .call c => match c.callee with | .value _ => callFoot | _ => footA C me o a slot
 | _ => footA C me o a slot
def frOne (o : Option Foot) (f : Foot) : Bool := match o with | some g => !clash g f | none => false
def freeT (feet : List Foot) (u : List Nat) (ft : Foot) : Bool := u.all fun k => frOne (feet[k]?) ft
def ltB (a b : Nat) : Bool := decide (a < b)
def okFootT (base : Nat) (w : List Nat) (ft : Foot) : Bool := match ft.reads with | some l => l.all fun b => ltB b base || w.any fun k => b == base + k | none => false
abbrev Tab := List (List Nat × List Nat × Bool)
noncomputable def callX (C : Cfg) (me : FuncId) (d : Option Tmp) (v : AV) (l : List AV) (H : Heap) : Option (AV × Heap) :=
 match v with
 | .fn (.func f) x y => callA C (lim C) me f d (x ++ l ++ y) H
 | .yld b => (match lim C (.round b l H) with | some (.ret v H') => some (v,H') | _ => none)
 | _ => none
def kind0 (C : Cfg) (me : FuncId) (d : Option Tmp) (v : AV) (l : List AV) : Bool :=
 match v with
 | .fn (.func f) x y => (C.ext f).isNone && Nat.beq (callKind C me f d (x ++ l ++ y)) 0
 | .yld _ => true
 | _ => false
def SameOut (base top : Nat) (G G' : Heap) : Prop := ∀ b,(b < base ∨ top ≤ b) → G'.get b = G.get b
def effV (C : Cfg) (me : FuncId) (base top : Nat) (d : Option Tmp) (v : AV) (l : List AV) (G : Heap) (cont : AV → Heap → Prop) : Prop :=
 kind0 C me d v l = true ∧ ∀ Gh : Heap,Gh.lock = G.lock → Gh.size = G.size → SameOut base top G Gh → ∃ r Y,callX C me d v l Gh = some (r,Y) ∧ G.size ≤ Y.size ∧
  ∀ G' : Heap,G'.lock = G.lock → G'.size = Y.size → SameOut base top Y G' → (∀ b,base ≤ b → b < top → G'.get b = G.get b ∨ G'.get b = Y.get b) → cont r G'
def effO (C : Cfg) (me : FuncId) (base top : Nat) (o : Oper) (a : AAct) (G : Heap) (cont : AV → Heap → Prop) : Prop :=
 match o.op with
 | .call c => (match c.callee with | .value g => bindO (evals a c.args.toList) fun l => bindO (a.eval g) fun v => effV C me base top o.dst v l G cont | _ => False)
 | _ => False
def kind2 (C : Cfg) (me : FuncId) (d : Option Tmp) (v : AV) (l : List AV) : Bool :=
 match v with
 | .fn (.func f) x y => (C.ext f).isNone && Nat.beq (callKind C me f d (x ++ l ++ y)) 2
 | _ => false
def SameVis (base top : Nat) (vl : List Nat) (G G' : Heap) : Prop := ∀ b,(b < base ∨ top ≤ b ∨ (base ≤ b ∧ vl.contains (b - base) = true)) → G'.get b = G.get b
def stillV (C : Cfg) (me : FuncId) (base top : Nat) (vl : List Nat) (d : Option Tmp) (v : AV) (l : List AV) (G : Heap) (cont : AV → Heap → Prop) : Prop :=
 kind2 C me d v l = true ∧ ∃ r,(∀ Gh : Heap,Gh.lock = G.lock → Gh.size = G.size → SameVis base top vl G Gh → ∃ Y,callX C me d v l Gh = some (r,Y)) ∧ cont r G
def stillO (C : Cfg) (me : FuncId) (base top : Nat) (vl : List Nat) (o : Oper) (a : AAct) (G : Heap) (cont : AV → Heap → Prop) : Prop :=
 match o.op with
 | .call c => (match c.callee with | .value g => bindO (evals a c.args.toList) fun l => bindO (a.eval g) fun v => stillV C me base top vl o.dst v l G cont | _ => False)
 | _ => False
def stillFoot : Foot := ⟨none,some [],[],false,false,0,false,noKept⟩
def effFoot : Foot := ⟨none,none,[],false,true,0,false,noKept⟩
def drawP (C : Cfg) (me : FuncId) (arr : Array Oper) (base : Nat) : Tab → List Oper → Nat → List Foot → AAct → Heap → PostS → Prop
 | _,[],_,_,a,G,K => AtS K a G
 | tb,o :: r,i,feet,a,G,K => bindO (wantedA arr a o) fun w => iteB w
   (iteB (plainO o) (WpO C me o.dst o.op a G (base + i) fun v _ => drawP C me arr base tb.tail r (i + 1) (feet ++ [noFoot]) (a.put o.dst v) G K)
    (iteB (locOp o.op) (iteB (okFootT base (tb.headD ([],[],false)).2.1 (footA C me o a (base + i)) && freeT feet (tb.headD ([],[],false)).1 (footA C me o a (base + i)))
      (WpO C me o.dst o.op a G (base + i) fun v G' => drawP C me arr base tb.tail r (i + 1) (feet ++ [footA C me o a (base + i)]) (a.put o.dst v) G' K) False)
     (iteB (tb.headD ([],[],false)).2.2
      (iteB (tb.headD ([],[],false)).1.isEmpty (effO C me base (base + arr.toList.length) o a G fun v G' => drawP C me arr base tb.tail r (i + 1) (feet ++ [effFoot]) (a.put o.dst v) G' K)
       (iteB (freeT feet (tb.headD ([],[],false)).1 stillFoot) (stillO C me base (base + arr.toList.length) (tb.headD ([],[],false)).2.1 o a G fun v G' => drawP C me arr base tb.tail r (i + 1) (feet ++ [stillFoot]) (a.put o.dst v) G' K) False))
      (iteB (freeT feet (tb.headD ([],[],false)).1 (idleFoot C me o a (base + i)))
       (bindO (opI C me { objs := [],lock := 0 } o.dst o.op a) fun v => drawP C me arr base tb.tail r (i + 1) (feet ++ [idleFoot C me o a (base + i)]) (a.put o.dst v) G K) False))))
   (drawP C me arr base tb.tail r (i + 1) (feet ++ [noFoot]) (a.put o.dst undefA) G K)
def plainAt (l : List Oper) (i : Nat) : Bool := match l[i]? with | some o => plainO o | none => false
def rowOk (l : List Oper) (wi : Nat) (i : Nat) (u w : List Nat) : Bool := plainAt l i || ((List.range i).all fun k => wi.testBit k || plainAt l k || u.contains k) && w.all fun k => wi.testBit k
def tabOk (l : List Oper) (ws : List Nat) (tb : Tab) : Bool := (List.range l.length).all fun i => rowOk l (ws.getD i 0) i (tb.getD i ([],[],false)).1 (tb.getD i ([],[],false)).2.1
theorem clash_no (ft : Foot) : clash noFoot ft = false := by
 obtain ⟨rx,wx,fx,px,gx⟩ := ft
 have e1 : ∀ z,meet (some []) z = false := fun _ => rfl
 simp [clash,noFoot,e1]
theorem free_of {l : List Oper} {wi i : Nat} {u w : List Nat} {feet : List Foot} {ft : Foot} (hr : rowOk l wi i u w = true) (hnp : plainAt l i = false) (hp : ∀ k o,k < i → l[k]? = some o → plainO o = true → feet[k]? = some noFoot) (hf : freeT feet u ft = true) : freeOf feet wi ft i = true := by
 unfold rowOk at hr
 rw [hnp,Bool.false_or] at hr
 simp only [Bool.and_eq_true,List.all_eq_true] at hr
 have key : ∀ n,n ≤ i → freeOf feet wi ft n = true := by
  intro n
  induction n with
  | zero => intro _;rfl
  | succ k ih =>
   intro hk
   unfold freeOf
   rw [ih (by omega),Bool.and_true]
   have := hr.1 k (List.mem_range.2 (by omega))
   simp only [Bool.or_eq_true] at this
   rcases this with (h | h) | h
   ·rw [h,Bool.true_or]
   ·unfold plainAt at h
    split at h
    ·rename_i o ho
     rw [hp k o (by omega) ho h]
     simp only [clash_no,Bool.not_false,Bool.or_true]
    ·cases h
   ·have h2 := List.all_eq_true.1 hf k (by simpa using h)
    unfold frOne at h2
    rw [Bool.or_eq_true]
    exact Or.inr h2
 exact key i (Nat.le_refl _)
theorem ok_of {l : List Oper} {wi i base top : Nat} {u w : List Nat} {ft : Foot} (hr : rowOk l wi i u w = true) (hnp : plainAt l i = false) (h : okFootT base w ft = true) : okFoot base top wi ft = true := by
 unfold rowOk at hr
 rw [hnp,Bool.false_or] at hr
 simp only [Bool.and_eq_true,List.all_eq_true] at hr
 unfold okFootT at h
 unfold okFoot
 split at h
 ·rename_i rl hrl
  rw [List.all_eq_true] at h ⊢
  intro b hb
  have := h b hb
  simp only [Bool.or_eq_true] at this ⊢
  rcases this with h1 | h1
  ·left;left;exact Nat.ble_eq_true_of_le (of_decide_eq_true h1)
  ·obtain ⟨k,hk,he⟩ := List.any_eq_true.1 h1
   right
   have : b = base + k := by simpa using he
   rw [this,Nat.add_sub_cancel_left];exact hr.2 k hk
 ·cases h
theorem free_no {feet : List Foot} {w : Nat} : ∀ n,n ≤ feet.length → freeOf feet w noFoot n = true
 | 0,_ => rfl
 | k + 1,hn => by
  unfold freeOf
  rw [free_no k (by omega),Bool.and_true,Bool.or_eq_true]
  right
  cases h : feet[k]? with
  | none => exact absurd (List.getElem?_eq_none_iff.1 h) (by omega)
  | some f =>
   obtain ⟨rx,wx,fx,px,gx⟩ := f
   have e2 : ∀ r : Option (List Nat),meet r (some []) = false := by
    intro r;unfold meet;split <;> simp_all
   simp [clash,noFoot,e2]
theorem vis_of {ft : Foot} {base top w slot : Nat} {l : List Nat} (hr : ft.reads = some l) (h : okFoot base top w ft = true) : (∀ b ∈ l,visB base top w slot ft b = true) ∧ visB base top w slot ft slot = true := by
 unfold okFoot at h
 rw [hr] at h
 simp only [List.all_eq_true] at h
 refine ⟨fun b hb => ?_, ?_⟩
 ·unfold visB
  rw [hr]
  simp only [h b hb,Bool.true_and,Bool.or_eq_true]
  exact Or.inr (List.any_eq_true.2 ⟨b,hb,Nat.beq_refl b⟩)
 ·unfold visB;rw [Nat.beq_refl];rfl
theorem foot_grows {o : Oper} {a : AAct} {slot : Nat} : (footA C me o a slot).grows = false := by
 unfold footA
 split <;> try rfl
 split <;> try rfl
 split <;> try rfl
 split <;> try rfl
 split <;> rfl
theorem opI_any {o : Oper} {a : AAct} {v : AV} (hp : plainO o = false) (hl : locOp o.op = false) (h : opI C me { objs := [],lock := 0 } o.dst o.op a = some v) (slot : Nat) :
  (∀ G : Heap,opA C (lim C) me o a G slot = some (some v,G)) ∧ (footA C me o a slot).idle = true ∧ idleFoot C me o a slot = footA C me o a slot := by
 obtain ⟨dst,op,ty,pos,after,guard⟩ := o
 simp only at hl h hp
 unfold opI at h
 split at h
 ·cases hl
 ·rename_i t x l hh m
  simp only [Option.bind_eq_some_iff] at h
  obtain ⟨u,hu,l',hl',h',hh',m',hm',h⟩ := h
  have hs : ∀ G : Heap,sliceA C.P G t u l' h' m' = some v := by
   intro G
   unfold sliceI at h
   split at h
   ·cases h
   ·rename_i hne
    rw [← h]
    unfold sliceA
    cases C.P.underlying t with
    | none => cases u <;> rfl
    | some d => cases d <;> cases u <;> first | rfl | (exact absurd rfl (hne _ _ _ _ _)) | (rename_i y;cases y <;> first | rfl | (rename_i p n c;cases p <;> first | rfl | (cases n <;> first | rfl | (cases c <;> rfl))))
  refine ⟨fun G => ?_,rfl,rfl⟩
  simp only [opA,hu]
  show (match (some u),lookO a l,lookO a hh,lookO a m with | some v,some l,some h,some m => (sliceA C.P G t v l h m).map fun v => (some v,G) | _,_,_,_ => none) = _
  rw [hl',hh',hm']
  simp only [hs G,Option.map_some]
 ·rename_i c
  obtain ⟨cal,args,ts⟩ := c
  simp only at h
  split at h
  ·obtain ⟨l,hev,h⟩ := Option.bind_eq_some_iff.1 h
   have hs : ∀ G : Heap,lenA C.P G ts.toList l = some v := by
    intro G
    unfold lenI at h
    split at h
    ·cases h
    ·rename_i hne
     rw [← h]
     unfold lenA
     cases ts.toList with
     | nil => rfl
     | cons t r =>
      cases l with
      | nil => rfl
      | cons x s =>
       simp only
       cases C.P.underlying t with
       | none => cases x <;> rfl
       | some d => cases d <;> cases x <;> first | rfl | (exact absurd rfl (hne _ _)) | (rename_i y;cases y <;> first | rfl | (rename_i p;cases p <;> rfl) | (rename_i p n c;cases p <;> first | rfl | (cases n <;> first | rfl | (cases c <;> rfl))))
   refine ⟨fun G => ?_, ?_,rfl⟩
   ·simp only [opA,hev,hs G,Option.map_some]
   ·simp only [footA];rfl
  ·obtain ⟨l,hev,h⟩ := Option.bind_eq_some_iff.1 h
   refine ⟨fun G => ?_,rfl,rfl⟩
   cases l with
   | nil => cases h
   | cons x r =>
    have h : minmaxA false x r = some v := h
    simp only [opA,hev,h,Option.map_some]
  ·rename_i g
   simp only [Option.bind_eq_some_iff] at h
   obtain ⟨l,hev,gv,hg,h⟩ := h
   unfold callV at h
   split at h
   ·rename_i f x y
    unfold callI at h
    split at h
    ·rename_i hex
     cases h
     obtain ⟨h1,h2⟩ := hex.choose_spec
     have hfe : ∀ ty pos after guard,footA C me ⟨dst,.call ⟨.value g,args,ts⟩,ty,pos,after,guard⟩ a slot = callFoot := by
      intro ty pos after guard
      simp only [footA,hg,hev]
      rcases h2 with h2 | h2
      ·rw [if_pos h2];rfl
      ·split
       ·rfl
       ·rw [h2];rfl
     refine ⟨fun G => ?_, ?_, ?_⟩
     ·simp only [opA,hev,hg]
      rw [h1 G];rfl
     ·rw [hfe];rfl
     ·rw [hfe];rfl
    ·cases h
   ·cases h
  ·cases h
 ·rename_i h1 h2 h3
  have : plainO (bareO dst op) = false := hp
  rw [this] at h
  simp at h
theorem drawP_runs {arr : Array Oper} {ops : List Oper} {ws : List Nat} {base n : Nat} {K : PostS} (hnear : ∀ d,C.near me d = false) (hn : arr.toList.length = n) : ∀ (l : List Oper) (tb : Tab) (i : Nat) (feetM feet : List Foot) (a : AAct) (G : Heap),feet.length = i → feetM.length = i → i + l.length ≤ n → base + n ≤ G.size → (∀ (k : Nat) (ft : Foot),frOne (feetM[k]?) ft = true → frOne (feet[k]?) ft = true) → (∀ k,l[k]? = ops[i + k]?) →
  (∀ k,i + k < i + l.length → rowOk ops (ws.getD (i + k) 0) (i + k) (tb.getD k ([],[],false)).1 (tb.getD k ([],[],false)).2.1 = true) → (∀ k o,k < i → ops[k]? = some o → plainO o = true → feet[k]? = some noFoot) → drawP C me arr base tb l i feetM a G K →
  ∃ r,drawA C (lim C) me arr base (base + n) ws l i feet a G = some r ∧ K r.1 r.2
 | [],tb,i,feetM,feet,a,G,_,_,_,_,_,_,_,_,h => ⟨(a,G),rfl,(by unfold drawP at h;exact h)⟩
 | o :: r,tb,i,feetM,feet,a,G,hf,hfM,hi,hs,hle,hops,htb,hpl,h => by
  have hle' : ∀ f f' : Foot,(∀ ft,frOne (some f) ft = true → frOne (some f') ft = true) → ∀ (k : Nat) (ft : Foot),frOne ((feetM ++ [f])[k]?) ft = true → frOne ((feet ++ [f'])[k]?) ft = true := by
   intro f f' hff k ft hk
   rcases Nat.lt_or_ge k i with h1 | h1
   ·rw [List.getElem?_append_left (by omega)] at hk ⊢;exact hle k ft hk
   ·rw [List.getElem?_append_right (by omega)] at hk ⊢
    rw [hfM] at hk;rw [hf]
    cases hki : k - i with
    | zero => rw [hki] at hk;exact hff ft hk
    | succ z => rw [hki] at hk;simp [frOne] at hk
  have hsame : ∀ f : Foot,∀ ft,frOne (some f) ft = true → frOne (some f) ft = true := fun _ _ h => h
  have hfree : ∀ (u : List Nat) (ft : Foot),freeT feetM u ft = true → freeT feet u ft = true := fun u ft h => List.all_eq_true.2 fun k hk => hle k ft (List.all_eq_true.1 h k hk)
  have hrow := htb 0 (by simp)
  have ho0 : ops[i]? = some o := by have := hops 0;simpa using this.symm
  have hops' : ∀ k,r[k]? = ops[i + 1 + k]? := fun k => by have := hops (k + 1);rw [List.getElem?_cons_succ] at this;rw [this,show i + (k + 1) = i + 1 + k by omega]
  have htd : ∀ k,tb.tail.getD k ([],[],false) = tb.getD (k + 1) ([],[],false) := fun k => by cases tb <;> simp
  have htb' : ∀ k,i + 1 + k < i + 1 + r.length → rowOk ops (ws.getD (i + 1 + k) 0) (i + 1 + k) (tb.tail.getD k ([],[],false)).1 (tb.tail.getD k ([],[],false)).2.1 = true := fun k hk => by
   rw [htd,show i + 1 + k = i + (k + 1) by omega];exact htb (k + 1) (by simp;omega)
  have hhd : tb.getD 0 ([],[],false) = tb.headD ([],[],false) := by cases tb <;> rfl
  have hpl' : ∀ (ft : Foot),(plainO o = true → ft = noFoot) → ∀ k o',k < i + 1 → ops[k]? = some o' → plainO o' = true → (feet ++ [ft])[k]? = some noFoot := by
   intro ft hft k o' hk ho' hp
   rcases Nat.lt_or_ge k i with h1 | h1
   ·rw [List.getElem?_append_left (by omega)];exact hpl k o' h1 ho' hp
   ·have : k = i := by omega
    subst this
    rw [ho0] at ho';cases ho'
    rw [List.getElem?_append_right (by omega),hf,Nat.sub_self,hft hp];rfl
  rw [hhd,Nat.add_zero] at hrow
  have hi' : i + (r.length + 1) ≤ n := by simpa using hi
  unfold drawP at h
  rw [bindO_iff] at h
  obtain ⟨w,hw,h⟩ := h
  unfold drawA stepD
  rw [hw]
  cases w
  ·simp only [iteB_false] at h
   simp only
   rw [free_no i (by omega),if_pos rfl]
   exact drawP_runs hnear hn r _ (i + 1) _ _ _ G (by simp [hf]) (by simp [hfM]) (by omega) hs (hle' _ _ (hsame _)) hops' htb' (hpl' noFoot fun _ => rfl) h
  ·simp only [iteB_true] at h
   simp only
   by_cases hp : plainO o = true
   ·rw [hp] at h
    simp only [iteB_true] at h
    rw [if_pos hp]
    unfold WpO at h
    rw [bindO_iff,← opA_same] at h
    obtain ⟨⟨v,G1⟩,hop,h⟩ := h
    rw [hop]
    simp only
    rw [free_no i (by omega),if_pos rfl]
    exact drawP_runs hnear hn r _ (i + 1) _ _ _ G (by simp [hf]) (by simp [hfM]) (by omega) hs (hle' _ _ (hsame _)) hops' htb' (hpl' noFoot fun _ => rfl) h
   ·have hp' : plainO o = false := by simpa using hp
    rw [hp'] at h
    simp only [iteB_false] at h
    rw [if_neg hp]
    have hnp : plainAt ops i = false := by unfold plainAt;rw [ho0];exact hp'
    by_cases hl : locOp o.op = true
    ·rw [hl] at h
     simp only [iteB_true] at h
     generalize hft : footA C me o a (base + i) = ft at h ⊢
     cases hokT : okFootT base (tb.headD ([],[],false)).2.1 ft && freeT feetM (tb.headD ([],[],false)).1 ft
     ·rw [hokT] at h;exact h.elim
     ·rw [hokT] at h
      simp only [iteB_true] at h
      simp only [Bool.and_eq_true] at hokT
      have hok : okFoot base (base + n) (ws.getD i 0) ft = true ∧ freeOf feet (ws.getD i 0) ft i = true := ⟨ok_of hrow hnp hokT.1,free_of hrow hnp hpl (hfree _ _ hokT.2)⟩
      unfold WpO at h
      rw [bindO_iff,← opA_same] at h
      obtain ⟨⟨v,G1⟩,hop,h⟩ := h
      obtain ⟨reads,hr,eff,he1,he2,he3⟩ := opA_loc hl hop
      rw [hft] at hr
      obtain ⟨hv1,hv2⟩ := vis_of (slot := base + i) hr hok.1
      generalize hvis : visB base (base + n) (ws.getD i 0) (base + i) ft = vis at hv1 hv2 ⊢
      have hrl : ∀ b ∈ reads,b < G.size → (G.hide vis).get b = G.get b := fun b hb hbs => by rw [hide_get,if_pos hbs,if_pos (hv1 b hb)]
      have hrl2 : ∀ b ∈ reads,(G.hide vis).get b = G.get b := fun b hb => by
       rcases Nat.lt_or_ge b G.size with h1 | h1
       ·exact hrl b hb h1
       ·rw [hide_get,if_neg (by omega),get_none (by omega)]
      have hrun := he3 (G.hide vis) rfl hrl2
      simp only at hrun
      rw [hrun]
      simp only
      have heff : ∀ b o',eff = some (b,o') → b < G.size ∧ vis b = true := by
       intro b o' he
       rcases he1 b o' he with ⟨h1,h2⟩ | h1
       ·obtain ⟨o2,ho2⟩ := Option.isSome_iff_exists.1 h2
        exact ⟨get_ltS ho2,hv1 b h1⟩
       ·subst h1;exact ⟨by omega,hv2⟩
      obtain ⟨hm1,hm2,hm3⟩ := merge_putO heff
      have hg : ({ ft with grows := false } : Foot) = ft := by rw [← hft];have := foot_grows (C := C) (me := me) (o := o) (a := a) (slot := base + i);cases hq : footA C me o a (base + i);rw [hq] at this;simp only at this;subst this;rfl
      have hcont := drawP_runs (n := n) (ws := ws) (ops := ops) hnear hn r _ (i + 1) _ (feet ++ [ft]) _ G1 (by simp [hf]) (by simp [hfM]) (by omega) (by rw [he2,hm3];exact hs) (hle' _ _ (hsame _)) hops' htb' (hpl' ft fun h => absurd h hp) h
      by_cases hid : ft.idle = true
      ·rw [if_pos hid]
       have hG1 : G1 = G := by
        have hW : ∃ W,(footA C me o a (base + i)).writes = some W ∧ W ++ (footA C me o a (base + i)).fresh = [] := by
         rw [hft]
         unfold Foot.idle at hid
         split at hid
         ·rename_i hw;exact ⟨[],hw,by simpa using hid⟩
         ·cases hid
        obtain ⟨W,hW1,hW2⟩ := hW
        have := opA_keeps hop (by omega) hW1
        rw [hW2] at this
        exact heap_ext this.1 this.2.1 fun b => this.2.2 b (by simp)
       simp only [footI,hnear,Bool.false_eq_true,if_false]
       simp only [hok.2,if_true]
       rw [hG1] at hcont
       exact hcont
      ·rw [if_neg hid,hm2,Nat.ble_eq_true_of_le (Nat.le_refl _)]
       simp only [footN,hnear,Bool.false_eq_true,if_false]
       simp only [if_true,hm1,Nat.beq_refl,Bool.not_true,hg,hok.2]
       rw [he2] at hcont
       exact hcont
    ·have hl' : locOp o.op = false := by simpa using hl
     rw [hl'] at h
     simp only [iteB_false] at h
     cases hflag : (tb.headD ([],[],false)).2.2
     case false =>
      rw [hflag] at h
      simp only [iteB_false] at h
      generalize hft : idleFoot C me o a (base + i) = ft at h
      cases hokT : freeT feetM (tb.headD ([],[],false)).1 ft
      ·rw [hokT] at h;exact h.elim
      ·rw [hokT] at h
       simp only [iteB_true] at h
       have hok : freeOf feet (ws.getD i 0) ft i = true := free_of hrow hnp hpl (hfree _ _ hokT)
       rw [bindO_iff] at h
       obtain ⟨v,hv,h⟩ := h
       obtain ⟨h1,h2,h3⟩ := opI_any hp' hl' hv (base + i)
       rw [hft] at h3
       rw [← h3] at h2 ⊢
       rw [h1]
       simp only
       rw [if_pos h2]
       simp only [footI,hnear,Bool.false_eq_true,if_false]
       simp only [hok,if_true]
       exact drawP_runs hnear hn r _ (i + 1) _ _ _ G (by simp [hf]) (by simp [hfM]) (by omega) hs (hle' _ _ (hsame _)) hops' htb' (hpl' _ fun h => absurd h hp) h
     case true =>
      rw [hflag] at h
      simp only [iteB_true] at h
      cases hem : (tb.headD ([],[],false)).1.isEmpty
      ·rw [hem] at h
       simp only [iteB_false] at h
       cases hokT : freeT feetM (tb.headD ([],[],false)).1 stillFoot
       ·rw [hokT] at h;exact h.elim
       ·rw [hokT] at h
        simp only [iteB_true] at h
        have hok : freeOf feet (ws.getD i 0) stillFoot i = true := free_of hrow hnp hpl (hfree _ _ hokT)
        obtain ⟨dst,op,ty,pos,after,guard⟩ := o
        unfold stillO at h
        simp only at h
        split at h
        ·rename_i c
         split at h
         ·rename_i g hcal
          rw [bindO_iff] at h
          obtain ⟨l,hev,h⟩ := h
          rw [bindO_iff] at h
          obtain ⟨v,hg,h⟩ := h
          obtain ⟨hk,rv,hrun,h⟩ := h
          obtain ⟨cal,args,ts⟩ := c
          simp only at hcal hev
          subst hcal
          cases v <;> simp only [kind2] at hk <;> try (cases hk;done)
          rename_i f x y
          cases f <;> simp only [Bool.and_eq_true] at hk <;> try (cases hk;done)
          rename_i f
          have hft : footA C me ⟨dst,.call ⟨.value g,args,ts⟩,ty,pos,after,guard⟩ a (base + i) = stillFoot := by
           have h1 : (standA C f (x ++ l ++ y)).isSome = false := by
            have := hk.1
            unfold standA
            cases hx : C.ext f <;> rw [hx] at this <;> simp_all
           have h2 := Nat.eq_of_beq_eq_true hk.2
           simp only [footA,hg,hev,h1,h2,Bool.false_eq_true,if_false,stillFoot]
          rw [hft]
          generalize hvis : visB base (base + n) (ws.getD i 0) (base + i) stillFoot = vis
          have hwl : ∀ k,(tb.headD ([],[],false)).2.1.contains k = true → (ws.getD i 0).testBit k = true := by
           have hr2 := hrow
           unfold rowOk at hr2
           rw [hnp,Bool.false_or,Bool.and_eq_true] at hr2
           exact fun k hk => List.all_eq_true.1 hr2.2 k (List.contains_iff_mem.1 hk)
          have hvo : ∀ b,(b < base ∨ base + n ≤ b ∨ (base ≤ b ∧ (tb.headD ([],[],false)).2.1.contains (b - base) = true)) → vis b = true := by
           intro b hb
           rw [← hvis]
           unfold visB stillFoot
           simp only [Bool.and_true,Bool.or_eq_true]
           right
           rcases hb with hb | hb | hb
           ·left;left;exact Nat.ble_eq_true_of_le hb
           ·left;right;exact Nat.ble_eq_true_of_le hb
           ·right;exact hwl _ hb.2
          obtain ⟨Y,hY⟩ := hrun (G.hide vis) rfl (hide_size G vis) (fun b hb => by
           rcases Nat.lt_or_ge b G.size with h1 | h1
           ·rw [hide_get,if_pos h1,if_pos (hvo b (by rw [hn] at hb;exact hb))]
           ·rw [hide_get,if_neg (by omega),get_none (by omega)])
          have hop : opA C (lim C) me ⟨dst,.call ⟨.value g,args,ts⟩,ty,pos,after,guard⟩ a (G.hide vis) (base + i) = some (some rv,Y) := by
           simp only [opA,hev,hg]
           unfold callX at hY
           simp only at hY ⊢
           rw [hY];rfl
          rw [hop]
          simp only
          rw [if_pos (by rfl)]
          simp only [footI,hnear,Bool.false_eq_true,if_false]
          simp only [hok,if_true]
          exact drawP_runs hnear hn r _ (i + 1) _ _ _ G (by simp [hf]) (by simp [hfM]) (by omega) hs (hle' _ _ (hsame _)) hops' htb' (hpl' _ fun h => absurd h hp) h
         ·exact h.elim
        ·exact h.elim
      ·rw [hem] at h
       simp only [iteB_true] at h
       have hu : (tb.headD ([],[],false)).1 = [] := List.isEmpty_iff.1 hem
       rw [hu] at hrow
       obtain ⟨dst,op,ty,pos,after,guard⟩ := o
       unfold effO at h
       simp only at h
       split at h
       ·rename_i c
        split at h
        ·rename_i g hcal
         rw [bindO_iff] at h
         obtain ⟨l,hev,h⟩ := h
         rw [bindO_iff] at h
         obtain ⟨v,hg,h⟩ := h
         obtain ⟨hk,h⟩ := h
         obtain ⟨cal,args,ts⟩ := c
         simp only at hcal hev
         subst hcal
         have hft : footA C me ⟨dst,.call ⟨.value g,args,ts⟩,ty,pos,after,guard⟩ a (base + i) = ⟨none,none,[],false,false,0,false,noKept⟩ := by
          simp only [footA,hg,hev]
          cases v <;> simp only [kind0] at hk <;> try (cases hk;done)
          ·rename_i f x y
           cases f <;> simp only [Bool.and_eq_true] at hk <;> try (cases hk;done)
           rename_i f
           have h1 : (standA C f (x ++ l ++ y)).isSome = false := by
            have := hk.1
            unfold standA
            cases hx : C.ext f <;> rw [hx] at this <;> simp_all
           have h2 := Nat.eq_of_beq_eq_true hk.2
           simp only [h1,h2,Bool.false_eq_true,if_false]
          ·rfl
         rw [hft]
         generalize hvis : visB base (base + n) (ws.getD i 0) (base + i) ⟨none,none,[],false,false,0,false,noKept⟩ = vis
         have hvo : ∀ b,(b < base ∨ base + n ≤ b) → vis b = true := by
          intro b hb
          rw [← hvis]
          unfold visB
          simp only [Bool.and_true,Bool.or_eq_true]
          right
          rcases hb with hb | hb
          ·left;left;exact Nat.ble_eq_true_of_le hb
          ·left;right;exact Nat.ble_eq_true_of_le hb
         obtain ⟨rv,Y,hY,hYs,hcont⟩ := h (G.hide vis) rfl (hide_size G vis) (fun b hb => by
          rcases Nat.lt_or_ge b G.size with h1 | h1
          ·rw [hide_get,if_pos h1,if_pos (hvo b (by rw [hn] at hb;exact hb))]
          ·rw [hide_get,if_neg (by omega),get_none (by omega)])
         have hop : opA C (lim C) me ⟨dst,.call ⟨.value g,args,ts⟩,ty,pos,after,guard⟩ a (G.hide vis) (base + i) = some (some rv,Y) := by
          simp only [opA,hev,hg]
          unfold callX at hY
          cases v with
          | fn f x y =>
           cases f with
           | func f =>
            simp only at hY ⊢
            rw [hY];rfl
           | _ => simp at hY
          | yld b =>
           simp only at hY ⊢
           split at hY
           ·rename_i hr
            simp only [Option.some.injEq,Prod.mk.injEq] at hY
            obtain ⟨rfl,rfl⟩ := hY
            rw [hr]
           ·cases hY
          | _ => simp at hY
         rw [hop]
         simp only
         rw [if_neg (by simp [Foot.idle]),Nat.ble_eq_true_of_le hYs,if_pos rfl]
         simp only [footN,hnear,Bool.false_eq_true,if_false]
         have hok : ∀ gr : Bool,freeOf feet (ws.getD i 0) ⟨none,none,[],false,gr,0,false,noKept⟩ i = true := fun gr => free_of hrow hnp hpl rfl
         rw [hok,if_pos rfl]
         have hG' := hcont (G.merge vis Y) rfl (merge_size vis hYs) (fun b hb => by
          rw [merge_get _ hYs]
          rcases Nat.lt_or_ge b G.size with h1 | h1
          ·rw [if_pos h1,if_pos (hvo b (by rw [hn] at hb;exact hb))]
          ·rw [if_neg (by omega)]) (fun b h1 h2 => by
          rw [merge_get _ hYs]
          split
          ·split
           ·exact Or.inr rfl
           ·exact Or.inl rfl
          ·exact Or.inr rfl)
         refine drawP_runs hnear hn r _ (i + 1) _ _ _ _ (by simp [hf]) (by simp [hfM]) (by omega) (by rw [merge_size vis hYs];omega) (hle' effFoot _ ?_) hops' htb' (hpl' _ fun h => absurd h hp) hG'
         intro ft hft'
         obtain ⟨r',w',f',p',g'⟩ := ft
         unfold frOne effFoot clash at hft'
         unfold frOne clash
         simp only [Bool.not_eq_true',Bool.or_eq_false_iff,Bool.true_and] at hft' ⊢
         obtain ⟨⟨⟨⟨⟨⟨q1,q2⟩,q3⟩,q4⟩,q5⟩,q6⟩,q7⟩ := hft'
         exact ⟨⟨⟨⟨⟨⟨q1,q2⟩,q3⟩,q4⟩,q5⟩,by rw [q6,Bool.and_false]⟩,q7⟩
        ·exact h.elim
       ·exact h.elim
theorem wp_drawD {id : Nat} {ops : Array Oper} {a : AAct} {H : Heap} {K : Post} (tb : Tab) (hok : drawOk ops = true) (htb : tabOk ops.toList (waitsAll ops.toList) tb = true)
  (h : drawP C me ops H.size tb ops.toList 0 [] a ⟨H.objs ++ List.replicate ops.toList.length none,H.lock⟩ (setK C me H.size K)) (hnear : ∀ d,C.near me d = false := by intro d;rfl) : Wp C me rd (.region id ops true) a H K := by
 obtain ⟨r,h1,h2⟩ := drawP_runs (ops := ops.toList) (ws := waitsAll ops.toList) (n := ops.toList.length) hnear rfl ops.toList tb 0 [] [] a _ rfl rfl (by omega) (by unfold Heap.size;simp) (fun _ _ h => h) (fun k => by rw [Nat.zero_add]) (fun k hk => by rw [Nat.zero_add] at hk ⊢;exact List.all_eq_true.1 htb k (List.mem_range.2 (by omega))) (fun k o hk => by omega) h
 have hreg : regionA C (lim C) me ops true a H = some r := by
  unfold regionA
  unfold drawOk at hok
  simp only [if_true]
  rw [if_pos hok];exact h1
 unfold Wp
 simp only [codeA,hreg,Option.map_some,bindO_some]
 exact h2
@[congr] theorem drawP_congr {arr : Array Oper} {base : Nat} {tb : Tab} {l : List Oper} {i i' : Nat} {feet feet' : List Foot} {a a' : AAct} {G G' : Heap} {K : PostS} (hi : i = i') (hf : feet = feet') (ha : a = a') (hG : G = G') : drawP C me arr base tb l i feet a G K = drawP C me arr base tb l i' feet' a' G' K := by rw [hi,hf,ha,hG]
section eqs
variable {arr : Array Oper} {base : Nat} {tb : Tab}
@[go_sem ↓] theorem drawP_nil (i : Nat) (feet : List Foot) (a : AAct) (G : Heap) (K : PostS) : drawP C me arr base tb [] i feet a G K = AtS K a G := by unfold drawP;rfl
def plainOp (op : Op) : Bool :=
 match op with
 | .move _ | .assign _ | .pick .. | .build .. | .nilCheck _ | .binOp .. | .unOp .. | .convert .. | .makeInterface .. | .makeFunc .. | .fieldAddr .. | .field .. | .indexAddr .. | .index .. | .extract .. => true
 | _ => false
theorem plainOp_eq (o : Oper) : plainO o = plainOp o.op := rfl
def footD (C : Cfg) (me : FuncId) (d : Option Tmp) (op : Op) (a : AAct) (slot : Nat) : Foot := footA C me (bareO d op) a slot
def contP (C : Cfg) (me : FuncId) (arr : Array Oper) (base : Nat) (tb : Tab) (r : List Oper) (i : Nat) (feet : List Foot) (d : Option Tmp) (a : AAct) (K : PostS) : PostO := fun v G => drawP C me arr base tb r i feet (a.put d v) G K
def contQ (C : Cfg) (me : FuncId) (arr : Array Oper) (base : Nat) (tb : Tab) (r : List Oper) (i : Nat) (feet : List Foot) (d : Option Tmp) (a : AAct) (G : Heap) (K : PostS) : PostO := fun v _ => drawP C me arr base tb r i feet (a.put d v) G K
@[go_sem ↓] theorem contP_some (r : List Oper) (i : Nat) (feet : List Foot) (d : Tmp) (s : Nat) (l : List (Tmp × AV)) (m : List Nat) (K : PostS) (v : AV) (G : Heap) : AtO (contP C me arr base tb r i feet (some d) ⟨s,l,m⟩ K) v G = drawP C me arr base tb r i feet ⟨s,putT s d v l,m⟩ G K := by
 unfold AtO contP;simp only [AAct.put,putT];split <;> rfl
@[go_sem ↓] theorem contP_none (r : List Oper) (i : Nat) (feet : List Foot) (a : AAct) (K : PostS) (v : AV) (G : Heap) : AtO (contP C me arr base tb r i feet none a K) v G = drawP C me arr base tb r i feet a G K := rfl
@[go_sem ↓] theorem contQ_some (r : List Oper) (i : Nat) (feet : List Foot) (d : Tmp) (s : Nat) (l : List (Tmp × AV)) (m : List Nat) (G : Heap) (K : PostS) (v : AV) (G' : Heap) : AtO (contQ C me arr base tb r i feet (some d) ⟨s,l,m⟩ G K) v G' = drawP C me arr base tb r i feet ⟨s,putT s d v l,m⟩ G K := by
 unfold AtO contQ;simp only [AAct.put,putT];split <;> rfl
def stepDP (C : Cfg) (me : FuncId) (arr : Array Oper) (base : Nat) (tb : Tab) (d : Option Tmp) (op : Op) (r : List Oper) (i : Nat) (feet : List Foot) (a : AAct) (G : Heap) (K : PostS) : Prop :=
 iteB (plainOp op) (WpO C me d op a G 0 (contQ C me arr base tb.tail r (i + 1) (feet ++ [noFoot]) d a G K))
  (iteB (locOp op) (iteB (okFootT base (tb.headD ([],[],false)).2.1 (footD C me d op a (base + i)) && freeT feet (tb.headD ([],[],false)).1 (footD C me d op a (base + i)))
    (WpO C me d op a G (base + i) (contP C me arr base tb.tail r (i + 1) (feet ++ [footD C me d op a (base + i)]) d a K)) False)
   (iteB (tb.headD ([],[],false)).2.2
    (iteB (tb.headD ([],[],false)).1.isEmpty (effO C me base (base + arr.toList.length) (bareO d op) a G (contP C me arr base tb.tail r (i + 1) (feet ++ [effFoot]) d a K)) (iteB (freeT feet (tb.headD ([],[],false)).1 stillFoot) (stillO C me base (base + arr.toList.length) (tb.headD ([],[],false)).2.1 (bareO d op) a G (contP C me arr base tb.tail r (i + 1) (feet ++ [stillFoot]) d a K)) False))
    (iteB (freeT feet (tb.headD ([],[],false)).1 (idleFoot C me (bareO d op) a (base + i)))
     (WpJ C me d op a { objs := [],lock := 0 } (contQ C me arr base tb.tail r (i + 1) (feet ++ [idleFoot C me (bareO d op) a (base + i)]) d a G K)) False)))
@[congr] theorem stepDP_congr {d : Option Tmp} {op : Op} {r : List Oper} {i i' : Nat} {feet feet' : List Foot} {a a' : AAct} {G G' : Heap} {K : PostS} (hi : i = i') (hf : feet = feet') (ha : a = a') (hG : G = G') : stepDP C me arr base tb d op r i feet a G K = stepDP C me arr base tb d op r i' feet' a' G' K := by rw [hi,hf,ha,hG]
theorem drawP_step (o : Oper) (r : List Oper) (i : Nat) (feet : List Foot) (a : AAct) (G : Heap) (K : PostS) :
  drawP C me arr base tb (o :: r) i feet a G K = bindO (wantedA arr a o) fun w => iteB w (stepDP C me arr base tb o.dst o.op r i feet a G K) (drawP C me arr base tb.tail r (i + 1) (feet ++ [noFoot]) (a.put o.dst undefA) G K) := by
 have e1 : ∀ s,footA C me o a s = footD C me o.dst o.op a s := fun s => rfl
 have e2 : ∀ s,idleFoot C me o a s = idleFoot C me (bareO o.dst o.op) a s := fun s => rfl
 conv => lhs;unfold drawP
 unfold stepDP
 rw [plainOp_eq,e1,e2]
 congr 1
 funext w
 cases w
 ·rfl
 ·simp only [iteB_true]
  cases hp : plainOp o.op
  ·simp only [iteB_false]
   rfl
  ·simp only [iteB_true]
   unfold WpO
   have := plain_slot (C := C) (me := me) (o := bareO o.dst o.op) hp a G (base + i) 0
   show bindO (opA C (lim C) me (bareO o.dst o.op) a G (base + i)) _ = bindO (opA C (lim C) me (bareO o.dst o.op) a G 0) _
   rw [this];rfl
@[go_sem ↓] theorem drawP_op (d : Option Tmp) (op : Op) (ty : TypeId) (p : String) (af : Array Edge) (r : List Oper) (i : Nat) (feet : List Foot) (a : AAct) (G : Heap) (K : PostS) :
  drawP C me arr base tb (⟨d,op,ty,p,af,none⟩ :: r) i feet a G K = stepDP C me arr base tb d op r i feet a G K := by
 rw [drawP_step];rfl
@[go_sem ↓] theorem stepDP_move (d : Option Tmp) (x) (r : List Oper) (i : Nat) (feet : List Foot) (a : AAct) (G : Heap) (K : PostS) : stepDP C me arr base tb d (.move x) r i feet a G K = WpO C me d (.move x) a G 0 (contQ C me arr base tb.tail r (i + 1) (feet ++ [noFoot]) d a G K) := rfl
@[go_sem ↓] theorem stepDP_assign (d : Option Tmp) (x) (r : List Oper) (i : Nat) (feet : List Foot) (a : AAct) (G : Heap) (K : PostS) : stepDP C me arr base tb d (.assign x) r i feet a G K = WpO C me d (.assign x) a G 0 (contQ C me arr base tb.tail r (i + 1) (feet ++ [noFoot]) d a G K) := rfl
@[go_sem ↓] theorem stepDP_binOp (d : Option Tmp) (o t x y z) (r : List Oper) (i : Nat) (feet : List Foot) (a : AAct) (G : Heap) (K : PostS) : stepDP C me arr base tb d (.binOp o t x y z) r i feet a G K = WpO C me d (.binOp o t x y z) a G 0 (contQ C me arr base tb.tail r (i + 1) (feet ++ [noFoot]) d a G K) := rfl
@[go_sem ↓] theorem stepDP_fieldAddr (d : Option Tmp) (t x j) (r : List Oper) (i : Nat) (feet : List Foot) (a : AAct) (G : Heap) (K : PostS) : stepDP C me arr base tb d (.fieldAddr t x j) r i feet a G K = WpO C me d (.fieldAddr t x j) a G 0 (contQ C me arr base tb.tail r (i + 1) (feet ++ [noFoot]) d a G K) := rfl
@[go_sem ↓] theorem stepDP_indexAddr (d : Option Tmp) (t x y) (r : List Oper) (i : Nat) (feet : List Foot) (a : AAct) (G : Heap) (K : PostS) : stepDP C me arr base tb d (.indexAddr t x y) r i feet a G K = WpO C me d (.indexAddr t x y) a G 0 (contQ C me arr base tb.tail r (i + 1) (feet ++ [noFoot]) d a G K) := rfl
@[go_sem ↓] theorem stepDP_load (d : Option Tmp) (t x) (r : List Oper) (i : Nat) (feet : List Foot) (a : AAct) (G : Heap) (K : PostS) : stepDP C me arr base tb d (.load t x) r i feet a G K = bindO (nf (footD C me d (.load t x) a (base + i))) fun ft => iteB (okFootT base (tb.headD ([],[],false)).2.1 ft && freeT feet (tb.headD ([],[],false)).1 ft) (WpO C me d (.load t x) a G (base + i) (contP C me arr base tb.tail r (i + 1) (feet ++ [ft]) d a K)) False := rfl
@[go_sem ↓] theorem stepDP_store (d : Option Tmp) (t x y) (r : List Oper) (i : Nat) (feet : List Foot) (a : AAct) (G : Heap) (K : PostS) : stepDP C me arr base tb d (.store t x y) r i feet a G K = bindO (nf (footD C me d (.store t x y) a (base + i))) fun ft => iteB (okFootT base (tb.headD ([],[],false)).2.1 ft && freeT feet (tb.headD ([],[],false)).1 ft) (WpO C me d (.store t x y) a G (base + i) (contP C me arr base tb.tail r (i + 1) (feet ++ [ft]) d a K)) False := rfl
@[go_sem ↓] theorem stepDP_buildSlice (d : Option Tmp) (t n x) (r : List Oper) (i : Nat) (feet : List Foot) (a : AAct) (G : Heap) (K : PostS) : stepDP C me arr base tb d (.buildSlice t n x) r i feet a G K = bindO (nf (footD C me d (.buildSlice t n x) a (base + i))) fun ft => iteB (okFootT base (tb.headD ([],[],false)).2.1 ft && freeT feet (tb.headD ([],[],false)).1 ft) (WpO C me d (.buildSlice t n x) a G (base + i) (contP C me arr base tb.tail r (i + 1) (feet ++ [ft]) d a K)) False := rfl
@[go_sem ↓] theorem stepDP_slice (d : Option Tmp) (t x l h m) (r : List Oper) (i : Nat) (feet : List Foot) (a : AAct) (G : Heap) (K : PostS) : stepDP C me arr base tb d (.slice t x l h m) r i feet a G K = iteB (tb.headD ([],[],false)).2.2 (iteB (tb.headD ([],[],false)).1.isEmpty (effO C me base (base + arr.toList.length) (bareO d (.slice t x l h m)) a G (contP C me arr base tb.tail r (i + 1) (feet ++ [effFoot]) d a K)) (iteB (freeT feet (tb.headD ([],[],false)).1 stillFoot) (stillO C me base (base + arr.toList.length) (tb.headD ([],[],false)).2.1 (bareO d (.slice t x l h m)) a G (contP C me arr base tb.tail r (i + 1) (feet ++ [stillFoot]) d a K)) False)) (bindO (nf (idleFoot C me (bareO d (.slice t x l h m)) a (base + i))) fun ft => iteB (freeT feet (tb.headD ([],[],false)).1 ft) (WpJ C me d (.slice t x l h m) a { objs := [],lock := 0 } (contQ C me arr base tb.tail r (i + 1) (feet ++ [ft]) d a G K)) False) := rfl
@[go_sem ↓] theorem stepDP_len (d : Option Tmp) (args ts) (r : List Oper) (i : Nat) (feet : List Foot) (a : AAct) (G : Heap) (K : PostS) : stepDP C me arr base tb d (.call ⟨.builtin .len,args,ts⟩) r i feet a G K = iteB (tb.headD ([],[],false)).2.2 (iteB (tb.headD ([],[],false)).1.isEmpty (effO C me base (base + arr.toList.length) (bareO d (.call ⟨.builtin .len,args,ts⟩)) a G (contP C me arr base tb.tail r (i + 1) (feet ++ [effFoot]) d a K)) (iteB (freeT feet (tb.headD ([],[],false)).1 stillFoot) (stillO C me base (base + arr.toList.length) (tb.headD ([],[],false)).2.1 (bareO d (.call ⟨.builtin .len,args,ts⟩)) a G (contP C me arr base tb.tail r (i + 1) (feet ++ [stillFoot]) d a K)) False)) (bindO (nf (idleFoot C me (bareO d (.call ⟨.builtin .len,args,ts⟩)) a (base + i))) fun ft => iteB (freeT feet (tb.headD ([],[],false)).1 ft) (WpJ C me d (.call ⟨.builtin .len,args,ts⟩) a { objs := [],lock := 0 } (contQ C me arr base tb.tail r (i + 1) (feet ++ [ft]) d a G K)) False) := rfl
@[go_sem ↓] theorem stepDP_callv (d : Option Tmp) (g args ts) (r : List Oper) (i : Nat) (feet : List Foot) (a : AAct) (G : Heap) (K : PostS) : stepDP C me arr base tb d (.call ⟨.value g,args,ts⟩) r i feet a G K = iteB (tb.headD ([],[],false)).2.2 (iteB (tb.headD ([],[],false)).1.isEmpty (effO C me base (base + arr.toList.length) (bareO d (.call ⟨.value g,args,ts⟩)) a G (contP C me arr base tb.tail r (i + 1) (feet ++ [effFoot]) d a K)) (iteB (freeT feet (tb.headD ([],[],false)).1 stillFoot) (stillO C me base (base + arr.toList.length) (tb.headD ([],[],false)).2.1 (bareO d (.call ⟨.value g,args,ts⟩)) a G (contP C me arr base tb.tail r (i + 1) (feet ++ [stillFoot]) d a K)) False)) (bindO (nf (idleFoot C me (bareO d (.call ⟨.value g,args,ts⟩)) a (base + i))) fun ft => iteB (freeT feet (tb.headD ([],[],false)).1 ft) (WpJ C me d (.call ⟨.value g,args,ts⟩) a { objs := [],lock := 0 } (contQ C me arr base tb.tail r (i + 1) (feet ++ [ft]) d a G K)) False) := rfl
def objsE (o : Option AV) : List Nat := match o with | some v => objsOf v | none => []
@[go_sem] theorem objsE_some (v : AV) : objsE (some v) = objsOf v := rfl
@[go_sem] theorem objs_ptr (b v k : Nat) : objsOf (.ptr b v k) = [b] := rfl
@[go_sem] theorem objs_sl (b v o n : Nat) (c : Option Nat) : objsOf (.sl b v o n c) = [b] := rfl
@[go_sem] theorem objs_v (x : Value) : objsOf (.v x) = [] := rfl
def objsL (a : AAct) : List Operand → List Nat
 | [] => []
 | x :: r => objsE (a.eval x) ++ objsL a r
theorem objsL_eq (a : AAct) : ∀ l : List Operand,l.flatMap (objsO a) = objsL a l
 | [] => rfl
 | x :: r => by rw [List.flatMap_cons,objsL_eq a r];rfl
@[go_sem] theorem objsL_nil (a : AAct) : objsL a [] = [] := rfl
@[go_sem] theorem objsL_cons (a : AAct) (x : Operand) (r : List Operand) : objsL a (x :: r) = objsE (a.eval x) ++ objsL a r := rfl
@[go_sem] theorem footD_load (d : Option Tmp) (t x) (a : AAct) (s : Nat) : footD C me d (.load t x) a s = ⟨some (objsE (a.eval x)),some [],[],false,false,0,false,noKept⟩ := rfl
@[go_sem] theorem footD_store (d : Option Tmp) (t x y) (a : AAct) (s : Nat) : footD C me d (.store t x y) a s = ⟨some (objsE (a.eval x)),some (objsE (a.eval x)),[],false,false,0,false,noKept⟩ := rfl
@[go_sem] theorem footD_build (d : Option Tmp) (t n x) (a : AAct) (s : Nat) : footD C me d (.buildSlice t n x) a s = ⟨some [],some [],[s],false,false,0,false,noKept⟩ := rfl
@[go_sem] theorem idleFoot_slice (d : Option Tmp) (t x l h m) (a : AAct) (s : Nat) : idleFoot C me (bareO d (.slice t x l h m)) a s = ⟨some (objsE (a.eval x)),some [],[],false,false,0,false,noKept⟩ := rfl
@[go_sem] theorem idleFoot_len (d : Option Tmp) (args ts) (a : AAct) (s : Nat) : idleFoot C me (bareO d (.call ⟨.builtin .len,args,ts⟩)) a s = ⟨some (objsL a args.toList),some [],[],false,false,0,false,noKept⟩ := by
 unfold idleFoot footA bareO;simp only
 rw [objsL_eq]
@[go_sem] theorem idleFoot_call (d : Option Tmp) (g args ts) (a : AAct) (s : Nat) : idleFoot C me (bareO d (.call ⟨.value g,args,ts⟩)) a s = ⟨some [],some [],[],false,false,0,false,noKept⟩ := rfl
@[go_sem] theorem okFootT_mk (b : Nat) (w l : List Nat) (x : Option (List Nat)) (f : List Nat) (p g : Bool) (n : Nat) (q : Bool) : okFootT b w ⟨some l,x,f,p,g,n,q,noKept⟩ = l.all fun c => ltB c b || w.any fun k => c == b + k := rfl
@[go_sem] theorem freeT_nil (feet : List Foot) (ft : Foot) : freeT feet [] ft = true := rfl
@[go_sem] theorem freeT_cons (feet : List Foot) (k : Nat) (u : List Nat) (ft : Foot) : freeT feet (k :: u) ft = (frOne (feet[k]?) ft && freeT feet u ft) := rfl
def meetL (l : List Nat) (m : List Nat) : Bool := l.any fun x => m.any fun y => x == y
@[go_sem] theorem meetL_nil (m : List Nat) : meetL [] m = false := rfl
@[go_sem] theorem meetL_nilr (l : List Nat) : meetL l [] = false := by unfold meetL;induction l <;> simp_all
theorem meet_L : ∀ l m : List Nat,meet (some l) (some m) = meetL l m
 | [],_ => rfl
 | x :: l,[] => by rw [meetL_nilr];rfl
 | x :: l,y :: m => by
  show ((x :: l).any (y :: m).contains) = _
  unfold meetL
  congr 1
  funext z
  exact List.contains_eq_any_beq
theorem keptL (r w : Option (List Nat)) (g : List Nat) (p gr q : Bool) (n : Nat) (l m : List Nat) : (meetL l m && !(keptAll ⟨r,w,g,p,gr,n,q,noKept⟩ (some m))) = meetL l m := by
 cases m with
 | nil => rw [meetL_nilr];rfl
 | cons x m => simp [keptAll,noKept]
theorem keptL' (r w : Option (List Nat)) (g : List Nat) (p gr q : Bool) (n : Nat) (l m : List Nat) : (meetL m l && !(keptAll ⟨r,w,g,p,gr,n,q,noKept⟩ (some m))) = meetL m l := by
 cases m with
 | nil => rfl
 | cons x m => simp [keptAll,noKept]
@[go_sem] theorem frOne_mk (r w f : List Nat) (p : Bool) (r' w' f' : List Nat) (p' : Bool) (n n' : Nat) (q q' : Bool) : frOne (some ⟨some r,some w,f,p,false,n,q,noKept⟩) ⟨some r',some w',f',p',false,n',q',noKept⟩ = !(meetL w r' || meetL w w' || meetL r w' || meetL f r' || meetL f w') := by
 unfold frOne clash
 simp only [meet_L,Bool.false_and,Bool.or_false]
 rw [keptL,keptL']
@[go_sem] theorem ltB_zero (n : Nat) : ltB 0 (n + 1) = true := by simp [ltB]
@[go_sem] theorem ltB_succ (a n : Nat) : ltB (a + 1) (n + 1) = ltB a n := by simp [ltB]
@[go_sem] theorem tail_tab (x : List Nat × List Nat × Bool) (tb : Tab) : (x :: tb).tail = tb := rfl
@[congr] theorem stillV_congr {top : Nat} {vl : List Nat} {d : Option Tmp} {v v' : AV} {l l' : List AV} {G G' : Heap} {cont : AV → Heap → Prop} (hv : v = v') (hl : l = l') (hG : G = G') : stillV C me base top vl d v l G cont = stillV C me base top vl d v' l' G' cont := by rw [hv,hl,hG]
@[congr] theorem effV_congr {top : Nat} {d : Option Tmp} {v v' : AV} {l l' : List AV} {G G' : Heap} {cont : AV → Heap → Prop} (hv : v = v') (hl : l = l') (hG : G = G') : effV C me base top d v l G cont = effV C me base top d v' l' G' cont := by rw [hv,hl,hG]
end eqs
end
end Go.Ev
namespace Go.Ev
section
variable {P : Program}
def appTo (e sz by' : Nat) (H : Heap) (slot n : Nat) (new : List AV) (s : AV) : Option (AV × Heap) :=
 match s with
 | .v (.slice none 0 0) => if n = 0 then some (s,H) else (if fitsA by' n && ([] : List AV).all AV.flat then some (.sl slot 0 0 n none,H.put slot (.cells 0 (Nat.max (boundL []) (boundL new)) e sz true ([] ++ new))) else none)
 | .vs z xs cap =>
  if z ≠ sz then none else
  if n = 0 then some (s,H) else
  match cap with
  | some c => if c = xs.length then (if fitsA by' (xs.length + n) && (xs.flatMap AV.cells).all AV.flat then some (.sl slot 0 0 (xs.length + n) none,H.put slot (.cells 0 (Nat.max (boundL (xs.flatMap AV.cells)) (boundL new)) e sz true (xs.flatMap AV.cells ++ new))) else none) else none
  | none => none
 | .sl b v off len cap =>
  if n = 0 then some (s,H) else
  match H.row b v with
  | some (m,_,z,g,cs) =>
   match cap with
   | some c =>
    if len + n ≤ c then
     (match storeCells H b v (off + len * sz) new with | some H' => some (.sl b v off (len + n) cap,H') | none => none)
    else if off + len * sz ≤ cs.length then (if fitsA by' (len + n) && ((cs.drop off).take (len * sz)).all AV.flat then some (.sl slot 0 0 (len + n) none,H.put slot (.cells 0 (Nat.max (boundL ((cs.drop off).take (len * sz))) (boundL new)) e sz true ((cs.drop off).take (len * sz) ++ new))) else none) else none
   | none =>
    if z ≠ sz then none else
    if off + (len + n) * sz ≤ cs.length then
     (match storeCells H b v (off + len * sz) new with | some H' => some (.sl b v off (len + n) cap,H') | none => none)
    else if g = true ∧ off + len * sz = cs.length ∧ H.lock ≤ b ∧ fitsA by' (len + n) = true then
     some (.sl b (v + 1) 0 (len + n) none,H.put b (.cells (v + 1) (Nat.max m (boundL new)) e sz true (cs.drop off ++ new)))
    else none
  | _ => none
 | _ => none
theorem appTo_eq (e : TypeId) (i : TypeInfo) (H : Heap) (slot n : Nat) (new : List AV) (s : AV) : appendTo H slot e i n new s = appTo e i.size i.bytes H slot n new s := by
 unfold appendTo appTo madeA
 rfl
def appG (e sz by' : Nat) (H : Heap) (slot : Nat) (s : AV) (c : Option (Nat × List AV)) : Option (AV × Heap) :=
 match c with
 | none => none
 | some (n,new) => if new.all AV.flat = false then none else appTo e sz by' H slot n new s
theorem app_eq {t u e : TypeId} {i : TypeInfo} {z : AV} (hi : isIntT P u = false) (hu : P.underlying t = some (.slice e)) (hinf : P.info? e = some i) (hz : zeroT P e = some z) (h1 : i.size ≠ 0) (h2 : i.bytes ≠ 0) (h3 : z.cells.length = i.size) (H : Heap) (slot : Nat) (s x : AV) :
  appendA P H slot [t,u] [s,x] = appG e i.size i.bytes H slot s (cellsFrom H i.size x) := by
 unfold appendA appG
 simp only [hi,hu,hinf,hz,Bool.false_eq_true,if_false]
 cases cellsFrom H i.size x with
 | none => rfl
 | some p =>
  simp only
  by_cases hf : p.2.all AV.flat = false
  ·rw [if_pos (Or.inr (Or.inr (Or.inl hf))),if_pos hf]
  ·rw [if_neg (by rintro (h | h | h | h);exact h1 h;exact h2 h;exact hf h;exact h h3),if_neg hf,appTo_eq]
theorem app_eq2 {t u e sz by' : Nat} (hi : isIntT P u = false) (hu : P.underlying t = some (.slice e)) (hinf : (P.info? e).map (fun i => (i.size,i.bytes)) = some (sz,by')) (hz : (zeroT P e).map (fun z => z.cells.length) = some sz) (h1 : sz ≠ 0) (h2 : by' ≠ 0) (H : Heap) (slot : Nat) (s x : AV) :
  appendA P H slot [t,u] [s,x] = appG e sz by' H slot s (cellsFrom H sz x) := by
 obtain ⟨i,hi1,hi2⟩ := Option.map_eq_some_iff.1 hinf
 obtain ⟨z,hz1,hz2⟩ := Option.map_eq_some_iff.1 hz
 simp only [Prod.mk.injEq] at hi2
 obtain ⟨rfl,rfl⟩ := hi2
 exact app_eq hi hu hi1 hz1 h1 h2 hz2 H slot s x
end
@[go_sem] theorem appG_some (e sz b : Nat) (H : Heap) (slot : Nat) (s : AV) (n : Nat) (new : List AV) : appG e sz b H slot s (some (n,new)) = if new.all AV.flat = false then none else appTo e sz b H slot n new s := rfl
def rowCells (off len sz : Nat) (r : Option (Nat × TypeId × Nat × Bool × List AV)) : Option (Nat × List AV) := match r with | some (_,_,_,_,cs) => if off + len * sz ≤ cs.length then some (len,(cs.drop off).take (len * sz)) else none | _ => none
@[go_sem] theorem cells_sl' (H : Heap) (sz b v off len : Nat) (c : Option Nat) : cellsFrom H sz (.sl b v off len c) = rowCells off len sz (H.row b v) := rfl
@[go_sem] theorem rowCells_some (off len sz m e z : Nat) (g : Bool) (cs : List AV) : rowCells off len sz (some (m,e,z,g,cs)) = if off + len * sz ≤ cs.length then some (len,(cs.drop off).take (len * sz)) else none := rfl
theorem appTo_own {e sz b' : Nat} {H : Heap} {slot b v len n : Nat} {new : List AV} {m e' : Nat} {cs : List AV} (hr : H.row b v = some (m,e',sz,true,cs)) (hl : len * sz = cs.length) (hk : H.lock ≤ b) (hf : fitsA b' (len + n) = true) (hn : 0 < n) (hs : 0 < sz) :
  appTo e sz b' H slot n new (.sl b v 0 len none) = some (.sl b (v + 1) 0 (len + n) none,H.put b (.cells (v + 1) (Nat.max m (boundL new)) e sz true (cs ++ new))) := by
 unfold appTo
 simp only [hr]
 rw [if_neg (by omega),if_neg (by simp),if_neg,if_pos ⟨trivial,by simpa using hl,hk,hf⟩]
 ·rfl
 ·have : (len + n) * sz = len * sz + n * sz := Nat.add_mul ..
  have h2 : 0 < n * sz := Nat.mul_pos hn hs
  omega
@[go_sem] theorem plus_mk (l : List (Option AObj)) (k : Nat) (E : List (Option AObj)) : (Heap.mk l k).plus E = ⟨l ++ E,k⟩ := rfl
section
variable {X : Heap} {N : Nat}
theorem rowP (hN : X.size = N) (E : List (Option AObj)) (k v : Nat) : (X.plus E).row (N + k) v = objRow v ((E[k]?).join) := by
 subst hN
 unfold Heap.row objRow
 rw [plus_get_hi _ (by omega),Nat.add_sub_cancel_left]
 cases (E[k]?).join with
 | none => rfl
 | some o => cases o <;> rfl
theorem rowLo {b : Nat} (hb : b < X.size) (E : List (Option AObj)) (v : Nat) : (X.plus E).row b v = X.row b v := plus_row E hb
end
section
variable {C : Cfg} {me : FuncId} {rd : Option Nat}
theorem wp_drawX {id : Nat} {ops : Array Oper} {a : AAct} {H : Heap} {K : Post} (tb : Tab) (hok : drawOk ops = true) (htb : tabOk ops.toList (waitsAll ops.toList) tb = true)
  (h : drawP C me ops H.size tb ops.toList 0 [] a (H.plus (List.replicate ops.toList.length none)) (setK C me H.size K)) (hnear : ∀ d,C.near me d = false := by intro d;rfl) : Wp C me rd (.region id ops true) a H K := wp_drawD tb hok htb h hnear
end
end Go.Ev
namespace Go.Ev
def HasE (rows : Fm) (E : List (Option AObj)) : Prop := ∀ p ∈ rows,E[p.1]? = some (some p.2)
structure MovesE (rows : Fm) (E : List (Option AObj)) (rows' : Fm) (E' : List (Option AObj)) : Prop where
 size : E.length ≤ E'.length
 same : ∀ j,j < E.length → ¬ keyIn j rows → E'[j]? = E[j]?
 keys : ∀ p ∈ rows',keyIn p.1 rows ∨ E.length ≤ p.1
theorem MovesE.refl (rows : Fm) (E : List (Option AObj)) : MovesE rows E rows E := ⟨Nat.le_refl _,fun _ _ _ => rfl,fun p hp => Or.inl ⟨p,hp,rfl⟩⟩
theorem MovesE.append (rows : Fm) (E G : List (Option AObj)) : MovesE rows E rows (E ++ G) := ⟨by simp,fun j hj _ => List.getElem?_append_left hj,fun p hp => Or.inl ⟨p,hp,rfl⟩⟩
theorem HasE.append {rows : Fm} {E : List (Option AObj)} (h : HasE rows E) (G : List (Option AObj)) : HasE rows (E ++ G) := fun p hp => by
 rw [List.getElem?_append_left (List.getElem?_eq_some_iff.1 (h p hp)).1];exact h p hp
section
variable {C : Cfg} {me : FuncId} {S : Type}
end
end Go.Ev
namespace Go.Ev
attribute [go_sem] List.any_cons List.any_nil repeatCells splice chunk bsFin ne_eq not_true_eq_false not_false_eq_true List.headD_cons Bool.false_eq_true Nat.le_refl Nat.zero_mul Nat.one_mul Nat.mul_one decide_true decide_false Bool.not_true Bool.not_false List.mem_cons List.not_mem_nil true_or or_true false_or or_false and_true true_and and_self List.getElem?_cons_succ List.getElem?_cons_zero Option.bind_some Option.map_some Option.map_none List.map_cons List.map_nil List.length_cons List.length_nil List.filterMap_cons List.filterMap_nil List.cons_append List.nil_append List.append_nil Nat.zero_add Nat.add_zero List.take_succ_cons List.take_zero List.take_nil List.drop_succ_cons List.drop_zero List.drop_nil List.all_cons List.all_nil Bool.and_true Bool.true_and Bool.false_and Bool.and_false Bool.or_true Bool.true_or Bool.or_false Bool.false_or beq_iff_eq beq_self_eq_true List.zip_cons_cons List.zip_nil_right List.zip_nil_left
end Go.Ev
namespace Go.Ev
open Go.Proofs
attribute [local irreducible] Wp WpS
theorem LineO.bound {o : Option Line} {x : AV} (h : LineO o x) : bound x = 0 := by
 cases o with
 | none => simp only [LineO] at h;subst h;rfl
 | some l => exact SlOf.bound h
end Go.Ev
namespace Go.Ev
open Go.Proofs
attribute [local irreducible] Wp WpS
def cmpI (a b : Int) : Int := if a < b then -1 else if b < a then 1 else 0
theorem ans119 {e : Exts} (a : Int) : Ans (Cx e) 132 [intA a] (.v (.bool false)) := by
 unfold Ans
 rw [fn_step (fn_132 e) (show Tryz.f132.body = some _ from rfl)]
 simp -implicitDefEqProofs only [Tryz.f132,go_sem,↓reduceIte,Int.reduceEq,Int.reduceLT,Int.reduceLE,List.reduceReplicate,intA,setT_nil,setT_cons]
theorem call119 {e : Exts} (he : Quiet e) (a : Int) (me : FuncId) (d : Option Tmp) (H : Heap) : callA (Cx e) (lim (Cx e)) me 132 d [.v (.int .i64 a)] H = some (.v (.bool false),H) :=
 (ans119 a).call (ext_132 he) (pure_132 _ _ _) rfl H
theorem ans99 {e : Exts} (he : Quiet e) (a b : Int) : Ans (Cx e) 113 [intA a,intA b] (intA (cmpI a b)) := by
 unfold Ans cmpI
 rw [fn_step (fn_113 e) (show Tryz.f113.body = some _ from rfl)]
 by_cases h1 : a < b
 ·simp -implicitDefEqProofs only [Tryz.f113,go_sem,↓reduceIte,Int.reduceEq,Int.reduceLT,Int.reduceLE,List.reduceReplicate,intA,setT_nil,setT_cons,call119 he,h1]
 ·by_cases h2 : b < a
  ·simp -implicitDefEqProofs only [Tryz.f113,go_sem,↓reduceIte,Int.reduceEq,Int.reduceLT,Int.reduceLE,List.reduceReplicate,intA,setT_nil,setT_cons,call119 he,h1,h2]
  ·simp -implicitDefEqProofs only [Tryz.f113,go_sem,↓reduceIte,Int.reduceEq,Int.reduceLT,Int.reduceLE,List.reduceReplicate,intA,setT_nil,setT_cons,call119 he,h1,h2]
theorem callI99 {e : Exts} (he : Quiet e) (a b : Int) (me : FuncId) (d : Option Tmp) : callI (Cx e) me 113 d [.v (.int .i64 a),.v (.int .i64 b)] = some (.v (.int .i64 (cmpI a b))) :=
 (ans99 he a b).callI (ext_113 he) (pure_113 _ _ _) rfl
def orI : List Int → Int
 | [] => 0
 | a :: r => if a = 0 then orI r else a
theorem ans98 {e : Exts} (ns : List Int) (hn : ns.length < 2 ^ 63) (x : AV) (hx : SlOf 1 (ns.map intA) x) : Ans (Cx e) 80 [x] (intA (orI ns)) := by
 unfold Ans
 rw [fn_step (fn_80 e) (show Tryz.f80.body = some _ from rfl)]
 simp -implicitDefEqProofs only [Tryz.f80,go_sem,↓reduceIte,Int.reduceEq,Int.reduceLT,Int.reduceLE,List.reduceReplicate,intA,setT_nil,setT_cons,hx.len,List.length_map]
 refine Lp_rule (P := fun μ a H => ∃ j,j + μ = ns.length ∧ a = ⟨18,[(0,x),(2,intA 0),(3,intA 0),(6,x),(7,intA ns.length),(8,intA j)],[]⟩ ∧ H = ⟨[],0⟩ ∧ orI ns = orI (ns.drop j)) ?_ ns.length _ _ ⟨0,by omega,rfl,rfl,rfl⟩
 rintro μ _ _ ⟨j,hj,rfl,rfl,ho⟩
 cases μ with
 | zero =>
  obtain rfl : j = ns.length := by omega
  rw [List.drop_of_length_le (Nat.le_refl _)] at ho
  simp -implicitDefEqProofs only [go_sem,↓reduceIte,Int.reduceEq,Int.reduceLT,Int.reduceLE,List.reduceReplicate,intA,setT_nil,setT_cons,Int.lt_irrefl]
  rw [ho];rfl
 | succ μ =>
  have hlt : (j : Int) < (ns.length : Int) := by omega
  have hw := wrap_succ j (by omega)
  have hy : (ns.map intA)[j]? = some (.v (.int .i64 ns[j])) := by rw [List.getElem?_map,List.getElem?_eq_getElem (by omega)];rfl
  rw [List.drop_eq_getElem_cons (by omega : j < ns.length)] at ho
  cases h1 : decide (ns[j] = 0)
  ·simp -implicitDefEqProofs only [go_sem,↓reduceIte,Int.reduceEq,Int.reduceLT,Int.reduceLE,List.reduceReplicate,intA,setT_nil,setT_cons,hlt,hw,hx.idx hy,h1]
   rw [ho];simp only [orI]
   rw [if_neg (of_decide_eq_false h1)]
  ·simp -implicitDefEqProofs only [go_sem,↓reduceIte,Int.reduceEq,Int.reduceLT,Int.reduceLE,List.reduceReplicate,intA,setT_nil,setT_cons,hlt,hw,hx.idx hy,h1]
   refine ⟨μ,by omega,j + 1,by omega,rfl,rfl, ?_⟩
   rw [ho];simp only [orI]
   rw [if_pos (of_decide_eq_true h1)]
theorem callI98 {e : Exts} (he : Quiet e) (a b c : Int) (me : FuncId) (d : Option Tmp) : callI (Cx e) me 80 d [.vs 1 [.v (.int .i64 a),.v (.int .i64 b),.v (.int .i64 c)] (some 3)] = some (.v (.int .i64 (orI [a,b,c]))) :=
 (ans98 [a,b,c] (by simp) _ (Or.inr ⟨_,rfl⟩)).callI (ext_80 he) (pure_80 _ _ _) rfl
def cmpP (a b c a' b' c' : Int) : Int := orI [cmpI a a',cmpI b b',cmpI c c']
end Go.Ev
namespace Go.Ev
open Go.Proofs
attribute [local irreducible] Wp WpS
structure Rd where
 ch : Int
 ln : Int
 wd : Int
 kind : Int
 word : ByteArray
end Go.Ev
namespace Go.Ev
open Go.Proofs
attribute [local irreducible] Wp WpS
theorem str_eqB (u w : ByteArray) : bytesEq u.data.toList w.data.toList = decide (u = w) := by
 rw [bytesEq_iff,Bool.eq_iff_iff]
 simp only [decide_eq_true_eq]
 exact (str_ext u w).symm
theorem bin_seq {P : Program} {t : TypeId} (x y : Operand) (u w : ByteArray) : binA P .eql t x y (.v (.string u)) (.v (.string w)) = some (.v (.bool (decide (u = w)))) := by
 rw [← str_eqB];rfl
def emp : ByteArray := ⟨#[]⟩
def at0 (l : Line) (i : Int) : ByteArray := (l[i.toNat]?).getD emp
def fits1 (l : Line) (r : Rd) : Bool := decide (0 ≤ r.wd ∧ r.wd < l.length) && decide (r.word = emp)
def fits2 (l : Line) (r : Rd) : Bool := withinB 0 l.length [r.wd] && wordB r.word
def fits3 (l : Line) (r : Rd) : Bool := decide (0 ≤ r.wd ∧ r.wd < l.length) && wordB r.word && !decide (r.word = at0 l r.wd)
end Go.Ev
namespace Go.Ev
open Go.Proofs
@[go_sem] theorem app_87 (H : Heap) (slot : Nat) (s x : AV) : appendA Tryz.prog H slot [87,87] [s,x] = appG 9 1 16 H slot s (cellsFrom H 1 x) := app_eq2 (by kernel_rfl) und_87 (by kernel_rfl) (by kernel_rfl) (by decide) (by decide) H slot s x
end Go.Ev
namespace Go.Ev
open Go.Proofs
attribute [local irreducible] Wp WpS
end Go.Ev
namespace Go.Ev
open Go.Proofs
attribute [local irreducible] Wp WpS
def atLine (ch ln wd : Int) (r : Rd) : Bool := eqP r.ch r.ln 0 ch ln wd
theorem bound_sl (b v o n : Nat) (c : Option Nat) : bound (.sl b v o n c) = b + 1 := rfl
end Go.Ev
namespace Go.Ev
open Go.Proofs
attribute [local irreducible] Wp WpS
end Go.Ev
namespace Go.Ev
open Go.Proofs
attribute [local irreducible] Wp WpS
theorem SlOf.objs {sz : Nat} {xs : List AV} {x : AV} (h : SlOf sz xs x) : objsOf x = [] := by rcases h with ⟨rfl,rfl⟩ | ⟨cap,rfl⟩ <;> rfl
end Go.Ev
namespace Go.Ev
open Go.Proofs
attribute [local irreducible] Wp WpS
def rowOf : AV → Option Nat
 | .sl b _ _ _ _ => some b
 | _ => none
def DoneR (X : Heap) (ds : List ByteArray) (dv : AV) : Prop :=
 (ds = [] ∧ dv = .v (.slice none 0 0)) ∨ ∃ b v,X.lock ≤ b ∧ b < X.size ∧ dv = .sl b v 0 ds.length none ∧ X.row b v = some (0,9,1,true,strs ds)
structure Turned (X Y : Heap) (dv dv' : AV) (ds' : List ByteArray) : Prop where
 lock : Y.lock = X.lock
 size : X.size ≤ Y.size
 same : ∀ i,i < X.size → rowOf dv ≠ some i → Y.get i = X.get i
 done : DoneR Y ds' dv'
 row : rowOf dv' = rowOf dv ∨ ∃ i,rowOf dv' = some i ∧ X.size ≤ i
theorem row_put_same {H : Heap} {b v m e sz : Nat} {g : Bool} {cs : List AV} (hb : b < H.size) : (H.put b (.cells v m e sz g cs)).row b v = some (m,e,sz,g,cs) := by
 unfold Heap.row
 rw [put_get_eq _ (by omega)]
 simp
end Go.Ev
namespace Go.Ev
open Go.Proofs
attribute [local irreducible] Wp WpS
theorem takeH_get {n i : Nat} {H : Heap} (hi : i < n) : ({ H with objs := H.objs.take n } : Heap).get i = H.get i := by
 unfold Heap.get
 simp only
 rw [List.getElem?_take,if_pos hi]
theorem settle_some {n i : Nat} {H : Heap} {o : AObj} (h : H.get i = some o) : (settleH n H).get i = some o := by
 unfold settleH
 split
 ·rename_i ha
  by_cases hi : i < n
  ·rw [takeH_get hi];exact h
  ·exfalso
   unfold Heap.get at h
   have h2 : (H.objs.drop n)[i - n]? = some (some o) := by
    rw [List.getElem?_drop,show n + (i - n) = i by omega]
    cases hq : H.objs[i]? with
    | none => rw [hq] at h;exact nomatch h
    | some z => rw [hq] at h;simp only [Option.join] at h;rw [show z = some o from h]
   have := List.all_eq_true.1 ha _ (List.mem_of_getElem? h2)
   exact nomatch this
 ·exact h
theorem settle_lock {n : Nat} {H : Heap} : (settleH n H).lock = H.lock := by unfold settleH;split <;> rfl
theorem row_of_get {H : Heap} {b v m e sz : Nat} {g : Bool} {cs : List AV} (h : H.row b v = some (m,e,sz,g,cs)) : H.get b = some (.cells v m e sz g cs) := by
 unfold Heap.row at h
 split at h
 ·rename_i hq;split at h
  ·rename_i hv;subst hv;simp only [Option.some.injEq,Prod.mk.injEq] at h;obtain ⟨rfl,rfl,rfl,rfl,rfl⟩ := h;exact hq
  ·exact nomatch h
 ·exact nomatch h
theorem get_row {H : Heap} {b v m e sz : Nat} {g : Bool} {cs : List AV} (h : H.get b = some (.cells v m e sz g cs)) : H.row b v = some (m,e,sz,g,cs) := by
 unfold Heap.row;rw [h];simp
theorem get_size {H : Heap} {b : Nat} {o : AObj} (h : H.get b = some o) : b < H.size := by
 unfold Heap.get at h
 unfold Heap.size
 cases hq : H.objs[b]? with
 | none => rw [hq] at h;exact nomatch h
 | some z => exact (List.getElem?_eq_some_iff.1 hq).1
theorem DoneR.put {X : Heap} {ds : List ByteArray} {dv : AV} (h : DoneR X ds dv) {i : Nat} (o : AObj) (hi : i < X.size) (hne : rowOf dv ≠ some i) : DoneR (X.put i o) ds dv := by
 rcases h with h | ⟨b,v,h1,h2,rfl,h4⟩
 ·exact Or.inl h
 ·refine Or.inr ⟨b,v,h1,by rw [put_sizeI _ hi];exact h2,rfl,get_row ?_⟩
  rw [put_get_ne _ (by omega) (fun h => hne (by rw [← h];rfl))]
  exact row_of_get h4
theorem DoneR.settle {X : Heap} {ds : List ByteArray} {dv : AV} (h : DoneR X ds dv) (n : Nat) : DoneR (settleH n X) ds dv := by
 rcases h with h | ⟨b,v,h1,h2,rfl,h4⟩
 ·exact Or.inl h
 ·have := settle_some (n := n) (row_of_get h4)
  exact Or.inr ⟨b,v,by rw [settle_lock];exact h1,get_size this,rfl,get_row this⟩
theorem DoneR.trim {X : Heap} {ds : List ByteArray} {dv : AV} (h : DoneR X ds dv) (n : Nat) (lx : AV) : DoneR (X.trim n [.agg [lx,dv]] []) ds dv := by
 rcases h with h | ⟨b,v,h1,h2,rfl,h4⟩
 ·exact Or.inl h
 ·unfold Heap.trim
  split
  ·rename_i hq
   rw [Bool.and_eq_true,Bool.and_eq_true,Bool.and_eq_true,Nat.ble_eq] at hq
   have hb : b < n := by
    have h5 := hq.1.1.1
    have : b + 1 ≤ boundL [.agg [lx,.sl b v 0 ds.length none]] := by
     simp only [boundL,bound]
     exact Nat.le_trans (Nat.le_trans (Nat.le_max_left _ _) (Nat.le_max_right _ _)) (Nat.le_max_left _ _)
    omega
   have hg := (takeH_get (H := X) hb).trans (row_of_get h4)
   exact Or.inr ⟨b,v,h1,get_size hg,rfl,get_row hg⟩
  ·exact Or.inr ⟨b,v,h1,h2,rfl,h4⟩
theorem trim_lo {n i : Nat} {H : Heap} {vs : List AV} {ms : List Nat} (hi : i < n) : (H.trim n vs ms).get i = H.get i := by
 unfold Heap.trim
 split
 ·exact takeH_get hi
 ·rfl
theorem trim_size' {n : Nat} {H : Heap} {vs : List AV} {ms : List Nat} (h : n ≤ H.size) : n ≤ (H.trim n vs ms).size := by
 unfold Heap.trim
 split
 ·unfold Heap.size at *;simp only [List.length_take];omega
 ·exact h
theorem trim_lock {n : Nat} {H : Heap} {vs : List AV} {ms : List Nat} : (H.trim n vs ms).lock = H.lock := by unfold Heap.trim;split <;> rfl
end Go.Ev
namespace Go.Ev
open Go.Proofs
attribute [local irreducible] Wp WpS
theorem DoneR.plus {X : Heap} {ds : List ByteArray} {dv : AV} (h : DoneR X ds dv) (E : List (Option AObj)) : DoneR (X.plus E) ds dv := by
 rcases h with h | ⟨b,v,h1,h2,rfl,h4⟩
 ·exact Or.inl h
 ·exact Or.inr ⟨b,v,h1,by rw [plus_size];omega,rfl,by rw [rowLo h2];exact h4⟩
theorem DoneR.below {X : Heap} {ds : List ByteArray} {dv : AV} (h : DoneR X ds dv) {i : Nat} (hi : X.size ≤ i) : rowOf dv ≠ some i := by
 rcases h with ⟨_,rfl⟩ | ⟨b,v,h1,h2,rfl,h4⟩
 ·exact fun h => nomatch h
 ·intro h;simp only [rowOf,Option.some.injEq] at h;omega
theorem Turned.off {X Y : Heap} {dv dv' : AV} {_ds ds' : List ByteArray} (ht : Turned X Y dv dv' ds') {i : Nat} (hi : i < X.size) (hne : rowOf dv ≠ some i) : rowOf dv' ≠ some i := by
 rcases ht.row with h | ⟨j,h,hj⟩
 ·rw [h];exact hne
 ·rw [h];intro h;simp only [Option.some.injEq] at h;omega
theorem DoneR.flat {X : Heap} {ds : List ByteArray} {dv : AV} (h : DoneR X ds dv) : dv.flat = true ∧ dv.cells = [dv] := by
 rcases h with ⟨_,rfl⟩ | ⟨b,v,h1,h2,rfl,h4⟩ <;> exact ⟨rfl,rfl⟩
end Go.Ev
namespace Go.Ev
open Go.Proofs
attribute [local irreducible] Wp WpS
def rdOne (ls : List ByteArray) (st : Nat × List ByteArray) (r : Rd) : Nat × List ByteArray :=
 (if r.kind = 2 then r.wd.toNat else r.wd.toNat + 1,st.2 ++ (ls.drop st.1).take (r.wd.toNat - st.1) ++ if r.kind = 1 then [] else [r.word])
theorem chunk_one : ∀ (l : List AV),chunk 1 l.length l = l
 | [] => rfl
 | x :: r => by
  show (if 1 = 1 then (x :: r).headD undefA else _) :: chunk 1 r.length ((x :: r).drop 1) = x :: r
  rw [if_pos rfl,List.drop_one,List.tail_cons,chunk_one r];rfl
theorem trim_whole {H : Heap} {n : Nat} (h : H.size ≤ n) (vs : List AV) (ms : List Nat) : H.trim n vs ms = H := by
 unfold Heap.trim
 split
 ·unfold Heap.size at h
  rw [List.take_of_length_le h]
 ·rfl
def readLineL (ls : List ByteArray) (l : List Rd) : List ByteArray := (l.foldl (rdOne ls) (0,[])).2 ++ ls.drop (l.foldl (rdOne ls) (0,[])).1
end Go.Ev
namespace Go.Ev
open Go.Proofs
attribute [local irreducible] Wp WpS
def Clear (base top : Nat) (dv : AV) : Prop := ∀ i,rowOf dv = some i → i < base ∨ top ≤ i
structure Behind (base top : Nat) (G G' : Heap) (dv dv' : AV) (ds' : List ByteArray) : Prop where
 lock : G'.lock = G.lock
 size : G.size ≤ G'.size
 same : ∀ i,i < base → rowOf dv ≠ some i → G'.get i = G.get i
 done : DoneR G' ds' dv'
 clear : Clear base top dv'
 row : rowOf dv' = rowOf dv ∨ ∃ i,rowOf dv' = some i ∧ G.size ≤ i
theorem Behind.off {base top : Nat} {G G' : Heap} {dv dv' : AV} {ds' : List ByteArray} (h : Behind base top G G' dv dv' ds') {i : Nat} (hi : i < G.size) (hne : rowOf dv ≠ some i) : rowOf dv' ≠ some i := by
 rcases h.row with h | ⟨j,h,hj⟩
 ·rw [h];exact hne
 ·rw [h];intro h;simp only [Option.some.injEq] at h;omega
end Go.Ev
namespace Go.Ev
open Go.Proofs
attribute [local irreducible] Wp WpS
end Go.Ev
namespace Go.Ev
open Go.Proofs
attribute [local irreducible] Wp WpS
end Go.Ev
namespace Go.Ev
open Go.Proofs
attribute [local irreducible] Wp WpS
structure Cst where
 id : AV
 ls : List AV
 b : Nat
 v : Nat
def Cst.sl (c : Cst) : AV := if c.ls = [] then .v (.slice none 0 0) else .sl c.b c.v 0 c.ls.length none
def Cst.cells (c : Cst) : List AV := [c.id,c.sl]
def Cst.fz (c : Cst) : AV := if c.ls = [] then .v (.slice none 0 0) else .vs 1 c.ls none
end Go.Ev
namespace Go.Ev
open Go.Proofs
attribute [local irreducible] Wp WpS
end Go.Ev
namespace Go.Ev
open Go.Proofs
attribute [local irreducible] Wp WpS
def SlH (X : Heap) (xs : List AV) (x : AV) : Prop := SlOf 1 xs x ∨ ∃ b v cap m e g cs,x = .sl b v 0 xs.length cap ∧ b < X.size ∧ X.row b v = some (m,e,1,g,cs) ∧ cs.take xs.length = xs ∧ xs.length ≤ cs.length
theorem SlH.len {X : Heap} {xs : List AV} {x : AV} (h : SlH X xs x) : slLen x = some (.v (.int .i64 xs.length)) := by
 rcases h with h | ⟨b,v,cap,m,e,g,cs,rfl, -⟩
 ·exact h.len
 ·rfl
theorem SlH.get {X : Heap} {N : Nat} (hN : X.size = N) {xs : List AV} {x : AV} (h : SlH X xs x) {i : Nat} {z : AV} (hz : xs[i]? = some z) (hzc : z.cells = [z]) (k : IntKind) :
  ∃ p,slIdx 1 x (.v (.int k (i : Int))) = some p ∧ (∀ (t : TypeId) E,isAggT Tryz.prog t = some false → sizeT Tryz.prog t = some 1 → loadA Tryz.prog (X.plus E) t p = some z) ∧ ∀ top,N ≤ top → (objsOf p).all (fun c => ltB c top) = true := by
 have hi := (List.getElem?_eq_some_iff.1 hz).1
 rcases h with h | ⟨b,v,cap,m,e,g,cs,rfl,hb,hr,ht,hl⟩
 ·refine ⟨.ro z 0,h.idx hz k,fun t E ha hs => ?_,fun _ _ => rfl⟩
  unfold loadA partOf
  rw [ha,hs]
  show z.cells[0]? = some z
  rw [hzc];rfl
 ·refine ⟨.ptr b v (0 + i * 1), ?_,fun t E ha hs => ?_,fun top h => ?_⟩
  ·unfold slIdx
   simp;omega
  ·have hrow : (X.plus E).row b v = some (m,e,1,g,cs) := by rw [rowLo hb,hr]
   unfold loadA
   simp only [hrow]
   unfold partOf
   rw [ha,hs]
   simp only
   rw [Nat.zero_add,Nat.mul_one,← List.getElem?_take_of_lt (j := xs.length) hi,ht,hz]
  ·simp only [objsOf,List.all_cons,List.all_nil,Bool.and_true]
   unfold ltB
   simp;omega
theorem SlH.lock {X : Heap} {xs : List AV} {x : AV} (h : SlH X xs x) (k : Nat) : SlH { X with lock := k } xs x := by
 rcases h with h | ⟨b,v,cap,m,e,g,cs,rfl,hb,hr,ht⟩
 ·exact Or.inl h
 ·exact Or.inr ⟨b,v,cap,m,e,g,cs,rfl,hb,hr,ht⟩
theorem SlH.closed {X : Heap} {xs : List AV} {x : AV} (h : SlH X xs x) (hb : bound x = 0) (Y : Heap) : SlH Y xs x := by
 rcases h with h | ⟨b,v,cap,m,e,g,cs,rfl, -⟩
 ·exact Or.inl h
 ·simp [bound] at hb
theorem SlH.yld {X : Heap} {xs : List AV} {x : AV} (h : SlH X xs x) : isYld x = false := by
 rcases h with h | ⟨b,v,cap,m,e,g,cs,rfl, -⟩
 ·rcases h with ⟨rfl,_⟩ | ⟨c,rfl⟩ <;> rfl
 ·rfl
theorem callA_still {C : Cfg} {me f : FuncId} {d : Option Tmp} {args : List AV} {X : Heap} {w : Value} (hx : C.ext f = none) (hp : C.pure me f d = true) (hy : args.any isYld = false)
  (h1 : boundL args = 0 → Fn' C f args { objs := [],lock := 0 } (fun v _ => v = .v w)) (h2 : Fn' C f args { X with lock := X.size } (fun v _ => v = .v w)) (hh : C.exh f = none := by rfl) : callA C (lim C) me f d args X = some (.v w,X) := by
 rw [callA_none hx hh];unfold callB callKind
 simp only [hp,if_true]
 by_cases hb : boundL args = 0
 ·have h1 := h1 hb
  unfold Fn' at h1
  rw [bindO_iff] at h1
  obtain ⟨o,h3,h4⟩ := h1
  rw [if_pos (by rw [hb];rfl)]
  cases o with
  | ret v H => obtain rfl : v = .v w := h4;simp only [h3];rfl
  | _ => exact h4.elim
 ·unfold Fn' at h2
  rw [bindO_iff] at h2
  obtain ⟨o,h3,h4⟩ := h2
  rw [if_neg (fun h => hb (Nat.eq_of_beq_eq_true h)),hy]
  simp only [Bool.false_eq_true,if_false]
  cases o with
  | ret v H => obtain rfl : v = .v w := h4;simp only [h3];rfl
  | _ => exact h4.elim
end Go.Ev
namespace Go.Ev
open Go.Proofs
attribute [local irreducible] Wp WpS
theorem isAgg9 : isAggT Tryz.prog 9 = some false := by kernel_rfl
end Go.Ev
namespace Go.Ev
open Go.Proofs
attribute [local irreducible] Wp WpS
end Go.Ev
namespace Go.Ev
open Go.Proofs
attribute [local irreducible] Wp WpS
end Go.Ev
namespace Go.Ev
open Go.Proofs
attribute [local irreducible] Wp WpS
def readB (t : Txt) (r : Rd) : Bool := match lineAt t r.ch r.ln with | none => false | some l => if r.kind = 1 then fits1 l r else if r.kind = 2 then fits2 l r else if r.kind = 3 then fits3 l r else false
end Go.Ev
namespace Go.Ev
open Go.Proofs
attribute [local irreducible] Wp WpS
def refI (k n w : Int) (s : List ByteArray × ByteArray) (r : Rd) : List ByteArray × ByteArray :=
 if r.ch = k ∧ r.ln = n ∧ r.wd = w then if r.kind = 2 then (s.1 ++ [r.word],s.2) else (s.1,r.word) else s
def refW (l : Line) (rs : List Rd) (k n : Int) (ds : List ByteArray) (w : Nat) : List ByteArray :=
 let s := rs.foldl (refI k n w) (ds,(l[w]?).getD emp)
 if s.2 = emp then s.1 else s.1 ++ [s.2]
def refLine (l : Line) (rs : List Rd) (k n : Int) : List ByteArray := (List.range (l.length + 1)).foldl (refW l rs k n) []
structure M79 (id : Int) (x : AV) (H : Heap) (ds : List ByteArray) (out : AV) : Prop where
 lock : H.lock = 0
 size : 2 ≤ H.size
 b1 : H.get 1 = some (.cells 0 0 66 1 false [.v (.int .i64 id),x])
 done : DoneR H ds out
theorem M79.plus {id : Int} {x : AV} {H : Heap} {ds : List ByteArray} {out : AV} (h : M79 id x H ds out) (E : List (Option AObj)) : M79 id x (H.plus E) ds out :=
 ⟨h.lock,by have := h.size;rw [plus_size];omega,(plus_get E (by have := h.size;omega)).trans h.b1,h.done.plus E⟩
theorem M79.trim {id : Int} {x : AV} {H : Heap} {ds : List ByteArray} {out : AV} (h : M79 id x H ds out) {n : Nat} (hn : 2 ≤ n) (hn2 : n ≤ H.size) (vs : List AV) (ms : List Nat) (hv : bound out ≤ boundL vs) : M79 id x (H.trim n vs ms) ds out := by
 refine ⟨trim_lock.trans h.lock,Nat.le_trans hn (trim_size' hn2),(trim_lo (by omega)).trans h.b1, ?_⟩
 rcases h.done with hd | ⟨b,v,h1,h2,rfl,h4⟩
 ·exact Or.inl hd
 ·unfold Heap.trim
  split
  ·rename_i hq
   rw [Bool.and_eq_true,Bool.and_eq_true,Bool.and_eq_true,Nat.ble_eq] at hq
   have h5 := hq.1.1.1
   have hb : b < n := by simp only [bound] at hv;omega
   have hg := (takeH_get (H := H) hb).trans (row_of_get h4)
   exact Or.inr ⟨b,v,h1,get_size hg,rfl,get_row hg⟩
  ·exact Or.inr ⟨b,v,h1,h2,rfl,h4⟩
theorem M79.more {id : Int} {x : AV} {H : Heap} {ds : List ByteArray} {b v : Nat} (h : M79 id x H ds (.sl b v 0 ds.length none)) (hb : b < H.size) (hr : H.row b v = some (0,9,1,true,strs ds)) (s : List ByteArray) (n : Nat) (hn : n = ds.length + s.length) : M79 id x (H.put b (.cells (v + 1) 0 9 1 true (strs (ds ++ s)))) (ds ++ s) (.sl b (v + 1) 0 n none) := by
 have hne : 1 ≠ b := by
  rintro rfl
  have := (row_of_get hr).symm.trans h.b1
  simp at this
 refine ⟨h.lock,by rw [put_sizeI _ hb];exact h.size,(put_get_ne _ (by have := h.size;omega) hne).trans h.b1,Or.inr ⟨b,v + 1, ?_,by rw [put_sizeI _ hb];exact hb,by rw [hn,List.length_append],row_put_same hb⟩⟩
 have := h.lock
 show H.lock ≤ b
 omega
theorem M79.new {id : Int} {x : AV} {H : Heap} {ds : List ByteArray} {out : AV} (h : M79 id x H ds out) {N : Nat} (hN : H.size = N) (E : List (Option AObj)) (k : Nat) (ds' : List ByteArray) (hE : E[k]? = some (some (.cells 0 0 9 1 true (strs ds')))) : M79 id x (H.plus E) ds' (.sl (N + k) 0 0 ds'.length none) := by
 have hk := (List.getElem?_eq_some_iff.1 hE).1
 refine ⟨h.lock,by have := h.size;rw [plus_size];omega,(plus_get E (by have := h.size;omega)).trans h.b1,Or.inr ⟨N + k,0, ?_,by rw [plus_size];omega,rfl, ?_⟩⟩
 ·have := h.lock
  show H.lock ≤ _
  omega
 ·rw [rowP hN,hE];rfl
end Go.Ev
namespace Go.Ev
open Go.Proofs
attribute [local irreducible] Wp WpS
end Go.Ev
namespace Go.Ev
open Go.Proofs
attribute [local irreducible] Wp WpS
end Go.Ev
namespace Go.Ev
open Go.Proofs
attribute [local irreducible] Wp WpS
def pairR (p r : Rd) : Bool := !(beforeB (r.ch,r.ln,r.wd) (p.ch,p.ln,p.wd) || (eqP r.ch r.ln r.wd p.ch p.ln p.wd && !decide (p.kind = 2)))
def rdsB (t : Txt) : Option Rd → List Rd → Bool
 | _,[] => true
 | p,r :: l => readB t r && (match p with | none => true | some p => pairR p r) && rdsB t (some r) l
def linesN (rs : List Rd) (k : Nat) : Nat → List Line → Bool
 | _,[] => true
 | n,l :: r => withinB 1 10 [((refLine l rs k n).length : Int)] && linesN rs k (n + 1) r
def chapsN (rs : List Rd) : Nat → Txt → Bool
 | _,[] => true
 | k,c :: r => linesN rs k 0 c.2 && chapsN rs (k + 1) r
def copyB (t : Txt) (id : Int) (rs : List Rd) : Bool := withinB 0 9999 [id] && !decide (20 < (rs.length : Int)) && (rdsB t none rs && chapsN rs 0 t)
end Go.Ev
namespace Go.Ev
open Go.Proofs
attribute [local irreducible] Wp WpS
end Go.Ev
namespace Go.Ev
open Go.Proofs
attribute [local irreducible] Wp WpS
def takesB (a b c : Int) (r : Rd) : Bool := eqP r.ch r.ln r.wd a b c && !decide (r.kind = 2)
def standL (rs : List Rd) (a b c : Int) (own : ByteArray) : ByteArray := match rs.find? (takesB a b c) with | some r => r.word | none => own
end Go.Ev
namespace Go.Ev
open Go.Proofs
attribute [local irreducible] Wp WpS
end Go.Ev
namespace Go.Ev
open Go.Proofs
attribute [local irreducible] Wp WpS
theorem isAgg3 : isAggT Tryz.prog 3 = some false := by kernel_rfl
end Go.Ev
namespace Go.Ev
open Go.Proofs
attribute [local irreducible] Wp WpS
end Go.Ev
namespace Go.Ev
open Go.Proofs
attribute [local irreducible] Wp WpS
end Go.Ev
namespace Go.Ev
open Go.Proofs
def Bhd (a b : Rd) : Prop := a.wd ≤ b.wd ∧ (a.kind ≠ 2 → a.wd < b.wd)
structure Way (ls : Line) (on : Rd → Prop) (W : List Rd → List ByteArray → Nat → List ByteArray) : Prop where
 none : ∀ ds w s,ls[w]? = some s → W [] ds w = ds ++ [s]
 last : ∀ ds,W [] ds ls.length = ds
 skip : ∀ (r : Rd) (l : List Rd) (ds : List ByteArray) (w : Nat),r.wd ≠ (w : Nat) → W (r :: l) ds w = W l ds w
 put : ∀ (r : Rd) (l : List Rd) (ds : List ByteArray) (w : Nat),on r → r.wd = (w : Nat) → r.kind = 2 → W (r :: l) ds w = W l (ds ++ [r.word]) w
 other : ∀ (r : Rd) (l : List Rd) (ds : List ByteArray) (w : Nat),on r → r.wd = (w : Nat) → r.kind ≠ 2 → w < ls.length → (∀ q ∈ l,q.wd ≠ (w : Nat)) → W (r :: l) ds w = ds ++ if r.word = emp then [] else [r.word]
theorem Way.far {ls : Line} {on : Rd → Prop} {W : List Rd → List ByteArray → Nat → List ByteArray} (hW : Way ls on W) (ds : List ByteArray) (w : Nat) : ∀ l : List Rd,(∀ r ∈ l,r.wd ≠ (w : Nat)) → W l ds w = W [] ds w
 | [],_ => rfl
 | r :: l,h => by rw [hW.skip r l ds w (h r (List.mem_cons_self ..)),hW.far ds w l fun q hq => h q (List.mem_cons_of_mem _ hq)]
theorem drop_take_succ (ls : Line) (p n : Nat) (s : ByteArray) (h : ls[p]? = some s) : (ls.drop p).take (n + 1) = s :: (ls.drop (p + 1)).take n := by
 obtain ⟨hp,rfl⟩ := List.getElem?_eq_some_iff.1 h
 rw [List.drop_eq_getElem_cons hp,List.take_succ_cons]
theorem Way.free {ls : Line} {on : Rd → Prop} {W : List Rd → List ByteArray → Nat → List ByteArray} (hW : Way ls on W) (l : List Rd) : ∀ (n p : Nat) (ds : List ByteArray),p + n ≤ ls.length → (∀ r ∈ l,((p + n : Nat) : Int) ≤ r.wd) → (List.range' p n).foldl (W l) ds = ds ++ (ls.drop p).take n
 | 0,p,ds,_,_ => by simp
 | n + 1,p,ds,h1,h2 => by
  obtain ⟨s,hs⟩ := at_lt ls p (by omega)
  rw [List.range'_succ,List.foldl_cons,hW.far ds p l (fun r hr => by have := h2 r hr;omega),hW.none ds p s hs,hW.free l n (p + 1) (ds ++ [s]) (by omega) (fun r hr => by have := h2 r hr;omega),drop_take_succ ls p n s hs,List.append_assoc]
  rfl
theorem foldl_eq {α β : Type} {f g : α → β → α} : ∀ (l : List β) (a : α),(∀ b ∈ l,∀ a,f a b = g a b) → l.foldl f a = l.foldl g a
 | [],_,_ => rfl
 | b :: l,a,h => by rw [List.foldl_cons,List.foldl_cons,h b (List.mem_cons_self ..) a,foldl_eq l _ fun c hc => h c (List.mem_cons_of_mem _ hc)]
theorem range'_split (p q n : Nat) (h1 : p ≤ q) (h2 : q ≤ n) : List.range' p (n - p) = List.range' p (q - p) ++ List.range' q (n - q) := by
 have h := List.range'_append (s := p) (m := q - p) (n := n - q) (step := 1)
 rw [Nat.one_mul,show p + (q - p) = q by omega,show q - p + (n - q) = n - p by omega] at h
 exact h.symm
structure RdW (ls : Line) (r : Rd) : Prop where
 kind : r.kind = 1 ∨ r.kind = 2 ∨ r.kind = 3
 word : r.kind = 1 ↔ r.word = emp
 hi : r.wd + (if r.kind = 2 then 0 else 1) ≤ ls.length
theorem way_read {ls : Line} {on : Rd → Prop} {W : List Rd → List ByteArray → Nat → List ByteArray} (hW : Way ls on W) : ∀ (l : List Rd) (p : Nat) (ds : List ByteArray),p ≤ ls.length → (∀ r ∈ l,on r ∧ RdW ls r ∧ (p : Int) ≤ r.wd) → l.Pairwise Bhd →
  (List.range' p (ls.length + 1 - p)).foldl (W l) ds = (l.foldl (rdOne ls) (p,ds)).2 ++ ls.drop (l.foldl (rdOne ls) (p,ds)).1
 | [],p,ds,hp,_,_ => by
  rw [range'_split p ls.length (ls.length + 1) hp (Nat.le_succ _),List.foldl_append,hW.free [] (ls.length - p) p ds (by omega) (fun r hr => nomatch hr),Nat.add_sub_cancel_left]
  show W [] _ ls.length = _
  rw [hW.last]
  show _ = ds ++ ls.drop p
  rw [List.take_of_length_le (by rw [List.length_drop];exact Nat.le_refl _)]
 | r :: l,p,ds,hp,hr,hs => by
  obtain ⟨hon,hrw,hpw⟩ := hr r (List.mem_cons_self ..)
  obtain ⟨hb,hs'⟩ := List.pairwise_cons.1 hs
  obtain ⟨q,hq⟩ : ∃ q : Nat,r.wd = q := ⟨r.wd.toNat,by omega⟩
  have hhi := hrw.hi
  have hql : q ≤ ls.length := by split at hhi <;> omega
  have hqt : r.wd.toNat = q := by omega
  have hall : ∀ x ∈ r :: l,(q : Int) ≤ x.wd := fun x hx => by
   rcases List.mem_cons.1 hx with rfl | hx
   ·omega
   ·have := (hb x hx).1;omega
  have hf := hW.free (r :: l) (q - p) p ds (by omega) (fun x hx => by have := hall x hx;omega)
  rw [range'_split p q (ls.length + 1) (by omega) (by omega),List.foldl_append,hf]
  have hrest : ∀ (a : List ByteArray) (n : Nat),(List.range' (q + 1) n).foldl (W (r :: l)) a = (List.range' (q + 1) n).foldl (W l) a := fun a n =>
   foldl_eq _ a fun w hw a => hW.skip r l a w (by have := (List.mem_range'_1.1 hw).1;omega)
  by_cases hk : r.kind = 2
  ·have hd : (r :: l).foldl (rdOne ls) (p,ds) = l.foldl (rdOne ls) (q,ds ++ (ls.drop p).take (q - p) ++ [r.word]) := by
    rw [List.foldl_cons];unfold rdOne
    simp only [hk,hqt,if_true]
    rw [if_neg (by omega)]
   rw [hd,← way_read hW l q _ hql (fun x hx => ⟨(hr x (List.mem_cons_of_mem _ hx)).1,(hr x (List.mem_cons_of_mem _ hx)).2.1,hall x (List.mem_cons_of_mem _ hx)⟩) hs']
   rw [show ls.length + 1 - q = (ls.length - q) + 1 by omega,List.range'_succ,List.foldl_cons,List.foldl_cons,hW.put r l _ q hon hq hk,hrest]
  ·have hlt : q < ls.length := by rw [if_neg hk] at hhi;omega
   have hne : ∀ x ∈ l,x.wd ≠ (q : Nat) := fun x hx => by have := (hb x hx).2 hk;omega
   have hw : (if r.kind = 1 then ([] : List ByteArray) else [r.word]) = if r.word = emp then [] else [r.word] := by
    by_cases h1 : r.kind = 1
    ·rw [if_pos h1,if_pos (hrw.word.1 h1)]
    ·rw [if_neg h1,if_neg (fun h => h1 (hrw.word.2 h))]
   have hd : (r :: l).foldl (rdOne ls) (p,ds) = l.foldl (rdOne ls) (q + 1,ds ++ (ls.drop p).take (q - p) ++ if r.word = emp then [] else [r.word]) := by
    rw [List.foldl_cons];unfold rdOne
    simp only [hk,hqt,if_false,hw]
   rw [hd,← way_read hW l (q + 1) _ hlt (fun x hx => ⟨(hr x (List.mem_cons_of_mem _ hx)).1,(hr x (List.mem_cons_of_mem _ hx)).2.1,by have := (hb x hx).2 hk;omega⟩) hs']
   rw [show ls.length + 1 - q = (ls.length + 1 - (q + 1)) + 1 by omega,List.range'_succ,List.foldl_cons,hW.other r l _ q hon hq hk hlt hne,hrest]
theorem way_line {ls : Line} {on : Rd → Prop} {W : List Rd → List ByteArray → Nat → List ByteArray} (hW : Way ls on W) (l : List Rd) (hr : ∀ r ∈ l,on r ∧ RdW ls r ∧ 0 ≤ r.wd) (hs : l.Pairwise Bhd) : (List.range (ls.length + 1)).foldl (W l) [] = readLineL ls l := by
 rw [List.range_eq_range']
 exact way_read hW l 0 [] (Nat.zero_le _) hr hs
theorem refI_far (k n : Int) (w : Nat) (l : List Rd) (h : ∀ q ∈ l,q.wd ≠ (w : Nat)) (s : List ByteArray × ByteArray) : l.foldl (refI k n w) s = s := by
 induction l generalizing s with
 | nil => rfl
 | cons r l ih =>
  have : refI k n w s r = s := by unfold refI;rw [if_neg (fun hh => h r (List.mem_cons_self ..) hh.2.2)]
  rw [List.foldl_cons,this,ih fun q hq => h q (List.mem_cons_of_mem _ hq)]
theorem way_ref (ls : Line) (hne : ∀ s ∈ ls,s ≠ emp) (k n : Int) : Way ls (fun r => r.ch = k ∧ r.ln = n) (fun l => refW ls l k n) := by
 refine ⟨fun ds w s hs => ?_,fun ds => ?_,fun r l ds w h => ?_,fun r l ds w ho h hk => ?_,fun r l ds w ho h hk hw hf => ?_⟩
 ·unfold refW
  simp only [List.foldl_nil,hs,Option.getD_some]
  rw [if_neg (hne s (List.mem_of_getElem? hs))]
 ·unfold refW
  simp only [List.foldl_nil,List.getElem?_eq_none_iff.2 (Nat.le_refl _),Option.getD_none,if_true]
 ·unfold refW
  rw [List.foldl_cons,show refI k n w (ds,(ls[w]?).getD emp) r = (ds,(ls[w]?).getD emp) by unfold refI;rw [if_neg (fun hh => h hh.2.2)]]
 ·unfold refW
  rw [List.foldl_cons,show refI k n w (ds,(ls[w]?).getD emp) r = (ds ++ [r.word],(ls[w]?).getD emp) by unfold refI;rw [if_pos ⟨ho.1,ho.2,h⟩,if_pos hk]]
 ·unfold refW
  rw [List.foldl_cons,show refI k n w (ds,(ls[w]?).getD emp) r = (ds,r.word) by unfold refI;rw [if_pos ⟨ho.1,ho.2,h⟩,if_neg hk],refI_far k n w l hf]
  simp only
  split
  ·rw [List.append_nil]
  ·rfl
theorem atLine_iff {k n : Int} {r : Rd} : atLine k n 0 r = true ↔ r.ch = k ∧ r.ln = n := by
 unfold atLine eqP;simp
theorem refW_filter (ls : Line) (rs : List Rd) (k n : Int) (ds : List ByteArray) (w : Nat) : refW ls rs k n ds w = refW ls (rs.filter (atLine k n 0)) k n ds w := by
 have h : ∀ (l : List Rd) (s : List ByteArray × ByteArray),l.foldl (refI k n w) s = (l.filter (atLine k n 0)).foldl (refI k n w) s := by
  intro l
  induction l with
  | nil => intro s;rfl
  | cons r l ih =>
   intro s
   cases ha : atLine k n 0 r
   ·have : refI k n w s r = s := by unfold refI;rw [if_neg (fun hh => by rw [atLine_iff.2 ⟨hh.1,hh.2.1⟩] at ha;cases ha)]
    rw [List.foldl_cons,this,ih,List.filter_cons_of_neg (by rw [ha];simp)]
   ·rw [List.filter_cons_of_pos ha,List.foldl_cons,List.foldl_cons,ih]
 unfold refW;rw [h rs]
def putAt (k n w : Int) (r : Rd) : Bool := decide (r.kind = 2) && eqP r.ch r.ln r.wd k n w
def lawW (ls : Line) (rs : List Rd) (k n : Int) (ds : List ByteArray) (w : Nat) : List ByteArray :=
 let d := ds ++ (rs.filter (putAt k n w)).map Rd.word
 match ls[w]? with
 | none => d
 | some s => if standL rs k n w s = emp then d else d ++ [standL rs k n w s]
theorem eqP_wd {r : Rd} {k n : Int} {w : Nat} (h : r.wd ≠ (w : Nat)) : eqP r.ch r.ln r.wd k n w = false := by
 unfold eqP;simp;intro _ _ h2;exact h h2
theorem eqP_on {r : Rd} {k n : Int} {w : Nat} (h : r.ch = k ∧ r.ln = n) (hw : r.wd = (w : Nat)) : eqP r.ch r.ln r.wd k n w = true := by
 unfold eqP;simp [h.1,h.2,hw]
theorem stand_cons_no {r : Rd} {l : List Rd} {k n w : Int} {s : ByteArray} (h : takesB k n w r = false) : standL (r :: l) k n w s = standL l k n w s := by unfold standL;rw [List.find?_cons,h]
theorem stand_cons_yes {r : Rd} {l : List Rd} {k n w : Int} {s : ByteArray} (h : takesB k n w r = true) : standL (r :: l) k n w s = r.word := by unfold standL;rw [List.find?_cons,h]
theorem way_law (ls : Line) (hne : ∀ s ∈ ls,s ≠ emp) (k n : Int) : Way ls (fun r => r.ch = k ∧ r.ln = n) (fun l => lawW ls l k n) := by
 refine ⟨fun ds w s hs => ?_,fun ds => ?_,fun r l ds w h => ?_,fun r l ds w ho h hk => ?_,fun r l ds w ho h hk hw hf => ?_⟩
 ·unfold lawW
  have h0 : standL [] k n w s = s := rfl
  simp only [hs,List.filter_nil,List.map_nil,List.append_nil,h0]
  rw [if_neg (hne s (List.mem_of_getElem? hs))]
 ·unfold lawW
  simp only [List.getElem?_eq_none_iff.2 (Nat.le_refl _),List.filter_nil,List.map_nil,List.append_nil]
 ·have h1 : putAt k n w r = false := by unfold putAt;rw [eqP_wd h,Bool.and_false]
  have h2 : takesB k n w r = false := by unfold takesB;rw [eqP_wd h];rfl
  unfold lawW
  rw [List.filter_cons_of_neg (by rw [h1];simp)]
  simp only [stand_cons_no h2]
 ·have h1 : putAt k n w r = true := by unfold putAt;rw [eqP_on ho h,Bool.and_true];exact decide_eq_true hk
  have h2 : takesB k n w r = false := by unfold takesB;rw [decide_eq_true hk,Bool.not_true,Bool.and_false]
  unfold lawW
  rw [List.filter_cons_of_pos h1]
  simp only [stand_cons_no h2,List.map_cons,List.append_assoc,List.singleton_append]
 ·have h1 : putAt k n w r = false := by unfold putAt;rw [decide_eq_false hk];rfl
  have h2 : takesB k n w r = true := by unfold takesB;rw [eqP_on ho h,decide_eq_false hk];rfl
  have h3 : l.filter (putAt k n w) = [] := List.filter_eq_nil_iff.2 fun q hq => by unfold putAt;rw [eqP_wd (hf q hq),Bool.and_false];simp
  obtain ⟨s,hs⟩ := at_lt ls w hw
  unfold lawW
  rw [List.filter_cons_of_neg (by rw [h1];simp),h3]
  simp only [hs,stand_cons_yes h2,List.map_nil,List.append_nil]
  split
  ·rw [List.append_nil]
  ·rfl
theorem lawW_filter (ls : Line) (rs : List Rd) (k n : Int) (ds : List ByteArray) (w : Nat) : lawW ls rs k n ds w = lawW ls (rs.filter (atLine k n 0)) k n ds w := by
 have ha : ∀ r : Rd,eqP r.ch r.ln r.wd k n w = true → atLine k n 0 r = true := fun r h => by
  unfold eqP at h;simp at h;exact atLine_iff.2 ⟨h.1,h.2.1⟩
 have h1 : rs.filter (putAt k n w) = (rs.filter (atLine k n 0)).filter (putAt k n w) := by
  rw [List.filter_filter]
  refine List.filter_congr fun r _ => ?_
  cases hp : putAt k n w r
  ·rfl
  ·have : eqP r.ch r.ln r.wd k n w = true := by unfold putAt at hp;simp only [Bool.and_eq_true] at hp;exact hp.2
   rw [ha r this];rfl
 have h2 : ∀ s,standL rs k n w s = standL (rs.filter (atLine k n 0)) k n w s := fun s => by
  induction rs with
  | nil => rfl
  | cons r l ih =>
   cases hl : atLine k n 0 r
   ·have ht : takesB k n w r = false := by
     cases ht : takesB k n w r
     ·rfl
     ·unfold takesB at ht;simp only [Bool.and_eq_true] at ht;rw [ha r ht.1] at hl;cases hl
    rw [stand_cons_no ht,List.filter_cons_of_neg (by rw [hl];simp)]
    exact ih (by rw [List.filter_filter];refine List.filter_congr fun r _ => ?_;cases hp : putAt k n w r
                 ·rfl
                 ·have : eqP r.ch r.ln r.wd k n w = true := by unfold putAt at hp;simp only [Bool.and_eq_true] at hp;exact hp.2
                  rw [ha r this];rfl)
   ·rw [List.filter_cons_of_pos hl]
    unfold standL
    rw [List.find?_cons,List.find?_cons]
    cases ht : takesB k n w r
    ·exact ih (by rw [List.filter_filter];refine List.filter_congr fun r _ => ?_;cases hp : putAt k n w r
                  ·rfl
                  ·have : eqP r.ch r.ln r.wd k n w = true := by unfold putAt at hp;simp only [Bool.and_eq_true] at hp;exact hp.2
                   rw [ha r this];rfl)
    ·rfl
 unfold lawW;rw [← h1];simp only [← h2]
end Go.Ev
namespace Go.Ev
open Go.Proofs
def Ahd (a b : Rd) : Prop := a.ch < b.ch ∨ (a.ch = b.ch ∧ (a.ln < b.ln ∨ (a.ln = b.ln ∧ a.wd ≤ b.wd ∧ (a.kind ≠ 2 → a.wd < b.wd))))
theorem Ahd.trans {a b c : Rd} (h1 : Ahd a b) (h2 : Ahd b c) : Ahd a c := by
 unfold Ahd at *;omega
theorem pairR_ahd {a b : Rd} (h : pairR a b = true) : Ahd a b := by
 unfold pairR beforeB eqP at h
 unfold Ahd
 simp only [Bool.not_eq_true',Bool.or_eq_false_iff,Bool.and_eq_false_iff,Bool.not_eq_false',decide_eq_false_iff_not,decide_eq_true_eq,ne_eq] at h
 obtain ⟨h1,h2⟩ := h
 split at h1
 ·simp only [decide_eq_false_iff_not] at h1;omega
 ·split at h1
  ·simp only [decide_eq_false_iff_not] at h1;omega
  ·simp only [decide_eq_false_iff_not] at h1;omega
theorem rdsB_all (t : Txt) : ∀ (l : List Rd) (p : Option Rd),rdsB t p l = true → (∀ r ∈ l,readB t r = true) ∧ l.Pairwise Ahd ∧ (∀ q,p = some q → ∀ r ∈ l,Ahd q r)
 | [],_,_ => ⟨(fun r h => nomatch h),List.Pairwise.nil,(fun _ _ r h => nomatch h)⟩
 | r :: l,p,h => by
  unfold rdsB at h
  simp only [Bool.and_eq_true] at h
  obtain ⟨⟨h1,h2⟩,h3⟩ := h
  obtain ⟨i1,i2,i3⟩ := rdsB_all t l (some r) h3
  have i3 := i3 r rfl
  refine ⟨fun x hx => ?_,List.pairwise_cons.2 ⟨i3,i2⟩,fun q hq x hx => ?_⟩
  ·rcases List.mem_cons.1 hx with rfl | hx
   ·exact h1
   ·exact i1 x hx
  ·subst hq
   have hr := pairR_ahd h2
   rcases List.mem_cons.1 hx with rfl | hx
   ·exact hr
   ·exact hr.trans (i3 x hx)
theorem wordB_ne {s : ByteArray} (h : wordB s = true) : s ≠ emp := by
 rintro rfl
 unfold wordB at h
 simp only [Bool.and_eq_true] at h
 have := h.1
 revert this;decide
structure Cpy (t : Txt) (rs : List Rd) : Prop where
 fit : ∀ r ∈ rs,readB t r = true
 ord : rs.Pairwise Ahd
theorem Cpy.of {t : Txt} {rs : List Rd} (h : rdsB t none rs = true) : Cpy t rs := ⟨(rdsB_all t rs none h).1,(rdsB_all t rs none h).2.1⟩
def ofLn (rs : List Rd) (k n : Int) : List Rd := rs.filter (atLine k n 0)
theorem ofLn_mem {rs : List Rd} {k n : Int} {r : Rd} : r ∈ ofLn rs k n ↔ r ∈ rs ∧ r.ch = k ∧ r.ln = n := by
 unfold ofLn;rw [List.mem_filter,atLine_iff]
theorem Cpy.bhd {t : Txt} {rs : List Rd} (h : Cpy t rs) (k n : Int) : (ofLn rs k n).Pairwise Bhd := by
 have h1 : (ofLn rs k n).Pairwise Ahd := h.ord.sublist List.filter_sublist
 refine h1.imp_of_mem fun ha hb hr => ?_
 have h2 := (ofLn_mem.1 ha).2
 have h3 := (ofLn_mem.1 hb).2
 unfold Ahd at hr
 unfold Bhd
 omega
theorem Cpy.rdw {t : Txt} {rs : List Rd} (h : Cpy t rs) {k n : Int} {ls : Line} (hl : lineAt t k n = some ls) {r : Rd} (hr : r ∈ ofLn rs k n) : RdW ls r ∧ 0 ≤ r.wd := by
 obtain ⟨hm,h1,h2⟩ := ofLn_mem.1 hr
 have hf := h.fit r hm
 unfold readB at hf
 rw [h1,h2,hl] at hf
 simp only at hf
 split at hf
 ·rename_i hk
  unfold fits1 at hf
  simp only [Bool.and_eq_true,decide_eq_true_eq] at hf
  exact ⟨⟨Or.inl hk,⟨fun _ => hf.2,fun _ => hk⟩,by rw [if_neg (by omega)];omega⟩,hf.1.1⟩
 ·split at hf
  ·rename_i hk1 hk
   unfold fits2 withinB at hf
   simp only [List.all_cons,List.all_nil,Bool.and_true,Bool.and_eq_true,decide_eq_true_eq] at hf
   exact ⟨⟨Or.inr (Or.inl hk),⟨fun h => absurd h hk1,fun h => absurd h (wordB_ne hf.2)⟩,by rw [if_pos hk];omega⟩,hf.1.1⟩
  ·split at hf
   ·rename_i hk1 hk2 hk
    unfold fits3 at hf
    simp only [Bool.and_eq_true,decide_eq_true_eq] at hf
    exact ⟨⟨Or.inr (Or.inr hk),⟨fun h => absurd h hk1,fun h => absurd h (wordB_ne hf.1.2)⟩,by rw [if_neg hk2];omega⟩,hf.1.1.1⟩
   ·cases hf
theorem foldl_same {α β : Type} {f g : α → β → α} (h : ∀ a b,f a b = g a b) (l : List β) (a : α) : l.foldl f a = l.foldl g a := foldl_eq l a fun b _ a => h a b
theorem Cpy.line {t : Txt} {rs : List Rd} (h : Cpy t rs) {k n : Int} {ls : Line} (hl : lineAt t k n = some ls) (hne : ∀ s ∈ ls,s ≠ emp) : refLine ls rs k n = readLineL ls (ofLn rs k n) := by
 unfold refLine
 rw [foldl_same (g := refW ls (ofLn rs k n) k n) (fun a b => refW_filter ls rs k n a b)]
 exact way_line (way_ref ls hne k n) (ofLn rs k n) (fun r hr => ⟨(ofLn_mem.1 hr).2,h.rdw hl hr⟩) (h.bhd k n)
theorem Cpy.law {t : Txt} {rs : List Rd} (h : Cpy t rs) {k n : Int} {ls : Line} (hl : lineAt t k n = some ls) (hne : ∀ s ∈ ls,s ≠ emp) : (List.range (ls.length + 1)).foldl (lawW ls rs k n) [] = refLine ls rs k n := by
 rw [h.line hl hne,foldl_same (g := lawW ls (ofLn rs k n) k n) (fun a b => lawW_filter ls rs k n a b)]
 exact way_line (way_law ls hne k n) (ofLn rs k n) (fun r hr => ⟨(ofLn_mem.1 hr).2,h.rdw hl hr⟩) (h.bhd k n)
def readT (t : Txt) (rs : List Rd) : Txt := t.mapIdx fun k c => (c.1,c.2.mapIdx fun n l => refLine l rs k n)
theorem readT_get {t : Txt} {rs : List Rd} {k : Nat} {c : Chap} (h : t[k]? = some c) : (readT t rs)[k]? = some (c.1,c.2.mapIdx fun n l => refLine l rs k n) := by
 unfold readT;rw [List.getElem?_mapIdx,h];rfl
theorem lineAt_nat {t : Txt} {k n : Nat} {c : Chap} {l : Line} (h : t[k]? = some c) (hl : c.2[n]? = some l) : lineAt t k n = some l := by
 unfold lineAt
 rw [if_pos (by omega)]
 simp only [Int.toNat_natCast,h,Option.bind_some,hl]
end Go.Ev
namespace Go.Ev
open Go.Proofs
attribute [local irreducible] Wp WpS
theorem Small.ne {t : Txt} (hs : Small t) {k n : Int} {ls : Line} (h : lineAt t k n = some ls) : ∀ s ∈ ls,s ≠ emp := fun s hm => by
 obtain ⟨c,hc,hl⟩ := lineAt_mem h
 exact wordB_ne (hs.word c hc ls hl s hm)
theorem linesN_get (rs : List Rd) (k : Nat) : ∀ (ls : List Line) (n j : Nat) (l : Line),linesN rs k n ls = true → ls[j]? = some l → withinB 1 10 [((refLine l rs k ((n + j : Nat) : Int)).length : Int)] = true
 | [],_,_,_,_,h => by simp at h
 | x :: r,n,j,l,h1,h2 => by
  unfold linesN at h1
  simp only [Bool.and_eq_true] at h1
  cases j with
  | zero => simp at h2;subst h2;exact h1.1
  | succ j =>
   have := linesN_get rs k r (n + 1) j l h1.2 (by simpa using h2)
   rwa [show n + 1 + j = n + (j + 1) by omega] at this
theorem chapsN_get (rs : List Rd) : ∀ (t : Txt) (k i : Nat) (c : Chap),chapsN rs k t = true → t[i]? = some c → linesN rs (k + i) 0 c.2 = true
 | [],_,_,_,_,h => by simp at h
 | x :: r,k,i,c,h1,h2 => by
  unfold chapsN at h1
  simp only [Bool.and_eq_true] at h1
  cases i with
  | zero => simp at h2;subst h2;exact h1.1
  | succ i =>
   have := chapsN_get rs r (k + 1) i c h1.2 (by simpa using h2)
   rwa [show k + 1 + i = k + (i + 1) by omega] at this
theorem readT_mem {t : Txt} {rs : List Rd} {c : Chap} {l : Line} (hc : c ∈ readT t rs) (hl : l ∈ c.2) : ∃ (k n : Nat) (d : Chap) (ln : Line),t[k]? = some d ∧ d.2[n]? = some ln ∧ l = refLine ln rs k n ∧ c.2.length = d.2.length := by
 obtain ⟨k,hk⟩ := List.getElem?_of_mem hc
 have hil : k < t.length := by
  have := (List.getElem?_eq_some_iff.1 hk).1
  unfold readT at this;rwa [List.length_mapIdx] at this
 obtain ⟨d,hd⟩ := at_lt t k hil
 rw [readT_get hd] at hk
 cases hk
 obtain ⟨n,hn⟩ := List.getElem?_of_mem hl
 simp only at hn
 rw [List.getElem?_mapIdx] at hn
 cases hk : d.2[n]? with
 | none => rw [hk] at hn;cases hn
 | some ln => rw [hk] at hn;cases hn;exact ⟨k,n,d,ln,hd,hk,rfl,by simp⟩
theorem readT_chap {t : Txt} {rs : List Rd} {c : Chap} (hc : c ∈ readT t rs) : ∃ d ∈ t,c.1 = d.1 ∧ c.2.length = d.2.length := by
 obtain ⟨k,hk⟩ := List.getElem?_of_mem hc
 have hil : k < t.length := by
  have := (List.getElem?_eq_some_iff.1 hk).1
  unfold readT at this;rwa [List.length_mapIdx] at this
 obtain ⟨d,hd⟩ := at_lt t k hil
 rw [readT_get hd] at hk
 cases hk
 exact ⟨d,List.mem_of_getElem? hd,rfl,by simp⟩
theorem rdOnes_mem {ls : Line} {s : ByteArray} : ∀ (l : List Rd) (st : Nat × List ByteArray),s ∈ (l.foldl (rdOne ls) st).2 → s ∈ st.2 ∨ s ∈ ls ∨ ∃ r ∈ l,r.kind ≠ 1 ∧ s = r.word
 | [],st,h => Or.inl h
 | r :: l,st,h => by
  rw [List.foldl_cons] at h
  rcases rdOnes_mem l _ h with h | h | ⟨q,hq,h⟩
  ·unfold rdOne at h
   simp only at h
   rcases List.mem_append.1 h with h | h
   ·rcases List.mem_append.1 h with h | h
    ·exact Or.inl h
    ·exact Or.inr (Or.inl (List.mem_of_mem_drop (List.mem_of_mem_take h)))
   ·split at h
    ·exact nomatch h
    ·rename_i hk
     exact Or.inr (Or.inr ⟨r,List.mem_cons_self ..,hk,List.mem_singleton.1 h⟩)
  ·exact Or.inr (Or.inl h)
  ·exact Or.inr (Or.inr ⟨q,List.mem_cons_of_mem _ hq,h⟩)
theorem readLineL_mem {ls : Line} {l : List Rd} {s : ByteArray} (h : s ∈ readLineL ls l) : s ∈ ls ∨ ∃ r ∈ l,r.kind ≠ 1 ∧ s = r.word := by
 unfold readLineL at h
 rcases List.mem_append.1 h with h | h
 ·rcases rdOnes_mem l _ h with h | h | h
  ·exact nomatch h
  ·exact Or.inl h
  ·exact Or.inr h
 ·exact Or.inl (List.mem_of_mem_drop h)
theorem Cpy.wordB {t : Txt} {rs : List Rd} (h : Cpy t rs) {r : Rd} (hr : r ∈ rs) (hk : r.kind ≠ 1) : wordB r.word = true := by
 have hf := h.fit r hr
 unfold readB at hf
 split at hf
 ·cases hf
 ·rw [if_neg hk] at hf
  split at hf
  ·unfold fits2 at hf;simp only [Bool.and_eq_true] at hf;exact hf.2
  ·split at hf
   ·unfold fits3 at hf;simp only [Bool.and_eq_true] at hf;exact hf.1.2
   ·cases hf
structure Right (t : Txt) (id : Int) (rs : List Rd) : Prop where
 id : withinB 0 9999 [id] = true
 len : ¬ 20 < (rs.length : Int)
 cpy : Cpy t rs
 lines : ∀ (k n : Nat) (c : Chap) (l : Line),t[k]? = some c → c.2[n]? = some l → 1 ≤ (refLine l rs k n).length ∧ (refLine l rs k n).length ≤ 10
theorem Right.of {t : Txt} {id : Int} {rs : List Rd} (h : copyB t id rs = true) : Right t id rs := by
 unfold copyB at h
 simp only [Bool.and_eq_true,Bool.not_eq_true',decide_eq_false_iff_not] at h
 obtain ⟨⟨h1,h2⟩,h3,h4⟩ := h
 refine ⟨h1,h2,Cpy.of h3,fun k n c l hc hl => ?_⟩
 have := linesN_get rs (0 + k) c.2 0 n l (chapsN_get rs t 0 k c h4 hc) hl
 rw [Nat.zero_add,Nat.zero_add] at this
 unfold withinB at this
 simp only [List.all_cons,List.all_nil,Bool.and_true,Bool.and_eq_true,decide_eq_true_eq] at this
 omega
theorem Right.small {t : Txt} {id : Int} {rs : List Rd} (h : Right t id rs) (hs : Small t) : Small (readT t rs) := by
 refine ⟨?_,fun c hc => ?_,fun c hc l hl => ?_,fun c hc l hl s hm => ?_⟩
 ·unfold readT;rw [List.length_mapIdx];exact hs.chs
 ·obtain ⟨d,hd, -,h2⟩ := readT_chap hc
  rw [h2];exact hs.lines d hd
 ·obtain ⟨k,n,d,ln,h1,h2,rfl, -⟩ := readT_mem hc hl
  exact h.lines k n d ln h1 h2
 ·obtain ⟨k,n,d,ln,h1,h2,rfl, -⟩ := readT_mem hc hl
  have hLA := lineAt_nat h1 h2
  rw [h.cpy.line hLA (hs.ne hLA)] at hm
  rcases readLineL_mem hm with hm | ⟨r,hr,hk,rfl⟩
  ·exact hs.word d (List.mem_of_getElem? h1) ln (List.mem_of_getElem? h2) s hm
  ·exact h.cpy.wordB ((ofLn_mem.1 hr).1) hk
end Go.Ev
namespace Go.Ev
open Go.Proofs
attribute [local irreducible] Wp WpS
structure MB (B : Nat) (base : Fm) (H : Heap) (ds : List ByteArray) (out : AV) : Prop where
 lock : H.lock = 0
 size : B ≤ H.size
 base : Has base H
 done : DoneR H ds out
def Stay (B : Nat) (base : Fm) : Prop := ∀ p ∈ base,p.1 < B ∧ ∀ v m e sz cs,p.2 ≠ .cells v m e sz true cs
theorem MB.row {B : Nat} {base : Fm} {H : Heap} {ds : List ByteArray} {out : AV} (h : MB B base H ds out) {b v m e sz : Nat} {g : Bool} {cs : List AV} (hb : (b,AObj.cells v m e sz g cs) ∈ base) (E : List (Option AObj)) : (H.plus E).row b v = some (m,e,sz,g,cs) := by
 have hg := h.base _ hb
 rw [rowLo (get_ltS hg)];exact get_row hg
theorem MB.plus {B : Nat} {base : Fm} {H : Heap} {ds : List ByteArray} {out : AV} (h : MB B base H ds out) (E : List (Option AObj)) : MB B base (H.plus E) ds out :=
 ⟨h.lock,by have := h.size;rw [plus_size];omega,h.base.plus E,h.done.plus E⟩
theorem MB.trim {B : Nat} {base : Fm} {H : Heap} {ds : List ByteArray} {out : AV} (h : MB B base H ds out) (hS : Stay B base) {n : Nat} (hn : B ≤ n) (vs : List AV) (ms : List Nat) (hv : bound out ≤ boundL vs) : MB B base (H.trim n vs ms) ds out := by
 by_cases hn2 : n ≤ H.size
 ·refine ⟨trim_lock.trans h.lock,Nat.le_trans hn (trim_size' hn2),fun p hp => (trim_lo (by have := (hS p hp).1;omega)).trans (h.base p hp), ?_⟩
  rcases h.done with hd | ⟨b,v,h1,h2,rfl,h4⟩
  ·exact Or.inl hd
  ·unfold Heap.trim
   split
   ·rename_i hq
    rw [Bool.and_eq_true,Bool.and_eq_true,Bool.and_eq_true,Nat.ble_eq] at hq
    have h5 := hq.1.1.1
    have hb : b < n := by simp only [bound] at hv;omega
    have hg := (takeH_get (H := H) hb).trans (row_of_get h4)
    exact Or.inr ⟨b,v,h1,get_size hg,rfl,get_row hg⟩
   ·exact Or.inr ⟨b,v,h1,h2,rfl,h4⟩
 ·rw [trim_whole (by omega)];exact h
theorem MB.more {B : Nat} {base : Fm} {H : Heap} {ds : List ByteArray} {b v : Nat} (h : MB B base H ds (.sl b v 0 ds.length none)) (hS : Stay B base) (hb : b < H.size) (hr : H.row b v = some (0,9,1,true,strs ds)) (s : List ByteArray) (n : Nat) (hn : n = ds.length + s.length) : MB B base (H.put b (.cells (v + 1) 0 9 1 true (strs (ds ++ s)))) (ds ++ s) (.sl b (v + 1) 0 n none) := by
 refine ⟨h.lock,by rw [put_sizeI _ hb];exact h.size,fun p hp => ?_,Or.inr ⟨b,v + 1, ?_,by rw [put_sizeI _ hb];exact hb,by rw [hn,List.length_append],row_put_same hb⟩⟩
 ·have hne : p.1 ≠ b := by
   rintro rfl
   have h1 := (row_of_get hr).symm.trans (h.base p hp)
   exact (hS p hp).2 v 0 9 1 (strs ds) (Option.some.inj h1).symm
  exact (put_get_ne _ (by omega) hne).trans (h.base p hp)
 ·have := h.lock
  show H.lock ≤ b
  omega
theorem MB.new {B : Nat} {base : Fm} {H : Heap} {ds : List ByteArray} {out : AV} (h : MB B base H ds out) {N : Nat} (hN : H.size = N) (E : List (Option AObj)) (k : Nat) (ds' : List ByteArray) (hE : E[k]? = some (some (.cells 0 0 9 1 true (strs ds')))) : MB B base (H.plus E) ds' (.sl (N + k) 0 0 ds'.length none) := by
 have hk := (List.getElem?_eq_some_iff.1 hE).1
 refine ⟨h.lock,by have := h.size;rw [plus_size];omega,h.base.plus E,Or.inr ⟨N + k,0, ?_,by rw [plus_size];omega,rfl, ?_⟩⟩
 ·have := h.lock
  show H.lock ≤ _
  omega
 ·rw [rowP hN,hE];rfl
end Go.Ev
namespace Go.Ev
open Go.Proofs
def dlt (r : Rd) : Int := if r.kind = 2 then 1 else if r.kind = 1 then -1 else 0
def mv : List Rd → (Rd → Bool) → Int
 | [],_ => 0
 | r :: l,p => (if p r = true then dlt r else 0) + mv l p
section
variable {ls : Line} {l : List Rd} {k n : Int} (hne : ∀ s ∈ ls,s ≠ emp) (ho : ∀ r ∈ l,r.ch = k ∧ r.ln = n) (hr : ∀ r ∈ l,RdW ls r ∧ 0 ≤ r.wd) (hb : l.Pairwise Bhd)
include hne ho hr hb
end
section
variable {t : Txt} {rs : List Rd} (h : Cpy t rs) {k n : Int} {ls : Line} (hl : lineAt t k n = some ls) (hne : ∀ s ∈ ls,s ≠ emp)
include h hl hne
end
end Go.Ev
namespace Go.Ev
open Go.Proofs
attribute [local irreducible] Wp WpS
end Go.Ev
namespace Go.Ev
def Fz (X : Heap) (S : Nat → Prop) (d : Nat) (x y : AV) : Prop :=
 (x.flat = true ∧ bound y = 0 ∧ (bound x = 0 → y = x)) ∧ ∀ G : Heap,G.lock = 0 → (∀ b,S b → G.get b = X.get b) → ∀ k,d ≤ k → freezeV G k x = some y
theorem Fz.mono {X Y : Heap} {S T : Nat → Prop} {d d' : Nat} {x y : AV} (h : Fz X S d x y) (hs : ∀ b,S b → T b ∧ Y.get b = X.get b) (hd : d ≤ d') : Fz Y T d' x y :=
 ⟨h.1,fun G hk hg k hk2 => h.2 G hk (fun b hb => (hg b (hs b hb).1).trans (hs b hb).2) k (Nat.le_trans hd hk2)⟩
theorem Fz.v (X : Heap) (S : Nat → Prop) (v : Value) : Fz X S 1 (.v v) (.v v) :=
 ⟨⟨rfl,rfl,fun _ => rfl⟩,fun _ _ _ k hk => by obtain ⟨k',rfl⟩ : ∃ k',k = k' + 1 := ⟨k - 1,by omega⟩;rfl⟩
theorem Fz.vs (X : Heap) (S : Nat → Prop) (z : Nat) (l : List AV) (c : Option Nat) : Fz X S 1 (.vs z l c) (.vs z l c) :=
 ⟨⟨rfl,rfl,fun _ => rfl⟩,fun _ _ _ k hk => by obtain ⟨k',rfl⟩ : ∃ k',k = k' + 1 := ⟨k - 1,by omega⟩;rfl⟩
def FzL (X : Heap) (S : Nat → Prop) (d : Nat) : List AV → List AV → Prop
 | [],[] => True
 | x :: r,y :: s => Fz X S d x y ∧ FzL X S d r s
 | _,_ => False
theorem FzL.len {X : Heap} {S : Nat → Prop} {d : Nat} : ∀ {l m : List AV},FzL X S d l m → l.length = m.length
 | [],[],_ => rfl
 | _ :: _,_ :: _,h => congrArg (· + 1) (FzL.len h.2)
 | [],_ :: _,h => h.elim
 | _ :: _,[],h => h.elim
theorem FzL.mono {X Y : Heap} {S T : Nat → Prop} {d d' : Nat} (hs : ∀ b,S b → T b ∧ Y.get b = X.get b) (hd : d ≤ d') : ∀ {l m : List AV},FzL X S d l m → FzL Y T d' l m
 | [],[],_ => trivial
 | _ :: _,_ :: _,h => ⟨h.1.mono hs hd,FzL.mono hs hd h.2⟩
 | [],_ :: _,h => h.elim
 | _ :: _,[],h => h.elim
theorem FzL.flat {X : Heap} {S : Nat → Prop} {d : Nat} : ∀ {l m : List AV},FzL X S d l m → l.all AV.flat = true
 | [],[],_ => rfl
 | _ :: _,_ :: _,h => by rw [List.all_cons,h.1.1.1,FzL.flat h.2];rfl
 | [],_ :: _,h => h.elim
 | _ :: _,[],h => h.elim
theorem FzL.bound {X : Heap} {S : Nat → Prop} {d : Nat} : ∀ {l m : List AV},FzL X S d l m → boundL m = 0
 | [],[],_ => rfl
 | _ :: _,_ :: _,h => by rw [boundL_cons,h.1.1.2.1,FzL.bound h.2];rfl
 | [],_ :: _,h => h.elim
 | _ :: _,[],h => h.elim
theorem FzL.closed {X : Heap} {S : Nat → Prop} {d : Nat} : ∀ {l m : List AV},FzL X S d l m → boundL l = 0 → m = l
 | [],[],_,_ => rfl
 | x :: r,y :: s,h,hb => by
  rw [boundL_cons] at hb
  have h1 : Go.Ev.bound x = 0 := Nat.le_zero.1 (Nat.le_trans (Nat.le_max_left _ _) (Nat.le_of_eq hb))
  have h2 : boundL r = 0 := Nat.le_zero.1 (Nat.le_trans (Nat.le_max_right _ _) (Nat.le_of_eq hb))
  rw [h.1.1.2.2 h1,FzL.closed h.2 h2]
 | [],_ :: _,h,_ => h.elim
 | _ :: _,[],h,_ => h.elim
theorem FzL.freeze {X : Heap} {S : Nat → Prop} {d : Nat} {G : Heap} (hk : G.lock = 0) (hg : ∀ b,S b → G.get b = X.get b) : ∀ {l m : List AV},FzL X S d l m → ∀ k,d + l.length + 1 ≤ k → freezeL G k l = some m
 | [],[],_,k,h => by obtain ⟨k',rfl⟩ : ∃ k',k = k' + 1 := ⟨k - 1,by omega⟩;rfl
 | x :: r,y :: s,h,k,hd => by
  obtain ⟨k',rfl⟩ : ∃ k',k = k' + 1 := ⟨k - 1,by omega⟩
  simp only [List.length_cons] at hd
  show (match freezeV G k' x,freezeL G k' r with | some y,some ys => some (y :: ys) | _,_ => none) = _
  rw [h.1.2 G hk hg k' (by omega),FzL.freeze hk hg h.2 k' (by omega)]
 | [],_ :: _,h,_,_ => h.elim
 | _ :: _,[],h,_,_ => h.elim
theorem Fz.row {X : Heap} {S : Nat → Prop} {d b v e m sz n : Nat} {g : Bool} {l ys : List AV} (hS : S b) (hr : X.get b = some (.cells v m e sz g l)) (hl : FzL X S d l ys) (hm : boundL l ≤ m) (hz : 0 < sz) (hn : l.length = n * sz) (c : Option Nat) {d' : Nat} (hd : d + l.length + 2 ≤ d') :
  Fz X S d' (.sl b v 0 n c) (.vs sz (chunk sz n ys) none) := by
 refine ⟨⟨rfl,rfl,fun h => by simp [Go.Ev.bound] at h⟩,fun G hk hg k hkd => ?_⟩
 obtain ⟨k',rfl⟩ : ∃ k',k = k' + 1 := ⟨k - 1,by omega⟩
 have hrow : G.row b v = some (m,e,sz,g,l) := by
  unfold Heap.row;rw [hg b hS,hr];simp only [if_true]
 unfold freezeV
 simp only [hrow,hk]
 rw [if_neg (by omega),if_pos ⟨by omega,hz⟩,List.drop_zero,List.take_of_length_le (by omega)]
 by_cases h0 : m = 0
 ·rw [if_pos h0,hl.closed (by omega)]
 ·rw [if_neg h0,FzL.freeze hk hg hl k' (by omega)]
  simp only [hl.bound,if_true]
theorem trim_orT (H : Heap) (n : Nat) (vs : List AV) (ms : List Nat) : H.trim n vs ms = H ∨ H.trim n vs ms = { H with objs := H.objs.take n } := by
 unfold Heap.trim
 split
 ·exact Or.inr rfl
 ·exact Or.inl rfl
theorem trim_getT {H : Heap} {n : Nat} {vs : List AV} {ms : List Nat} {b : Nat} (hb : b < n) : (H.trim n vs ms).get b = H.get b := by
 rcases trim_orT H n vs ms with h | h
 ·rw [h]
 ·rw [h];unfold Heap.get;simp only;rw [List.getElem?_take,if_pos hb]
end Go.Ev
namespace Go.Ev
open Go.Proofs
attribute [local irreducible] Wp WpS
def wds (Z : List (Plc × ByteArray)) : List AV := strs (Z.map (·.2))
def pls (Z : List (Plc × ByteArray)) : List AV := Z.map fun x => plN x.1
def t100 (ch : AV) (w sd : Int) (c : Nat) (l : AV) (n j : Nat) : List (Tmp × AV) := [(0,.agg [ch]),(1,.agg [intA w,.v (.int .u8 sd)]),(2,intA c),(3,.ptr 0 0 0),(4,.ptr 1 0 0),(6,.ptr 2 0 0),(7,.ptr 3 0 0),(19,l),(20,intA n),(21,intA j)]
end Go.Ev
namespace Go.Ev
open Go.Proofs
attribute [local irreducible] Wp WpS
end Go.Ev
namespace Go.Ev
open Go.Proofs
attribute [local irreducible] Wp WpS
end Go.Ev
namespace Go.Ev
open Go.Proofs
attribute [local irreducible] Wp WpS
theorem bd2K_at {S : Type} (R : S → Fm → Prop) (d : Nat) (L' : ALoop) (m : Fm) (H : Heap) (p : AExit × S) (e : AExit) (a : AAct) (H' : Heap) : AtK (bd2K R d L' m H p) e a H' = (e = p.1 ∧ ∃ m',R p.2 m' ∧ Has m' H' ∧ loopObj H' (d + 1) = some L' ∧ Moves ((d + 1,.loop L') :: m) H ((d + 1,.loop L') :: m') H') := rfl
end Go.Ev
namespace Go.Ev
def idxB (c : Nat) : Int → List UInt8 → Int
 | _,[] => -1
 | i,b :: r => if Nat.beq b.toNat c then i else idxB c (i + 1) r
theorem idxB_eq (c : UInt8) : ∀ (l : List UInt8) (i : Int),idxB c.toNat i l = if Lib.indexByte l c = -1 then -1 else Lib.indexByte l c + i
 | [],i => by simp [idxB,Lib.indexByte]
 | b :: l,i => by
  unfold idxB Lib.indexByte
  by_cases h : b = c
  ·subst h
   have h1 : Nat.beq b.toNat b.toNat = true := Nat.beq_refl _
   simp
  ·have h1 : Nat.beq b.toNat c.toNat = false := by
    cases hb : Nat.beq b.toNat c.toNat
    ·rfl
    ·exact absurd (UInt8.toNat_inj.1 (Nat.eq_of_beq_eq_true hb)) h
   have hge := Lib.indexByte_ge l c
   rw [h1,idxB_eq c l (i + 1)]
   simp only [Bool.false_eq_true,if_false,beq_iff_eq,h]
   by_cases h2 : Lib.indexByte l c = -1
   ·simp [h2]
   ·simp only [h2,if_false]
    rw [if_neg (by omega)];omega
def idxStr : List AV → Option AV
 | [.v (.string s),.v (.int .u8 c)] => if 0 ≤ c ∧ c < 256 then some (.v (.int .i64 (idxB c.toNat 0 s.data.toList))) else none
 | _ => none
theorem ext_idx {P : Program} {f : FuncId} {fn : Func} (hf : P.funcs[f]? = some fn) (hb : fn.body = none) (hn : (fn.name == "runtime.NumGoroutine") = false) (h1 : (Extern.findNext fn).isNone = true) (h2 : Extern.find fn = some Extern.BytealgIndexByte.indexByte)
  {args : List AV} {v : AV} (h : idxStr args = some v) (Z : Fzn) (ρ : Pls) (H : Heap) (w : World) (vals : List Value) (hs : Sim Z ρ H w) (hl : RepL Z ρ args vals) : FnMeets P f vals w (After Z ρ H w v H) := by
 unfold idxStr at h
 split at h
 ·rename_i s c
  split at h
  ·rename_i hc
   obtain ⟨v1,ws,rfl,hv1,hl⟩ := hl.uncons
   obtain ⟨v2,ws,rfl,hv2,hl⟩ := hl.uncons
   have : ws = [] := List.length_eq_zero_iff.1 hl.1.symm
   subst this
   obtain ⟨rfl, -⟩ := hv1.v_inv
   obtain ⟨rfl, -⟩ := hv2.v_inv
   simp only [Option.some.injEq] at h
   subst h
   refine Or.inl ⟨.int .i64 (Lib.indexByte s.data.toList c.toNat.toUInt8),w, ?_,Z,ρ, ?_,hs,Ext.refl _ _ _ _⟩
   ·have hfn : Extern.findNext fn = none := Option.isNone_iff_eq_none.1 h1
    have := Lib.run_indexByteString (P := P) s c w
    have hn' : ¬ fn.name = "runtime.NumGoroutine" := by
     intro e;rw [e] at hn;simp at hn
    simp [callFunc,hf,hn',hb,hfn,h2,this]
   ·have hcn : c.toNat.toUInt8.toNat = c.toNat := by
     have : c.toNat < 256 := by omega
     simp [Nat.toUInt8,Nat.mod_eq_of_lt this]
    have := idxB_eq c.toNat.toUInt8 s.data.toList 0
    rw [hcn] at this
    have e : idxB c.toNat 0 s.data.toList = Lib.indexByte s.data.toList c.toNat.toUInt8 := by
     rw [this];split
     ·rename_i h;exact h.symm
     ·omega
    rw [e];exact .v rfl
  ·cases h
 ·cases h
end Go.Ev
namespace Go.Ev
open Go.Proofs Go.Shelf Go.RowKit
theorem Sim.below {Z : Fzn} {ρ : Pls} {H : Heap} {w w' : World} (hs : Sim Z ρ H w) (hb : Below w.heap.size w w') : Sim Z ρ H w' :=
 ⟨fun b o h hl => let ⟨pl,obj,h1,h2,h3,h4⟩ := hs.objs b o h hl; ⟨pl,obj,h1,(hb.block _ (Array.getElem?_eq_some_iff.1 h2).1).trans h2,h3,h4⟩,hs.inj,
  fun k o hk => (hb.block k (Array.getElem?_eq_some_iff.1 (hs.zok k o hk)).1).trans (hs.zok k o hk),hs.fresh,hs.lk,hs.lg⟩
theorem Ext.below {Z : Fzn} {ρ : Pls} {H : Heap} {w w' : World} (hb : Below w.heap.size w w') : Ext Z ρ H w Z ρ H w' :=
 ⟨.refl _,.refl _,fun k hk _ => hb.block k hk,fun _ _ h => h,hb.size,hb.os,hb.output,hb.tape,(fun s => nomatch (show true = false from s)),fun _ ha => hb.frozen ha,rfl,fun _ _ => rfl,Nat.le_refl _,fun _ _ _ => rfl,fun _ _ _ => rfl,fun _ _ h _ => ⟨h,fun _ => rfl⟩⟩
def strsOf : List AV → Option (List ByteArray)
 | [] => some []
 | .v (.string s) :: r => match strsOf r with | some l => some (s :: l) | none => none
 | _ => none
def joinStr : List AV → Option AV
 | [.v (.slice none 0 0),.v (.string _)] => some (.v (.string ⟨#[]⟩))
 | [.vs _ xs _,.v (.string sep)] =>
  match strsOf xs with
  | some l => if l.length ≤ 100000 ∧ (Lib.join (l.map (·.data.toList)) sep.data.toList).length ≤ 100000 then some (.v (.string ⟨(Lib.join (l.map (·.data.toList)) sep.data.toList).toArray⟩)) else none
  | none => none
 | _ => none
theorem strsOf_some : ∀ {xs : List AV} {l : List ByteArray},strsOf xs = some l → xs = l.map fun s => .v (.string s)
 | [],l,h => by simp [strsOf] at h;subst h;rfl
 | x :: r,l,h => by
  unfold strsOf at h
  split at h
  ·rename_i h';cases h'
  ·rename_i s r' h'
   simp only [List.cons.injEq] at h'
   obtain ⟨rfl,rfl⟩ := h'
   split at h
   ·rename_i l' hl
    simp only [Option.some.injEq] at h
    subst h
    rw [strsOf_some hl];rfl
   ·cases h
  ·cases h
theorem flat_strs : ∀ l : List ByteArray,(l.map fun s => AV.v (.string s)).flatMap AV.cells = l.map fun s => AV.v (.string s)
 | [] => rfl
 | a :: r => by simp only [List.map_cons,List.flatMap_cons,flat_strs r];rfl
theorem ext_join {P : Program} {ρn : Ren} (L : Lays.n156 P ρn) (X : Builder.Extra P ρn) {f : FuncId} (hf : ρn.f 156 = f) (hbody : HasBody P f)
  {args : List AV} {v : AV} (h : joinStr args = some v) (Z : Fzn) (ρ : Pls) (H : Heap) (w : World) (vals : List Value) (hs : Sim Z ρ H w) (hl : RepL Z ρ args vals) : FnMeets P f vals w (After Z ρ H w v H) := by
 subst hf
 unfold joinStr at h
 split at h
 ·rename_i sep
  obtain ⟨v1,ws,rfl,hv1,hl⟩ := hl.uncons
  obtain ⟨v2,ws,rfl,hv2,hl⟩ := hl.uncons
  have : ws = [] := List.length_eq_zero_iff.1 hl.1.symm
  subst this
  obtain ⟨rfl, -⟩ := hv1.v_inv
  obtain ⟨rfl, -⟩ := hv2.v_inv
  simp only [Option.some.injEq] at h
  subst h
  refine Or.inr ⟨hbody.run _ _,Calls.mono' (Any.strings_Join_none L X none 0 sep w) ?_⟩
  rintro e w' ⟨rfl,rfl⟩
  exact ⟨_,rfl,Z,ρ,.v rfl,hs,Ext.refl _ _ _ _⟩
 ·rename_i sz xs cap sep
  obtain ⟨v1,ws,rfl,hv1,hl⟩ := hl.uncons
  obtain ⟨v2,ws,rfl,hv2,hl⟩ := hl.uncons
  have : ws = [] := List.length_eq_zero_iff.1 hl.1.symm
  subst this
  obtain ⟨rfl, -⟩ := hv2.v_inv
  split at h
  ·rename_i l hstr
   split at h
   ·rename_i hc
    simp only [Option.some.injEq] at h
    subst h
    have hxs := strsOf_some hstr
    refine Or.inr ⟨hbody.run _ _, ?_⟩
    cases hv1 with
    | vs hz ha hsz hl' hh hcap hle =>
     rename_i c blk arr e fz pre vs post
     have hblk := (Array.getElem?_eq_some_iff.1 (hs.zok _ _ hz)).1
     have hlen : xs.length = l.length := by rw [hxs,List.length_map]
     have hcells : (xs.flatMap AV.cells) = l.map fun s => AV.v (.string s) := by
      rw [hxs]
      exact flat_strs l
     have hget : ∀ (j : Nat) (x : ByteArray),l[j]? = some x → w.cell? ⟨blk,pre.length + j,none⟩ = some (.string x) := by
      intro j x hj
      have h1 : (xs.flatMap AV.cells)[j]? = some (.v (.string x)) := by rw [hcells,List.getElem?_map,hj];rfl
      have hlt : j < vs.length := by rw [← hl'];exact (List.getElem?_eq_some_iff.1 h1).1
      have h2 : vs[j]? = some vs[j] := List.getElem?_eq_getElem hlt
      have h3 := (hh j _ _ h1 h2).v_inv.1
      rw [cell_at (hs.zok _ _ hz) ha h2,h3]
     have hcall := Any.strings_Join L X blk pre.length c l sep w hget hblk (by have := hc.1;omega) (by omega) (by have := hc.2;omega)
     rw [← hlen] at hcall
     refine Calls.mono' hcall ?_
     rintro e w' ⟨rfl,hb⟩
     exact ⟨_,rfl,Z,ρ,.v rfl,hs.below hb,Ext.below hb⟩
    | vs0 hcap =>
     have hl0 : l = [] := by
      cases l with
      | nil => rfl
      | cons a r => simp at hxs
     subst hl0
     refine Calls.mono' (Any.strings_Join_none L X _ _ sep w) ?_
     rintro e w' ⟨rfl,rfl⟩
     exact ⟨_,rfl,Z,ρ,.v rfl,hs,Ext.refl _ _ _ _⟩
   ·cases h
  ·cases h
 ·cases h
end Go.Ev
namespace Go.Ev
open Go.Proofs
attribute [local irreducible] Wp WpS
def spc : ByteArray := ⟨#[32]⟩
end Go.Ev
namespace Go.Ev
open Go.Proofs
attribute [local irreducible] Wp WpS
end Go.Ev
namespace Go.Ev
open Go.Proofs
attribute [local irreducible] Wp WpS
end Go.Ev
namespace Go.Ev
open Go.Proofs
attribute [local irreducible] Wp WpS
theorem ansS114 {e : Exts} (lo hi n : Int) (h1 : lo ≤ n) (h2 : n ≤ hi) (cap : Option Nat) : Ans (Cx e) 114 [.agg [intA lo,intA hi],.vs 1 [intA n] cap] (.v (.bool true)) := by
 unfold Ans
 rw [fn_step (fn_114 e) (show Tryz.f114.body = some _ from rfl)]
 have hsl : SlOf 1 [intA n] (.vs 1 [intA n] cap) := Or.inr ⟨cap,rfl⟩
 have hlen := hsl.len
 simp -implicitDefEqProofs only [Tryz.f114,go_sem,↓reduceIte,Int.reduceEq,Int.reduceLT,Int.reduceLE,List.reduceReplicate,intA,setT_nil,setT_cons,hlen,↓boolP_bool,↓iteB_true,↓iteB_false]
 refine Lp_ruleQ (P := fun μ a H => ∃ j,j + μ = 1 ∧ a = ⟨24,[(0,.agg [intA lo,intA hi]),(1,.vs 1 [intA n] cap),(2,.ptr 0 0 0),(4,.v (.bool false)),(7,.vs 1 [intA n] cap),(8,intA 1),(9,intA (j : Nat))],[]⟩ ∧ H = ⟨[some (.cells 0 0 170 1 false [intA lo,intA hi])],0⟩) ?_ 1 _ _ ⟨0,by omega,rfl,rfl⟩
 rintro Q KK hQ hKK μ _ _ ⟨j,hj,rfl,rfl⟩
 cases μ with
 | zero =>
  obtain rfl : j = 1 := by omega
  have hlt : ¬ ((1 : Nat) : Int) < 1 := by omega
  simp -implicitDefEqProofs only [go_sem,↓reduceIte,Int.reduceEq,Int.reduceLT,Int.reduceLE,List.reduceReplicate,intA,setT_nil,setT_cons,hlt,↓boolP_bool,↓iteB_true,↓iteB_false]
  refine hKK _ _ _ ?_
  simp -implicitDefEqProofs only [go_sem,↓reduceIte,Int.reduceEq,Int.reduceLT,Int.reduceLE,List.reduceReplicate,intA,setT_nil,setT_cons,↓boolP_bool,↓iteB_true,↓iteB_false]
 | succ μ =>
  obtain rfl : j = 0 := by omega
  have hlt : ((0 : Nat) : Int) < 1 := by omega
  have hix := hsl.idx (show ([intA n] : List AV)[0]? = some (intA n) from rfl)
  have hw := wrap_succ 0 (by omega)
  have hn1 : ¬ n < lo := by omega
  have hn2 : ¬ n > hi := by omega
  simp only [intA] at hix
  simp -implicitDefEqProofs only [go_sem,↓reduceIte,Int.reduceEq,Int.reduceLT,Int.reduceLE,List.reduceReplicate,intA,setT_nil,setT_cons,hlt,hix,hw,hn1,hn2,decide_false,↓boolP_bool,↓iteB_true,↓iteB_false]
  exact Again.mk' μ (by omega) (hQ _ _ _ ⟨0 + 1,by omega,rfl,rfl⟩)
end Go.Ev
namespace Go.Ev
open Go.Proofs
attribute [local irreducible] Wp WpS
end Go.Ev
namespace Go.Ev
open Go.Proofs
attribute [local irreducible] Wp WpS
end Go.Ev
namespace Go.Ev
open Go.Proofs
theorem okFrom_iff (t : Txt) : ∀ (l : Txt) (j : Nat),okFrom t j l = true ↔ ∀ (i : Nat) (c : Chap),l[i]? = some c → condC t (j + i) c = true
 | [],j => by simp [okFrom]
 | x :: l,j => by
  unfold okFrom
  rw [Bool.and_eq_true,okFrom_iff t l (j + 1)]
  constructor
  ·rintro ⟨h1,h2⟩ i c hc
   cases i with
   | zero => simp at hc;subst hc;exact h1
   | succ i => rw [show j + (i + 1) = j + 1 + i by omega];exact h2 i c (by simpa using hc)
  ·intro h
   exact ⟨h 0 x rfl,fun i c hc => by rw [show j + 1 + i = j + (i + 1) by omega];exact h (i + 1) c (by simpa using hc)⟩
theorem idB_map (t : Txt) (id : Int) (n : Nat) : idB t id 0 n = ((t.map (·.1)).take n).any fun x => decide (x = id) := by
 unfold idB
 rw [List.drop_zero,← List.map_take,List.any_map];rfl
theorem readT_ids (t : Txt) (rs : List Rd) : (readT t rs).map (·.1) = t.map (·.1) := by
 apply List.ext_getElem?
 intro i
 unfold readT
 rw [List.getElem?_map,List.getElem?_map,List.getElem?_mapIdx]
 cases t[i]? <;> simp
theorem Right.text {t : Txt} {id : Int} {rs : List Rd} (h : Right t id rs) (ht : textB t = true) : textB (readT t rs) = true := by
 have hs := small_of ht
 have hs2 := h.small hs
 unfold textB at ht ⊢
 rw [Bool.and_eq_true] at ht ⊢
 have hl : (readT t rs).length = t.length := by unfold readT;rw [List.length_mapIdx]
 refine ⟨by rw [hl];exact ht.1,(okFrom_iff _ _ _).2 fun i c hc => ?_⟩
 have hil : i < t.length := by rw [← hl];exact (List.getElem?_eq_some_iff.1 hc).1
 obtain ⟨c0,hc0⟩ := at_lt t i hil
 have h0 := (okFrom_iff t t 0).1 ht.2 i c0 hc0
 have hcm := List.mem_of_getElem? hc
 rw [readT_get hc0] at hc
 have hid : c.1 = c0.1 := by cases hc;rfl
 have hlen : c.2.length = c0.2.length := by cases hc;simp
 unfold condC at h0 ⊢
 simp only [Bool.and_eq_true] at h0 ⊢
 obtain ⟨⟨⟨e1,e2⟩,e3⟩,e4⟩ := h0
 rw [Nat.zero_add] at e3 ⊢
 refine ⟨⟨⟨by rw [hid];exact e1,by rw [hlen];exact e2⟩,by rw [hid,idB_map,readT_ids,← idB_map];exact e3⟩,List.all_eq_true.2 fun l hl => ?_⟩
 unfold lineB
 have hw := hs2.words c hcm l hl
 rw [Bool.and_eq_true]
 refine ⟨?_,List.all_eq_true.2 fun s hm => hs2.word c hcm l hl s hm⟩
 unfold withinB
 simp only [List.all_cons,List.all_nil,Bool.and_true,Bool.and_eq_true,decide_eq_true_eq];omega
end Go.Ev
namespace Go.Ev
end Go.Ev
namespace Go.Ev
open Go.Proofs
attribute [local irreducible] Wp WpS
end Go.Ev
namespace Go.Ev
open Go.Proofs
end Go.Ev
namespace Go.Ev
open Go.Proofs
attribute [local irreducible] Wp WpS
end Go.Ev
namespace Go.Ev
open Go.Proofs
end Go.Ev
namespace Go.Ev
open Go.Proofs
def extWord : List AV → Option AV
 | [.v (.string s)] => if s.size < 1000 then some (.v (.bool (wordB s))) else none
 | _ => none
def eN : Exts := { x := fun _ => none }
def e0 : Exts := eN.more 131 cmpStr
def e1 : Exts := e0.more 90 extWord
theorem quiet0 : Quiet e0 := by
 intro f h1 h2 _ _
 unfold e0 Exts.more
 show (if Nat.beq f 131 then some cmpStr else none) = none
 rw [if_neg]
 intro h;exact h2 (Nat.eq_of_beq_eq_true h)
theorem mixed (e : Exts) : (Cx e).P.follows .mixedOrders = true := by show Tryz.prog.follows .mixedOrders = true;kernel_rfl
theorem nogo_all : (Tryz.prog.funcs.toList.all fun fn => !(fn.body.isSome && (fn.name == "runtime.NumGoroutine"))) = true := by kernel_rfl
theorem nogo (e : Exts) : NoGo (Cx e).P := by
 intro f fn hf hb
 have h := List.all_eq_true.1 nogo_all fn (by
  have : Tryz.prog.funcs[f]? = some fn := hf
  exact List.mem_of_getElem? (by simpa using this))
 rw [hb] at h
 simpa using h
theorem extOK_none : ExtOK (Cx eN) := ⟨fun _ _ h => (nomatch h),fun _ _ h => (nomatch h),fun _ _ h => (nomatch h)⟩
theorem extOK0 : ExtOK (Cx e0) := by
 refine extOK_more (C := Cx eN) (f := 131) (g := cmpStr) rfl ?_ extOK_none rfl
 intro args v h Z ρ H w vals hs hl
 exact ext_cmp (fn := Tryz.f131) Tryz.func131 (by kernel_rfl) (by kernel_rfl) (by kernel_rfl) (by kernel_rfl) h Z ρ H w vals hs hl
end Go.Ev
namespace Go.Ev
structure Tell where
 f : Nat
 K : List AV
 R : AV
def tabHas : List Tell → Nat → Bool
 | [],_ => false
 | t :: r,f => Nat.beq t.f f || tabHas r f
def tabFn : List Tell → Nat → List AV → Option AV
 | [],_,_ => none
 | t :: r,f,args => if Nat.beq t.f f && listEq (eqA 30) args t.K then some t.R else tabFn r f args
def tabExt (e : FuncId → Option (List AV → Option AV)) (T : List Tell) : FuncId → Option (List AV → Option AV) := fun f => if tabHas T f then some (tabFn T f) else e f
def Cfg.more (C : Cfg) (e : FuncId → Option (List AV → Option AV)) : Cfg := { C with ext := e }
structure TellH where
 f : Nat
 K : List AV
 G : List (Option AObj)
 R : AV
def eqEnt : List (AV × AV × Nat) → List (AV × AV × Nat) → Bool
 | [],[] => true
 | (a,b,n) :: r,(a',b',n') :: s => eqQ 30 a a' && eqQ 30 b b' && Nat.beq n n' && eqEnt r s
 | _,_ => false
def sameX : Option AObj → Option AObj → Bool
 | none,none => true
 | some .dead,some .dead => true
 | some .dfr,some .dfr => true
 | some (.cells v m e sz g cs),some (.cells v' m' e' sz' g' cs') => Nat.beq v v' && Nat.beq m m' && Nat.beq e e' && Nat.beq sz sz' && (g == g') && eqLQ (eqQ 30) cs cs'
 | some (.map m es c),some (.map m' es' c') => Nat.beq m m' && eqEnt es es' && Nat.beq c c'
 | _,_ => false
def sameL : List (Option AObj) → List (Option AObj) → Bool
 | [],[] => true
 | x :: r,y :: s => sameX x y && sameL r s
 | _,_ => false
theorem eqEnt_eq : ∀ {l m : List (AV × AV × Nat)},eqEnt l m = true → l = m
 | [],[],_ => rfl
 | [],_ :: _,h => by cases h
 | _ :: _,[],h => by cases h
 | (a,b,n) :: r,(a',b',n') :: s,h => by
  simp only [eqEnt,Bool.and_eq_true] at h
  obtain ⟨⟨⟨h1,h2⟩,h3⟩,h4⟩ := h
  rw [eqQ_eq 30 _ _ h1,eqQ_eq 30 _ _ h2,Nat.eq_of_beq_eq_true h3,eqEnt_eq h4]
theorem sameX_eq {x y : Option AObj} (h : sameX x y = true) : x = y := by
 unfold sameX at h
 split at h
 ·rfl
 ·rfl
 ·rfl
 ·simp only [Bool.and_eq_true,beq_iff_eq] at h
  obtain ⟨⟨⟨⟨⟨h1,h2⟩,h3⟩,h4⟩,h5⟩,h6⟩ := h
  rw [Nat.eq_of_beq_eq_true h1,Nat.eq_of_beq_eq_true h2,Nat.eq_of_beq_eq_true h3,Nat.eq_of_beq_eq_true h4,h5,eqLQ_eq (eqQ_eq 30) h6]
 ·simp only [Bool.and_eq_true] at h
  obtain ⟨⟨h1,h2⟩,h3⟩ := h
  rw [Nat.eq_of_beq_eq_true h1,eqEnt_eq h2,Nat.eq_of_beq_eq_true h3]
 ·cases h
theorem sameL_eq : ∀ {l m : List (Option AObj)},sameL l m = true → l = m
 | [],[],_ => rfl
 | [],_ :: _,h => by cases h
 | _ :: _,[],h => by cases h
 | x :: r,y :: s,h => by
  simp only [sameL,Bool.and_eq_true] at h
  rw [sameX_eq h.1,sameL_eq h.2]
def tabHHas : List TellH → Nat → Bool
 | [],_ => false
 | t :: r,f => Nat.beq t.f f || tabHHas r f
def tabH : List TellH → Nat → List AV → Heap → Option AV
 | [],_,_,_ => none
 | t :: r,f,args,H => if Nat.beq t.f f && (eqLQ (eqQ 30) args t.K && sameL H.objs t.G) then some t.R else tabH r f args H
def atom1 : AV → Bool
 | .v _ => true
 | _ => false
def atom1b : AV → Bool
 | .v _ => true
 | .agg cs => cs.all atom1
 | _ => false
def atomR : AV → Bool
 | .v _ => true
 | .tup cs => cs.all atom1b
 | .agg cs => cs.all atom1b
 | _ => false
def borH (T : List Tell) (f : Nat) (args : List AV) (H : Heap) : Option AV :=
 match freezeL { H with lock := 0 } 100000 args with
 | some l => match tabFn T f l with | some R => if atomR R then some R else none | none => none
 | none => none
def tabX (T : List Tell) (TH : List TellH) (f : Nat) (args : List AV) (H : Heap) : Option AV := match tabH TH f args H with | some v => some v | none => borH T f args H
def tabExh (e : FuncId → Option (List AV → Heap → Option AV)) (T : List Tell) (TH : List TellH) : FuncId → Option (List AV → Heap → Option AV) := fun f => if tabHHas TH f || tabHas T f then some (tabX T TH f) else e f
def Cfg.more2 (C : Cfg) (e : FuncId → Option (List AV → Option AV)) (x : FuncId → Option (List AV → Heap → Option AV)) : Cfg := { C with ext := e,exh := x }
def ansH (n : Nat) (o : Option Out) : Option AV := match o with | some (.ret v H) => freezeV { H with lock := n } 1000000 v | _ => none
def GoodC (C : Cfg) (t : Tell) : Prop := (∃ e x,ExtOK (C.more2 e x) ∧ Ans (C.more2 e x) t.f t.K t.R) ∧ boundL t.K = 0
def GoodH (C : Cfg) (t : TellH) : Prop := (∃ e x,ExtOK (C.more2 e x) ∧ ∃ n,ansH t.G.length (evT (C.more2 e x) n (.call t.f t.K { objs := t.G,lock := t.G.length })) = some t.R) ∧ (Nat.beq (boundL t.K) 0 || t.K.any isYld) = false
def AllG (C : Cfg) : List Tell → Prop
 | [] => True
 | t :: r => GoodC C t ∧ AllG C r
def AllH (C : Cfg) : List TellH → Prop
 | [] => True
 | t :: r => GoodH C t ∧ AllH C r
theorem tabFn_some {C : Cfg} : ∀ {T : List Tell} {f : Nat} {args : List AV} {v : AV},AllG C T → tabFn T f args = some v → ∃ t,GoodC C t ∧ t.f = f ∧ args = t.K ∧ v = t.R
 | [],_,_,_,_,h => by cases h
 | t :: r,f,args,v,hT,h => by
  unfold tabFn at h
  split at h
  ·rename_i hq
   simp only [Bool.and_eq_true] at hq
   exact ⟨t,hT.1,Nat.eq_of_beq_eq_true hq.1,listEq_eq (eqA_eq 30) hq.2,by simpa using h.symm⟩
  ·exact tabFn_some hT.2 h
theorem tabH_some {C : Cfg} : ∀ {T : List TellH} {f : Nat} {args : List AV} {H : Heap} {v : AV},AllH C T → tabH T f args H = some v → ∃ t,GoodH C t ∧ t.f = f ∧ args = t.K ∧ H.objs = t.G ∧ v = t.R
 | [],_,_,_,_,_,h => by cases h
 | t :: r,f,args,H,v,hT,h => by
  unfold tabH at h
  split at h
  ·rename_i hq
   simp only [Bool.and_eq_true] at hq
   exact ⟨t,hT.1,Nat.eq_of_beq_eq_true hq.1,eqLQ_eq (eqQ_eq 30) hq.2.1,sameL_eq hq.2.2,by simpa using h.symm⟩
  ·exact tabH_some hT.2 h
theorem atom1_rep {Z Z' : Fzn} {ρ ρ' : Pls} {x : AV} {v : Value} (h : Rep Z ρ x v) (ha : atom1 x = true) : Rep Z' ρ' x v := by
 cases h with
 | v h => exact .v h
 | _ => cases ha
theorem atom1b_rep {Z Z' : Fzn} {ρ ρ' : Pls} {x : AV} {v : Value} (h : Rep Z ρ x v) (ha : atom1b x = true) : Rep Z' ρ' x v := by
 cases h with
 | v h => exact .v h
 | agg hl h => exact .agg hl fun i c v hc hv => atom1_rep (h i c v hc hv) (List.all_eq_true.1 (show List.all _ atom1 = true from ha) c (List.mem_of_getElem? hc))
 | _ => cases ha
theorem atomR_rep {Z Z' : Fzn} {ρ ρ' : Pls} {x : AV} {v : Value} (h : Rep Z ρ x v) (ha : atomR x = true) : Rep Z' ρ' x v := by
 cases h with
 | v h => exact .v h
 | agg hl h => exact .agg hl fun i c v hc hv => atom1b_rep (h i c v hc hv) (List.all_eq_true.1 (show List.all _ atom1b = true from ha) c (List.mem_of_getElem? hc))
 | tup hl h => exact .tup hl fun i c v hc hv => atom1b_rep (h i c v hc hv) (List.all_eq_true.1 (show List.all _ atom1b = true from ha) c (List.mem_of_getElem? hc))
 | _ => cases ha
theorem back_frozen {Z : Fzn} {ρ : Pls} {H : Heap} {w : World} (hs : Sim Z ρ H w) {R : AV} (hR : atomR R = true) {x : Value} {w' : World} (h : After (allZ w) noPls { objs := [],lock := 0 } w R { objs := [],lock := 0 } x w') : After Z ρ H w R H x w' := by
 obtain ⟨Z',ρ',h1,h2,h3⟩ := h
 have hsame : ∀ k,k < w.heap.size → w'.heap[k]? = w.heap[k]? := fun k hk => h3.frame k hk (start_own w k)
 refine ⟨Z,ρ,atomR_rep h1 hR,⟨fun b o hb hl => ?_,hs.inj,fun k o hk => ?_,hs.fresh,hs.lk,hs.lg⟩,⟨.refl _,.refl _,fun k hk _ => hsame k hk,fun _ _ h => h,h3.size,h3.os,h3.output,h3.tape,h3.drawn,h3.fz,rfl,fun _ _ => rfl,Nat.le_refl _,fun _ _ _ => rfl,fun _ _ _ => rfl,fun _ _ h _ => ⟨h,fun _ => rfl⟩⟩⟩
 ·obtain ⟨pl,obj,q1,q2,q3,q4⟩ := hs.objs b o hb hl
  exact ⟨pl,obj,q1,(hsame _ (Array.getElem?_eq_some_iff.1 q2).1).trans q2,q3,q4⟩
 ·have := hs.zok k o hk
  exact (hsame _ (Array.getElem?_eq_some_iff.1 this).1).trans this
theorem extOK_tab {C : Cfg} (hgo : NoGo C.P) (hm : C.P.follows .mixedOrders = true) (h0 : ExtOK C) {T : List Tell} (hT : AllG C T) {TH : List TellH} (hH : AllH C TH) : ExtOK (C.more2 (tabExt C.ext T) (tabExh C.exh T TH)) := by
 refine ⟨fun f g hf args v hv Z ρ H w vals hs hl => ?_,h0.lay,fun f g hf args v H hv Z ρ w vals hs hl => ?_⟩
 ·have hf' : (if tabHas T f then some (tabFn T f) else C.ext f) = some g := hf
  split at hf'
  ·simp only [Option.some.injEq] at hf'
   subst hf'
   obtain ⟨t,⟨⟨e,x,he,ha⟩,hb⟩,rfl,rfl,rfl⟩ := tabFn_some hT hv
   exact ext_of_ans (C := C.more2 e x) hgo hm he ha hb Z ρ H w vals hs hl
  ·exact h0.ext f g hf' args v hv Z ρ H w vals hs hl
 ·have hf' : (if tabHHas TH f || tabHas T f then some (tabX T TH f) else C.exh f) = some g := hf
  split at hf'
  ·simp only [Option.some.injEq] at hf'
   subst hf'
   unfold tabX at hv
   split at hv
   case h_2 =>
    unfold borH at hv
    split at hv
    ·rename_i l hfz
     split at hv
     ·rename_i R hR
      split at hv
      ·rename_i hat
       simp only [Option.some.injEq] at hv
       subst hv
       have hlz : RepL (allZ w) noPls l vals := (freeze_rep (ρ := noPls) (Z1 := Z) (Z2 := allZ w) (ρ1 := ρ) (H1 := { H with lock := 0 }) (w1 := w) ⟨hs.objs,hs.inj,hs.zok,hs.fresh,Nat.zero_le _,hs.lg⟩ (fun k o hk => hs.zok k o hk) (fun b o pl _ _ _ _ => rfl) (fun b v p hb _ => absurd hb (Nat.not_lt_zero _)) 100000).2 _ _ _ hfz hl
       obtain ⟨t,⟨⟨e,x,he,ha⟩,hb⟩,rfl,rfl,rfl⟩ := tabFn_some hT hR
       have hm1 := ext_of_ans (C := C.more2 e x) hgo hm he ha hb (allZ w) noPls { objs := [],lock := 0 } w vals (start_sim w (hs.lg.mono fun k o hk => hs.zok k o hk)) hlz
       rcases hm1 with ⟨y,w',h1,h2⟩ | ⟨h1,h2⟩
       ·exact Or.inl ⟨y,w',h1,back_frozen hs hat h2⟩
       ·exact Or.inr ⟨h1,Calls.mono' h2 fun en w' he => by
         obtain ⟨y,rfl,h3⟩ := he
         exact ⟨y,rfl,back_frozen hs hat h3⟩⟩
      ·cases hv
     ·cases hv
    ·cases hv
   rename_i v2 hv2
   simp only [Option.some.injEq] at hv
   subst hv
   obtain ⟨t,⟨⟨e,x,he,n,ha⟩,hb⟩,rfl,rfl,hG,rfl⟩ := tabH_some hH hv2
   have hrec : RecOK C.P (evT (C.more2 e x) n) := (ev_sound (C := C.more2 e x) hgo he (draw_ok hm he) n).1
   let D : Cfg := { C.more2 e x with pure := fun _ _ _ => true }
   have hk : callKind D t.f t.f none t.K = 2 := by
    simp only [Bool.or_eq_false_iff] at hb
    unfold callKind
    simp only [hb.1,hb.2,Bool.false_eq_true,if_false,if_true,D]
   have hB : callB D (evT (C.more2 e x) n) t.f t.f none t.K H = some (t.R,H) := by
    unfold callB;rw [hk]
    have h1 : ({ H with lock := H.size } : Heap) = { objs := t.G,lock := t.G.length } := by
     obtain ⟨objs,lock⟩ := H
     simp only at hG
     subst hG
     rfl
    have h2 : H.size = t.G.length := by unfold Heap.size;rw [hG]
    simp only
    rw [h1,h2]
    unfold ansH at ha
    split at ha
    ·rename_i v1 H1 h3
     rw [h3]
     simp only [ha,Option.map_some]
    ·cases ha
   obtain ⟨hbody,hc⟩ := callB_sound (C := D) hrec hs hl hB
   exact Or.inr ⟨hbody.run _ _,hc⟩
  ·exact h0.exh f g hf' args v H hv Z ρ w vals hs hl
def ansC (o : Option Out) : Option AV := match o with | some (.ret v H) => freezeV { H with lock := 0 } 1000000 v | _ => none
theorem ans_of_evC {C : Cfg} {n : Nat} {f : FuncId} {args : List AV} {v : AV} (h : ansC (evT C n (.call f args { objs := [],lock := 0 })) = some v) : Ans C f args v := by
 refine Ans.iff.2 ?_
 cases ho : evT C n (.call f args { objs := [],lock := 0 }) with
 | none => rw [ho] at h;cases h
 | some o =>
  rw [ho] at h
  cases o with
  | go => cases h
  | ret x H => exact ⟨x,H,lim_iff.2 ⟨n,ho⟩,h⟩
theorem goodC {C : Cfg} (hgo : NoGo C.P) (hm : C.P.follows .mixedOrders = true) (h0 : ExtOK C) {t : Tell} (T : List Tell) (hT : AllG C T) (TH : List TellH) (hH : AllH C TH) (n : Nat)
  (h : ansC (evT (C.more2 (tabExt C.ext T) (tabExh C.exh T TH)) n (.call t.f t.K { objs := [],lock := 0 })) = some t.R) (hb : boundL t.K = 0) : GoodC C t :=
 ⟨⟨_,_,extOK_tab hgo hm h0 hT hH,ans_of_evC h⟩,hb⟩
end Go.Ev
namespace Go.Ev
end Go.Ev
