/- What the proof of this claim stands on, part 1: an evaluator of the model, proved right, and what it answers for functions of the program. -/
import Derived.RangeFuncLeaves
import Derived.OrdersIn
import Derived.Laws.CopyRow
import Derived.ChangeKeysEq
import Derived.Laws.Strings
import Derived.Lib.UnsafeStr
set_option maxHeartbeats 8000000
set_option maxRecDepth 1000000
set_option linter.unusedSimpArgs false
namespace Go.Ev
inductive AV where
 | v (x : Value)
 | agg (cs : List AV)
 | tup (cs : List AV)
 | ro (x : AV) (k : Nat)
 | ptr (b ver k : Nat)
 | vs (sz : Nat) (xs : List AV) (cap : Option Nat)
 | sl (b ver off len : Nat) (cap : Option Nat)
 | mp (b : Nat)
 | fn (f : Fn) (first captured : List AV)
 | yld (b : Nat)
 | ifc (t : TypeId) (x : AV)
 deriving Inhabited
def AV.cells : AV → List AV
 | .agg cs => cs
 | x => [x]
mutual
def bound : AV → Nat
 | .v _ => 0
 | .ro _ _ => 0
 | .vs _ _ _ => 0
 | .agg cs => boundL cs
 | .tup cs => boundL cs
 | .ptr b _ _ => b + 1
 | .sl b _ _ _ _ => b + 1
 | .mp b => b + 1
 | .yld b => b + 1
 | .fn _ a b => Nat.max (boundL a) (boundL b)
 | .ifc _ x => bound x
def boundL : List AV → Nat
 | [] => 0
 | x :: r => Nat.max (bound x) (boundL r)
end
def AV.flat : AV → Bool
 | .agg _ | .tup _ => false
 | _ => true
def undefA : AV := .tup []
def atom : Value → Bool
 | .bool _ | .int _ _ | .float _ _ | .complex _ _ _ | .string _ | .pointer none | .slice none 0 0 | .map none | .chan none | .nilFunc | .nilIface => true
 | _ => false
def atoms : List Value → Option (List AV)
 | [] => some []
 | x :: r => if atom x then (atoms r).map (.v x :: ·) else none
def ofValue : Value → Option AV
 | .agg cs => (atoms cs.toList).map .agg
 | .tuple vs => if vs.toList.isEmpty then some (.tup []) else none
 | x => if atom x then some (.v x) else none
def toAtoms : List AV → Option (List Value)
 | [] => some []
 | .v x :: r => (toAtoms r).map (x :: ·)
 | _ :: _ => none
def toValue : AV → Option Value
 | .v x => some x
 | .agg cs => (toAtoms cs).map fun l => .agg l.toArray
 | _ => none
def runPure (P : Program) {α : Type} : Sem α → Option α
 | .pure a => some a
 | .program k => runPure P (k P)
 | .mark _ k => runPure P k
 | _ => none
structure ALoop where
 fn : FuncId
 state : LoopState
 pending : Option Code
 size : Nat
 tmps : List (Tmp × AV)
 params : Array Tmp
 assign : Code
 body : Code
 dfr : Nat
inductive AObj where
 | cells (ver m : Nat) (elem : TypeId) (sz : Nat) (grow : Bool) (cs : List AV)
 | map (m : Nat) (es : List (AV × AV × Nat)) (clock : Nat)
 | loop (l : ALoop)
 | iter (m : Nat) (seen : List Nat) (since last : Nat)
 | siter (s : ByteArray) (pos : Nat)
 | dfr
 | dead
def AObj.ver : AObj → Nat
 | .cells v _ _ _ _ _ => v
 | _ => 0
def AObj.live : AObj → Bool
 | .dead => false
 | _ => true
def AObj.bound : AObj → Nat
 | .cells _ m _ _ _ _ => m
 | .map m _ _ => m
 | .loop l => Nat.max (l.dfr + 1) (boundL (l.tmps.map (·.2)))
 | .iter m _ _ _ => m + 1
 | .siter _ _ => 0
 | .dfr => 0
 | .dead => 0
structure Heap where
 objs : List (Option AObj)
 lock : Nat
def Heap.get (H : Heap) (b : Nat) : Option AObj := (H.objs[b]?).join
def setOrPush {α : Type} (x : α) : Nat → List α → List α
 | _,[] => [x]
 | 0,_ :: r => x :: r
 | n + 1,y :: r => y :: setOrPush x n r
def Heap.put (H : Heap) (b : Nat) (o : AObj) : Heap := { H with objs := setOrPush (some o) b H.objs }
def Heap.row (H : Heap) (b ver : Nat) : Option (Nat × TypeId × Nat × Bool × List AV) :=
 match H.get b with
 | some (.cells v m e sz g cs) => if v = ver then some (m,e,sz,g,cs) else none
 | _ => none
def Heap.size (H : Heap) : Nat := H.objs.length
def assoc (t : Tmp) : List (Tmp × AV) → Option AV
 | [] => none
 | (k,v) :: r => if Nat.beq k t then some v else assoc t r
def setAssoc (t : Tmp) (v : AV) : List (Tmp × AV) → List (Tmp × AV)
 | [] => [(t,v)]
 | (k,x) :: r => if Nat.beq k t then (k,v) :: r else (k,x) :: setAssoc t v r
structure AAct where
 size : Nat
 tmps : List (Tmp × AV)
 marks : List Nat
def AAct.put (a : AAct) (dst : Option Tmp) (v : AV) : AAct :=
 match dst with
 | some d => if d < a.size then { a with tmps := setAssoc d v a.tmps } else a
 | none => a
def AAct.eval (a : AAct) : Operand → Option AV
 | .tmp t => assoc t a.tmps
 | .const v => ofValue v
 | .global _ => none
 | .func f => some (.fn (.func f) [] [])
def evals (a : AAct) : List Operand → Option (List AV)
 | [] => some []
 | x :: r => match a.eval x,evals a r with | some v,some vs => some (v :: vs) | _,_ => none
def memNat (n : Nat) : List Nat → Bool
 | [] => false
 | k :: r => Nat.beq k n || memNat n r
def AAct.only (a : AAct) (ks : List Tmp) : AAct :=
 { a with tmps := ks.filterMap fun k => (assoc k a.tmps).map fun v => (k,v) }
def boundsOk (n : Nat) : List (Option AObj) → Bool
 | [] => true
 | none :: r => boundsOk n r
 | some o :: r => Nat.ble o.bound n && boundsOk n r
def Heap.trim (H : Heap) (n : Nat) (vs : List AV) (marks : List Nat) : Heap :=
 if Nat.ble (boundL vs) n && marks.all (Nat.blt · n) && boundsOk n (H.objs.take n) && Nat.ble H.lock n then { H with objs := H.objs.take n } else H
inductive AExit where
 | normal
 | exit (id : Nat)
 | ret
inductive Task where
 | call (f : FuncId) (args : List AV) (H : Heap)
 | loop (fn : FuncId) (rd : Option Nat) (ks : List Tmp) (c : Code) (a : AAct) (H : Heap)
 | round (b : Nat) (args : List AV) (H : Heap)
inductive Out where
 | ret (v : AV) (H : Heap)
 | go (e : AExit) (a : AAct) (H : Heap)
structure Cfg where
 P : Program
 pure : FuncId → FuncId → Option Tmp → Bool
 alter : FuncId → Option Tmp → Bool
 keep : FuncId → List Tmp
 ext : FuncId → Option (List AV → Option AV)
 lay : FuncId → Option (List AV → Heap → Option (AV × Heap)) := fun _ => none
 exh : FuncId → Option (List AV → Heap → Option AV) := fun _ => none
 near : FuncId → Option Tmp → Bool := fun _ _ => false
 frz : FuncId → Option Tmp → Bool := fun _ _ => false
section ops
variable (P : Program)
def sizeT (t : TypeId) : Option Nat := (P.info? t).map (·.size)
def isAggT (t : TypeId) : Option Bool :=
 match P.underlying t with
 | some (.struct _) | some (.array _ _) => some true
 | some _ => some false
 | none => none
def zeroT (t : TypeId) : Option AV := match P.info? t with | some i => (i.zero).bind ofValue | none => none
def partOf (t : TypeId) (cs : List AV) (k : Nat) : Option AV :=
 match isAggT P t,sizeT P t with
 | some true,some n => if k + n ≤ cs.length then some (.agg ((cs.drop k).take n)) else none
 | some false,some _ => cs[k]?
 | _,_ => none
def loadA (H : Heap) (t : TypeId) : AV → Option AV
 | .ptr b v k => match H.row b v with | some (_,_,_,_,cs) => partOf P t cs k | _ => none
 | .ro x k => partOf P t x.cells k
 | _ => none
def splice (k : Nat) (xs cs : List AV) : List AV := cs.take k ++ xs ++ cs.drop (k + xs.length)
def storeCells (H : Heap) (b v k : Nat) (xs : List AV) : Option Heap :=
 match H.row b v with
 | some (m,e,sz,g,cs) => if H.lock ≤ b ∧ k + xs.length ≤ cs.length ∧ xs.all AV.flat = true then some (H.put b (.cells v (Nat.max m (boundL xs)) e sz g (splice k xs cs))) else none
 | _ => none
def storeA (H : Heap) (t : TypeId) (addr val : AV) : Option Heap :=
 match addr,sizeT P t with
 | .ptr b v k,some n => if val.cells.length = n then storeCells H b v k val.cells else none
 | _,_ => none
def fillA (place : Nat → Option (Nat × Nat)) (cells : List AV) : List (Nat × AV) → Option (List AV)
 | [] => some cells
 | (i,v) :: rest =>
  match place i with
  | none => none
  | some (off,size) => if v.cells.length = size ∧ off + size ≤ cells.length then fillA place (splice off v.cells cells) rest else none
def evalParts (a : AAct) : List (Nat × Operand) → Option (List (Nat × AV))
 | [] => some []
 | (i,x) :: r => match a.eval x,evalParts a r with | some v,some vs => some ((i,v) :: vs) | _,_ => none
def placesOf : List Field → Option (List (Nat × Nat))
 | [] => some []
 | f :: r => match sizeT P f.type,placesOf r with | some n,some ps => some ((f.offset,n) :: ps) | _,_ => none
def buildA (t : TypeId) (parts : List (Nat × AV)) : Option AV :=
 match zeroT P t,P.underlying t with
 | some z,some (.struct fs) => match placesOf P fs.toList with | some ps => (fillA (fun i => ps[i]?) z.cells parts).map .agg | none => none
 | some z,some (.array _ e) => match sizeT P e with | some n => (fillA (fun i => some (i * n,n)) z.cells parts).map .agg | none => none
 | _,_ => none
def repeatCells (z : List AV) : Nat → List AV
 | 0 => []
 | n + 1 => z ++ repeatCells z n
def chunk (sz : Nat) : Nat → List AV → List AV
 | 0,_ => []
 | n + 1,cs => (if sz = 1 then cs.headD undefA else .agg (cs.take sz)) :: chunk sz n (cs.drop sz)
def buildSliceA (mt : Bool) (H : Heap) (slot : Nat) (t : TypeId) (len : Nat) (parts : List (Nat × AV)) : Option (AV × Heap) :=
 match P.underlying t with
 | some (.slice e) =>
  match sizeT P e,zeroT P e with
  | some n,some z =>
   if len * n ≤ 65536 ∧ 0 < n ∧ z.cells.length = n then
    match fillA (fun i => some (i * n,n)) (repeatCells z.cells len) parts with
    | some cs => if cs.all AV.flat = false then none else if mt || !(Nat.beq (boundL cs) 0) then some (.sl slot 0 0 len (some len),H.put slot (.cells 0 (boundL cs) e n false cs)) else some (.vs n (chunk n len cs) (some len),H)
    | none => none
   else none
  | _,_ => none
 | _ => none
def makeSliceA (H : Heap) (slot : Nat) (t : TypeId) (len cap : AV) : Option (AV × Heap) :=
 match P.underlying t,len,cap with
 | some (.slice e),.v (.int .i64 l),.v (.int .i64 c) =>
  match P.info? e,zeroT P e with
  | some i,some z =>
   if 0 ≤ l ∧ l ≤ c ∧ (i.bytes : Int) * c ≤ 2 ^ 40 ∧ c ≤ 2 ^ 40 ∧ 0 < i.size ∧ z.cells.length = i.size ∧ z.cells.all AV.flat = true then
    some (.sl slot 0 0 l.toNat (some c.toNat),H.put slot (.cells 0 0 e i.size false (repeatCells z.cells c.toNat)))
   else none
  | _,_ => none
 | _,_,_ => none
def fieldAddrA (s : TypeId) (x : AV) (i : Nat) : Option AV :=
 match P.underlying s with
 | some (.struct fs) =>
  match fs[i]? with
  | some f =>
   match sizeT P f.type,x with
   | some (_ + 1),.ptr b v k => some (.ptr b v (k + f.offset))
   | some (_ + 1),.ro y k => some (.ro y (k + f.offset))
   | _,_ => none
  | none => none
 | _ => none
def fieldA (s : TypeId) (x : AV) (i : Nat) : Option AV :=
 match P.underlying s,x with
 | some (.struct fs),.agg cs =>
  match fs[i]? with
  | some f => partOf P f.type cs f.offset
  | none => none
 | _,_ => none
def indexAddrA (t : TypeId) (x ix : AV) : Option AV :=
 match P.underlying t,ix with
 | some (.array n e),.v (.int _ i) =>
  match sizeT P e,x with
  | some s,.ptr b v k => if 0 ≤ i ∧ i < (n : Int) then some (.ptr b v (k + i.toNat * s)) else none
  | some s,.ro y k => if 0 ≤ i ∧ i < (n : Int) then some (.ro y (k + i.toNat * s)) else none
  | _,_ => none
 | some (.slice e),.v (.int _ i) =>
  match sizeT P e,x with
  | some s,.sl b v off len _ => if 0 ≤ i ∧ i < (len : Int) then some (.ptr b v (off + i.toNat * s)) else none
  | some s,.vs sz xs _ => if 0 ≤ i ∧ i < (xs.length : Int) ∧ sz = s then (xs[i.toNat]?).map fun y => .ro y 0 else none
  | _,_ => none
 | _,_ => none
def strAt (s : ByteArray) (i : Nat) : Option UInt8 := s.data.toList[i]?
def indexA (t : TypeId) (x ix : AV) : Option AV :=
 match P.underlying t,x,ix with
 | some (.array n e),.agg cs,.v (.int _ i) =>
  match sizeT P e with
  | some s => if 0 ≤ i ∧ i < (n : Int) then partOf P e cs (i.toNat * s) else none
  | none => none
 | some .string,.v (.string s),.v (.int _ i) => if 0 ≤ i then (strAt s i.toNat).map fun b => .v (.int .u8 b.toNat) else none
 | _,_,_ => none
def boundA (o : Option AV) (dflt : Nat) (hi : Nat) : Option Nat :=
 match o with
 | none => some dflt
 | some (.v (.int _ i)) => if 0 ≤ i ∧ i ≤ (hi : Int) then some i.toNat else none
 | some _ => none
def capOf (mx : Option AV) (m l : Nat) (cap : Option Nat) : Option Nat :=
 match mx with
 | some _ => some (m - l)
 | none => cap.map (· - l)
def sliceA (H : Heap) (t : TypeId) (x : AV) (lo hi mx : Option AV) : Option AV :=
 if mx.isSome && hi.isNone then none else
 match P.underlying t,x with
 | some .string,.v (.string s) =>
  match mx with
  | some _ => none
  | none =>
   match boundA hi s.size s.size with
   | some h => match boundA lo 0 h with | some l => some (.v (.string (s.extract l h))) | none => none
   | none => none
 | some (.slice e),.v (.slice none 0 0) =>
  match boundA mx 0 0,boundA hi 0 0,boundA lo 0 0,sizeT P e with
  | some _,some _,some _,some _ => some x
  | _,_,_,_ => none
 | some (.slice e),.sl b v off len cap =>
  match sizeT P e,cap with
  | some s,some c =>
   match boundA mx c c with
   | some m =>
    match boundA hi len m with
    | some h => match boundA lo 0 h with | some l => (if m = l then some (.sl b v off 0 (some 0)) else some (.sl b v (off + l * s) (h - l) (some (m - l)))) | none => none
    | none => none
   | none => none
  | some s,none =>
   match mx with
   | none =>
    match boundA hi len len with
    | some h => match boundA lo 0 h with
     | some l => (if l = len then some (.vs s [] none) else match H.row b v with | some (_,_,sz,_,_) => if sz = s then some (.sl b v (off + l * s) (h - l) none) else none | none => none)
     | none => none
    | none => none
   | some _ =>
    match boundA mx 0 len with
    | some m =>
     match boundA hi len m with
     | some h => match boundA lo 0 h with | some l => (if m = l then some (.sl b v off 0 (some 0)) else some (.sl b v (off + l * s) (h - l) (some (m - l)))) | none => none
     | none => none
    | none => none
  | none,_ => none
 | some (.slice e),.vs sz xs cap =>
  match sizeT P e with
  | some s =>
   if sz = s then
    match boundA mx xs.length xs.length with
    | some m =>
     match boundA hi xs.length m with
     | some h => match boundA lo 0 h with | some l => some (.vs sz ((xs.take h).drop l) (capOf mx m l cap)) | none => none
     | none => none
    | none => none
   else none
  | none => none
 | some (.array n e),.ptr b v k =>
  match sizeT P e,boundA mx n n with
  | some s,some m =>
   match boundA hi n m with
   | some h => match boundA lo 0 h with | some l => (if m = l then some (.sl b v k 0 (some 0)) else some (.sl b v (k + l * s) (h - l) (some (m - l)))) | none => none
   | none => none
  | _,_ => none
 | _,_ => none
def bytesEq : List UInt8 → List UInt8 → Bool
 | [],[] => true
 | a :: x,b :: y => a.toNat == b.toNat && bytesEq x y
 | _,_ => false
def bytesLt : List UInt8 → List UInt8 → Bool
 | _,[] => false
 | [],_ :: _ => true
 | a :: x,b :: y => Nat.blt a.toNat b.toNat || (a.toNat == b.toNat && bytesLt x y)
def strOp (op : BinOp) (x y : ByteArray) : Option Value :=
 let a := x.data.toList
 let b := y.data.toList
 match op with
 | .add => if x.size + y.size ≤ 2 ^ 40 then some (.string (x ++ y)) else none
 | .eql => some (.bool (bytesEq a b))
 | .neq => some (.bool !(bytesEq a b))
 | .lss => some (.bool (bytesLt a b))
 | .leq => some (.bool (bytesLt a b || bytesEq a b))
 | .gtr => some (.bool !(bytesLt a b || bytesEq a b))
 | .geq => some (.bool !(bytesLt a b))
 | _ => none
def isNilA : Option TypeDesc → AV → Option Bool
 | some (.pointer _),.v (.pointer none) => some true
 | some (.pointer _),.ptr _ _ _ => some false
 | some (.pointer _),.ro _ _ => some false
 | some (.slice _),.v (.slice none 0 0) => some true
 | some (.slice _),.sl _ _ _ _ _ => some false
 | some (.slice _),.vs _ _ _ => some false
 | some (.map _ _),.v (.map none) => some true
 | some (.map _ _),.mp _ => some false
 | some (.func _ _ _),.v .nilFunc => some true
 | some (.func _ _ _),.fn _ _ _ => some false
 | some (.func _ _ _),.yld _ => some false
 | some (.interface _),.v .nilIface => some true
 | some (.interface _),.ifc _ _ => some false
 | _,_ => none
def nilEq (t : TypeId) (x y : AV) : Option Bool :=
 match isNilA (P.underlying t) x,isNilA (P.underlying t) y with
 | some true,some b => some b
 | some b,some true => some b
 | _,_ => none
def isConstO : Operand → Bool
 | .const _ => true
 | _ => false
def atomA : Option Value → Option AV
 | some x => if atom x then some (.v x) else none
 | none => none
def isEq : BinOp → Bool
 | .eql | .neq => true
 | _ => false
def binA (op : BinOp) (t : TypeId) (x y : Operand) (a b : AV) : Option AV :=
 match a,b with
 | .v (.string s),.v (.string u) => atomA (strOp op s u)
 | .v (.int k m),.v (.int k' n) => atomA (runPure P (binOp op t (.int k m) (.int k' n)))
 | .v (.bool u),.v (.bool w) => atomA (runPure P (binOp op t (.bool u) (.bool w)))
 | .agg us,.agg ws =>
  match toValue (.agg us),toValue (.agg ws) with
  | some u,some w => if isEq op && !(P.eqGuardType P.depth t) then atomA (runPure P (binOp op t u w)) else none
  | _,_ => none
 | _,_ =>
  if isConstO x || isConstO y then
   match op,nilEq P t a b with
   | .eql,some r => some (.v (.bool r))
   | .neq,some r => some (.v (.bool !r))
   | _,_ => none
  else none
def cellsFrom (H : Heap) (size : Nat) : AV → Option (Nat × List AV)
 | .v (.slice none 0 0) => some (0,[])
 | .vs sz xs _ => if sz = size then some (xs.length,xs.flatMap AV.cells) else none
 | .sl b v off len _ => match H.row b v with | some (_,_,_,_,cs) => if off + len * size ≤ cs.length then some (len,(cs.drop off).take (len * size)) else none | _ => none
 | .v (.string s) => if size = 1 then some (s.size,s.data.toList.map fun c => .v (.int .u8 c.toNat)) else none
 | _ => none
def fitsA (bytes need : Nat) : Bool := decide ((need + 1000) * bytes ≤ 2 ^ 40)
def madeA (H : Heap) (slot : Nat) (e : TypeId) (i : TypeInfo) (need : Nat) (old new : List AV) : Option (AV × Heap) :=
 if fitsA i.bytes need && old.all AV.flat then some (.sl slot 0 0 need none,H.put slot (.cells 0 (Nat.max (boundL old) (boundL new)) e i.size true (old ++ new))) else none
def appendTo (H : Heap) (slot : Nat) (e : TypeId) (i : TypeInfo) (n : Nat) (new : List AV) (s : AV) : Option (AV × Heap) :=
 match s with
 | .v (.slice none 0 0) => if n = 0 then some (s,H) else madeA H slot e i n [] new
 | .vs sz xs cap =>
  if sz ≠ i.size then none else
  if n = 0 then some (s,H) else
  match cap with
  | some c => if c = xs.length then madeA H slot e i (xs.length + n) (xs.flatMap AV.cells) new else none
  | none => none
 | .sl b v off len cap =>
  if n = 0 then some (s,H) else
  match H.row b v with
  | some (m,e1,sz,g,cs) =>
   match cap with
   | some c =>
    if len + n ≤ c then
     (match storeCells H b v (off + len * i.size) new with | some H' => some (.sl b v off (len + n) cap,H') | none => none)
    else if off + len * i.size ≤ cs.length then madeA H slot e i (len + n) ((cs.drop off).take (len * i.size)) new else none
   | none =>
    if sz ≠ i.size then none else
    if off + (len + n) * i.size ≤ cs.length then
     (match storeCells H b v (off + len * i.size) new with | some H' => some (.sl b v off (len + n) cap,H') | none => none)
    else if g = true ∧ off + len * i.size = cs.length ∧ H.lock ≤ b ∧ fitsA i.bytes (len + n) = true ∧ e1 = e then
     some (.sl b (v + 1) 0 (len + n) none,H.put b (.cells (v + 1) (Nat.max m (boundL new)) e i.size true (cs.drop off ++ new)))
    else none
  | _ => none
 | _ => none
def isIntT (t : TypeId) : Bool := match P.underlying t with | some (.int _) => true | some _ => false | none => true
def growA (H : Heap) (slot : Nat) (t u : TypeId) (s x : AV) : Option (AV × Heap) :=
 match P.underlying t,P.underlying u,s,x with
 | some (.slice e),some (.int _),.v (.slice none 0 0),.v (.int .i64 l) =>
  match P.info? e,zeroT P e with
  | some i,some z => if 0 < l ∧ i.size ≠ 0 ∧ i.bytes ≠ 0 ∧ z.cells.length = i.size ∧ z.cells.all AV.flat = true then madeA H slot e i l.toNat [] (repeatCells z.cells l.toNat) else none
  | _,_ => none
 | _,_,_,_ => none
def appendA (H : Heap) (slot : Nat) (ts : List TypeId) (args : List AV) : Option (AV × Heap) :=
 match ts,args with
 | [t,u],[s,x] =>
  if isIntT P u then growA P H slot t u s x else
  match P.underlying t with
  | some (.slice e) =>
   match P.info? e,zeroT P e with
   | some i,some z =>
    match cellsFrom H i.size x with
    | none => none
    | some (n,new) => if i.size = 0 ∨ i.bytes = 0 ∨ new.all AV.flat = false ∨ z.cells.length ≠ i.size then none else appendTo H slot e i n new s
   | _,_ => none
  | _ => none
 | _,_ => none
def copyA (H : Heap) (ts : List TypeId) (args : List AV) : Option (AV × Heap) :=
 match ts,args with
 | t :: _,[d,x] =>
  match P.underlying t with
  | some (.slice e) =>
   match sizeT P e,d with
   | some s,.sl b v off len _ =>
    match cellsFrom H s x with
    | some (n,new) =>
     (match storeCells H b v off (new.take (min n len * s)) with | some H' => some (.v (.int .i64 (min n len : Nat)),H') | none => none)
    | none => none
   | some s,.v (.slice none 0 0) => match cellsFrom H s x with | some _ => some (.v (.int .i64 0),H) | none => none
   | _,_ => none
  | _ => none
 | _,_ => none
def lenA (H : Heap) (ts : List TypeId) (args : List AV) : Option AV :=
 let n (k : Nat) : Option AV := some (.v (.int .i64 k))
 match ts,args with
 | t :: _,x :: _ =>
  match P.underlying t,x with
  | some .string,.v (.string s) => n s.size
  | some (.array k _),_ => n k
  | some (.pointer a),_ => match P.underlying a with | some (.array k _) => n k | _ => none
  | some (.slice _),.v (.slice none 0 0) => n 0
  | some (.slice _),.vs _ xs _ => n xs.length
  | some (.slice _),.sl _ _ _ len _ => n len
  | some (.map _ _),.v (.map none) => n 0
  | some (.map _ _),.mp b => match H.get b with | some (.map _ es _) => n es.length | _ => none
  | _,_ => none
 | _,_ => none
def capA (ts : List TypeId) (args : List AV) : Option AV :=
 match ts,args with
 | t :: _,x :: _ =>
  match P.underlying t,x with
  | some (.slice _),.v (.slice none 0 0) => some (.v (.int .i64 0))
  | some (.slice _),.sl _ _ _ _ (some c) => some (.v (.int .i64 (c : Nat)))
  | some (.array k _),_ => some (.v (.int .i64 (k : Nat)))
  | _,_ => none
 | _,_ => none
def minmax2 (mx : Bool) : AV → AV → Option AV
 | .v (.int k x),.v (.int _ y) => some (.v (.int k (if mx then (if y > x then y else x) else (if y < x then y else x))))
 | _,_ => none
def minmaxA (mx : Bool) : AV → List AV → Option AV
 | x,[] => some x
 | x,y :: r => match minmax2 mx x y with | some z => minmaxA mx z r | none => none
def keyEq (kt : TypeId) (x y : AV) : Option Bool :=
 match x,y with
 | .v (.int k a),.v (.int k' b) => if k = k' then some (a == b) else none
 | .v (.string a),.v (.string b) => some (bytesEq a.data.toList b.data.toList)
 | .v (.bool a),.v (.bool b) => some (a == b)
 | .agg us,.agg ws =>
  match toValue (.agg us),toValue (.agg ws) with
  | some u,some w => runPure P (Op.equal kt u w)
  | _,_ => none
 | _,_ => none
def findKeyA (kt : TypeId) (k : AV) : List (AV × AV × Nat) → Nat → Option (Option (Nat × AV))
 | [],_ => some none
 | (k',v,_) :: r,i =>
  match keyEq P kt k k' with
  | some true => some (some (i,v))
  | some false => findKeyA kt k r (i + 1)
  | none => none
def mapKeyOk (t : TypeId) (k : AV) : Option (TypeId × TypeId) :=
 match P.underlying t,k with
 | some (.map kt e),.v x =>
  match P.underlying kt,x with
  | some .string,.string _ => some (kt,e)
  | some (.int j),.int j' _ => if j = j' then some (kt,e) else none
  | some .bool,.bool _ => some (kt,e)
  | _,_ => none
 | some (.map kt e),.agg cs =>
  match P.underlying kt,toValue (.agg cs) with
  | some (.struct _),some u | some (.array _ _),some u =>
   match runPure P (Instr.checkKey true 10000 kt u),runPure P (Instr.checkKey false 10000 kt u) with
   | some _,some _ => some (kt,e)
   | _,_ => none
  | _,_ => none
 | _,_ => none
def mapOfA (H : Heap) (m : AV) : Option (List (AV × AV × Nat)) :=
 match m with
 | .v (.map none) => some []
 | .mp b => (match H.get b with | some (.map _ es _) => some es | _ => none)
 | _ => none
def lookupA (H : Heap) (t : TypeId) (m k : AV) (ok : Bool) : Option AV :=
 match mapKeyOk P t k with
 | none => none
 | some (kt,e) =>
  match mapOfA H m,zeroT P e with
  | some es,some z =>
   match findKeyA P kt k es 0 with
   | none => none
   | some (some (_,v)) => some (if ok then .tup [v,.v (.bool true)] else v)
   | some none => some (if ok then .tup [z,.v (.bool false)] else z)
  | _,_ => none
def setVal (k v : AV) : Nat → List (AV × AV × Nat) → List (AV × AV × Nat)
 | _,[] => []
 | 0,(_,_,c) :: r => (k,v,c) :: r
 | n + 1,x :: r => x :: setVal k v n r
def sameKey (x y : AV) : Bool :=
 match x,y with
 | .agg us,.agg ws =>
  match toValue (.agg us),toValue (.agg ws) with
  | some u,some w => Instr.sameBits 10000 u w
  | _,_ => false
 | _,_ => true
def updateA (H : Heap) (t : TypeId) (m k v : AV) : Option Heap :=
 match mapKeyOk P t k,m with
 | some (kt,_),.mp b =>
  match H.get b with
  | some (.map m es c) =>
   if H.lock ≤ b then
    match findKeyA P kt k es 0 with
    | some (some (i,_)) =>
     match es[i]? with
     | some (k',_,_) => if sameKey k' k then some (H.put b (.map (Nat.max m (bound v)) (setVal k v i es) c)) else none
     | none => none
    | some none => some (H.put b (.map (Nat.max m (bound v)) (es ++ [(k,v,c)]) (c + 1)))
    | none => none
   else none
  | _ => none
 | _,_ => none
def deleteA (H : Heap) (ts : List TypeId) (args : List AV) : Option Heap :=
 match ts,args with
 | t :: _,m :: k :: _ =>
  match mapKeyOk P t k,m with
  | some (kt,_),.mp b =>
   match H.get b with
   | some (.map m es c) =>
    if H.lock ≤ b then
     match findKeyA P kt k es 0 with
     | some (some (i,_)) => some (H.put b (.map m (es.eraseIdx i) c))
     | some none => some (H.put b (.map m es c))
     | none => none
    else none
   | _ => none
  | _,_ => none
 | _,_ => none
def rangeA (H : Heap) (slot : Nat) (t : TypeId) (x : AV) : Option (AV × Heap) :=
 match P.underlying t,x with
 | some (.map _ _),.mp b =>
  match H.get b with
  | some (.map _ _ clock) => some (.ptr slot 0 0,H.put slot (.iter b [] clock clock))
  | _ => none
 | some .string,.v (.string s) => some (.ptr slot 0 0,H.put slot (.siter s 0))
 | _,_ => none
def nextA (H : Heap) (x : AV) : Option (AV × Heap) :=
 match x with
 | .ptr r 0 0 =>
  match H.get r with
  | some (.iter b seen since last) =>
   match H.get b with
   | some (.map _ es clock) =>
    if Nat.ble H.lock r && !(!seen.isEmpty && !es.isEmpty && es.all fun e => Nat.ble last e.2.2) then
     match es.filter fun e => !(seen.contains e.2.2) with
     | [] => some (.tup [.v (.bool false)],H)
     | [(k,v,n)] => if Nat.blt n since then some (.tup [.v (.bool true),k,v],H.put r (.iter b (seen ++ [n]) since clock)) else none
     | _ => none
    else none
   | _ => none
  | _ => none
 | _ => none
def nextSA (H : Heap) (x : AV) : Option (AV × Heap) :=
 match x with
 | .ptr r 0 0 =>
  match H.get r with
  | some (.siter s pos) =>
   if Nat.ble H.lock r then
    match s.data[pos]? with
    | some b => if Nat.blt b.toNat 128 then some (.tup [.v (.bool true),.v (.int .i64 pos),.v (.int .i32 b.toNat)],H.put r (.siter s (pos + 1))) else none
    | none => some (.tup [.v (.bool false)],H)
   else none
  | _ => none
 | _ => none
def entryA (H : Heap) (x : AV) : Option AV :=
 match x with
 | .ptr r 0 0 =>
  match H.get r with
  | some (.iter b seen _ last) =>
   match H.get b,seen.getLast? with
   | some (.map _ es clock),some s =>
    if clock = last then
     match es.find? fun e => e.2.2 == s with
     | some (k,v,_) => some (.tup [k,v])
     | none => none
    else none
   | _,_ => none
  | _ => none
 | _ => none
def clearA (H : Heap) (ts : List TypeId) (args : List AV) : Option Heap :=
 match ts,args with
 | t :: _,d :: _ =>
  match P.underlying t with
  | some (.slice e) =>
   match sizeT P e,zeroT P e,d with
   | some s,some z,.sl b v off len _ => if 0 < len then (if z.cells.length = s then storeCells H b v off (repeatCells z.cells len) else none) else some H
   | some _,some _,.v (.slice none 0 0) => some H
   | _,_,_ => none
  | _ => none
 | _,_ => none
def bytesV : List AV → Option (List UInt8)
 | [] => some []
 | .v (.int .u8 n) :: r => if 0 ≤ n ∧ n < 256 then (match bytesV r with | some l => some (n.toNat.toUInt8 :: l) | none => none) else none
 | _ => none
def sliceDataA (args : List AV) : Option AV :=
 match args with
 | [.v (.slice none 0 0)] => some (.v (.pointer none))
 | [.sl b v off len _] => if 0 < len then some (.ptr b v off) else none
 | _ => none
def unsafeStrA (H : Heap) (ts : List TypeId) (args : List AV) : Option (AV × Heap) :=
 match ts,args with
 | [_,_],[.v (.pointer none),.v (.int .i64 n)] => if n = 0 then some (.v (.string ⟨#[]⟩),H) else none
 | [pt,_],[.ptr b v k,.v (.int .i64 n)] =>
  match P.underlying pt,H.row b v with
  | some (.pointer e),some (_,e',_,_,cs) =>
   if e = e' ∧ H.lock ≤ b ∧ 0 < n ∧ n < 4611686018427387904 ∧ k + n.toNat ≤ cs.length ∧ P.cellsOf e = 1 then
    match bytesV ((cs.drop k).take n.toNat) with
    | some l => some (.v (.string ⟨l.toArray⟩),H.put b .dead)
    | none => none
   else none
  | _,_ => none
 | _,_ => none
end ops
mutual
def freezeV (H : Heap) : Nat → AV → Option AV
 | 0,_ => none
 | n + 1,x =>
  match x with
  | .v _ | .ro _ _ | .vs _ _ _ => some x
  | .agg cs => (freezeL H n cs).map .agg
  | .tup cs => (freezeL H n cs).map .tup
  | .ptr b v k =>
   if b < H.lock then some x else
   match H.row b v with
   | some (_,_,_,_,cs) =>
    match freezeL H n cs with
    | some cs => if boundL cs = 0 then some (.ro (.agg cs) k) else none
    | none => none
   | _ => none
  | .sl b v off len _ =>
   if b < H.lock then some x else
   match H.row b v with
   | some (m,_,sz,_,cs) =>
    if off + len * sz ≤ cs.length ∧ 0 < sz then
     if m = 0 then some (.vs sz (chunk sz len ((cs.drop off).take (len * sz))) none)
     else
      match freezeL H n ((cs.drop off).take (len * sz)) with
      | some cs => if boundL cs = 0 then some (.vs sz (chunk sz len cs) none) else none
      | none => none
    else none
   | _ => none
  | .mp b => if b < H.lock then some x else none
  | .yld b => if b < H.lock then some x else none
  | .fn f first cap => match freezeL H n first,freezeL H n cap with | some a,some b => some (.fn f a b) | _,_ => none
  | .ifc t y => (freezeV H n y).map (.ifc t)
def freezeL (H : Heap) : Nat → List AV → Option (List AV)
 | 0,_ => none
 | _ + 1,[] => some []
 | n + 1,x :: r => match freezeV H n x,freezeL H n r with | some y,some ys => some (y :: ys) | _,_ => none
end
def yieldedA (ops : Array Oper) (a : AAct) (j : Nat) : Option (Option Bool) :=
 match (ops[j]?).bind (·.dst) with
 | some d => match assoc d a.tmps with | some (.v (.bool b)) => some (some b) | some (.tup []) => some none | _ => none
 | none => some none
def wantedA (ops : Array Oper) (a : AAct) (o : Oper) : Option Bool :=
 match o.guard with
 | none => some true
 | some (j,want) => match yieldedA ops a j with | some y => some (y == some want) | none => none
def noKept : Nat → Bool := fun _ => false
structure Foot where
 reads : Option (List Nat)
 writes : Option (List Nat)
 fresh : List Nat
 plain : Bool := false
 grows : Bool := false
 lim : Nat := 0
 loc : Bool := false
 kept : Nat → Bool := noKept
def objsOf : AV → List Nat
 | .ptr b _ _ => [b]
 | .sl b _ _ _ _ => [b]
 | .mp b => [b]
 | _ => []
section run
variable (C : Cfg)
def isYld : AV → Bool
 | .yld _ => true
 | _ => false
def callKind (me f : FuncId) (dst : Option Tmp) (args : List AV) : Nat :=
 if C.pure me f dst then (if Nat.beq (boundL args) 0 then 1 else if args.any isYld then 0 else 2) else 0
def callB (rec : Task → Option Out) (me f : FuncId) (dst : Option Tmp) (args : List AV) (H : Heap) : Option (AV × Heap) :=
 match callKind C me f dst args with
 | 1 =>
  match rec (.call f args { objs := [],lock := 0 }) with
  | some (.ret v H') => (freezeV { H' with lock := 0 } 1000000 v).map fun v => (v,H)
  | _ => none
 | 2 =>
  match rec (.call f args { H with lock := H.size }) with
  | some (.ret v H') => (freezeV { H' with lock := H.size } 1000000 v).map fun v => (v,H)
  | _ => none
 | _ =>
  match rec (.call f args H) with
  | some (.ret v H') => some (v,H'.trim H.size [v] [])
  | _ => none
def standA (f : FuncId) (args : List AV) : Option AV := match C.ext f with | some g => g args | none => none
def standH (f : FuncId) (args : List AV) (H : Heap) : Option AV := match C.exh f with | some g => g args H | none => none
def callA (rec : Task → Option Out) (me f : FuncId) (dst : Option Tmp) (args : List AV) (H : Heap) : Option (AV × Heap) :=
 match standA C f args with
 | some v => some (v,H)
 | none => match standH C f args H with
  | some v => some (v,H)
  | none => callB C rec me f dst args H
def isNormalFn : Fn → Bool
 | .func _ => true
 | _ => false
def opA (rec : Task → Option Out) (me : FuncId) (o : Oper) (a : AAct) (H : Heap) (slot : Nat) : Option (Option AV × Heap) :=
 let P := C.P
 let val (x : Option AV) : Option (Option AV × Heap) := x.map fun v => (some v,H)
 let valH (x : Option (AV × Heap)) : Option (Option AV × Heap) := x.map fun v => (some v.1,v.2)
 let skip (x : Option Heap) : Option (Option AV × Heap) := x.map fun H => (none,H)
 match o.op with
 | .move x | .assign x => val (a.eval x)
 | .pick c x y => match a.eval c with | some (.v (.bool b)) => val (if b then a.eval x else a.eval y) | _ => none
 | .alloc e => match zeroT P e with | some z => if z.cells.all AV.flat = false then none else some (some (.ptr slot 0 0),H.put slot (.cells 0 0 e 1 false z.cells)) | none => none
 | .box e x => match a.eval x with | some v => if v.cells.all AV.flat = false then none else some (some (.ptr slot 0 0),H.put slot (.cells 0 (bound v) e 1 false v.cells)) | none => none
 | .build t ps => match evalParts a ps.toList with | some l => val (buildA P t l) | none => none
 | .buildSlice t n ps => match evalParts a ps.toList with | some l => valH (buildSliceA P (C.alter me o.dst) H slot t n l) | none => none
 | .load t x => match a.eval x with | some p => val (loadA P H t p) | none => none
 | .store t x y => match a.eval x,a.eval y with | some p,some v => skip (storeA P H t p v) | _,_ => none
 | .nilCheck x => match a.eval x with
  | some (.ptr b w k) => val (some (.ptr b w k))
  | some (.ro y k) => val (some (.ro y k))
  | some (.fn (.func f) s t) => val (some (.fn (.func f) s t))
  | some (.yld b) => val (some (.yld b))
  | some (.ifc t y) => val (some (.ifc t y))
  | _ => none
 | .binOp op t x y _ => match a.eval x,a.eval y with | some u,some w => val (binA P op t x y u w) | _,_ => none
 | .unOp op _ x => match a.eval x with | some (.v u) => val (atomA (runPure P (Op.unary op u))) | _ => none
 | .convert src dst x => match a.eval x with
  | some (.v (.int k n)) => val (atomA (runPure P (convert src dst (.int k n))))
  | some (.v (.string s)) => (match P.underlying src,P.underlying dst with | some _,some .string => val (some (.v (.string s))) | _,_ => none)
  | some (.vs _ xs _) => (match P.underlying src,P.underlying dst with | some (.slice e),some .string => (match P.underlying e,bytesV xs with | some (.int .u8),some (b :: l) => val (some (.v (.string ⟨(b :: l).toArray⟩))) | _,_ => none) | _,_ => none)
  | _ => none
 | .makeInterface t x => match a.eval x,P.underlying t with | some _,some (.interface _) => none | some v,some _ => val (some (.ifc t v)) | _,_ => none
 | .makeFunc f s t => match evals a s.toList,evals a t.toList with | some s,some t => if isNormalFn f then val (some (.fn f s t)) else none | _,_ => none
 | .makeMap _ none => some (some (.mp slot),H.put slot (.map 0 [] 0))
 | .makeSlice t l c => match a.eval l,a.eval c with | some l,some c => valH (makeSliceA P H slot t l c) | _,_ => none
 | .slice t x lo hi mx =>
  let look (b : Option Operand) : Option (Option AV) := match b with | none => some none | some y => (a.eval y).map some
  match a.eval x,look lo,look hi,look mx with
  | some v,some l,some h,some m => val (sliceA P H t v l h m)
  | _,_,_,_ => none
 | .fieldAddr s x i => match a.eval x with | some v => val (fieldAddrA P s v i) | none => none
 | .field s x i => match a.eval x with | some v => val (fieldA P s v i) | none => none
 | .indexAddr t x i => match a.eval x,a.eval i with | some v,some i => val (indexAddrA P t v i) | _,_ => none
 | .index t x i => match a.eval x,a.eval i with | some v,some i => val (indexA P t v i) | _,_ => none
 | .lookup t m k ok => match a.eval m,a.eval k with | some m,some k => val (lookupA P H t m k ok) | _,_ => none
 | .mapUpdate t m k v => match a.eval m,a.eval k,a.eval v with | some m,some k,some v => skip (updateA P H t m k v) | _,_,_ => none
 | .insert t m k v => match a.eval m,a.eval k,a.eval v with | some m,some k,some v => skip (updateA P H t m k v) | _,_,_ => none
 | .extract x i => match a.eval x with | some (.tup cs) => val cs[i]? | _ => none
 | .range t x => match a.eval x with | some m => valH (rangeA P H slot t m) | none => none
 | .next x s => match s,a.eval x with | false,some it => valH (nextA H it) | true,some it => valH (nextSA H it) | _,_ => none
 | .entry x => match a.eval x with | some it => val (entryA H it) | none => none
 | .call c =>
  match c.callee,evals a c.args.toList with
  | .builtin .append,some args => valH (appendA P H slot c.argTypes.toList args)
  | .builtin .copy,some args => valH (copyA P H c.argTypes.toList args)
  | .builtin .len,some args => val (lenA P H c.argTypes.toList args)
  | .builtin .cap,some args => val (capA P c.argTypes.toList args)
  | .builtin .min,some (x :: r) => val (minmaxA false x r)
  | .builtin .max,some (x :: r) => val (minmaxA true x r)
  | .builtin .delete,some args => (deleteA P H c.argTypes.toList args).map fun H => (some (.tup []),H)
  | .builtin .clear,some args => (clearA P H c.argTypes.toList args).map fun H => (some (.tup []),H)
  | .builtin .unsafeSliceData,some args => val (sliceDataA args)
  | .builtin .unsafeString,some args => valH (unsafeStrA P H c.argTypes.toList args)
  | .value g,some args =>
   match a.eval g with
   | some (.fn (.func f) first cap) => valH (callA C rec me f o.dst (first ++ args ++ cap) H)
   | some (.yld b) => (match rec (.round b args H) with | some (.ret v H') => some (some v,H') | _ => none)
   | _ => none
  | _,_ => none
 | _ => none
def objsO (a : AAct) (x : Operand) : List Nat := match a.eval x with | some v => objsOf v | none => []
def firstO (a : AAct) : List Operand → List Nat
 | x :: _ => objsO a x
 | [] => []
def footA (me : FuncId) (o : Oper) (a : AAct) (slot : Nat) : Foot :=
 let objs := objsO a
 match o.op with
 | .load _ x | .slice _ x _ _ _ => ⟨some (objs x),some [],[],false,false,0,false,noKept⟩
 | .store _ x _ => ⟨some (objs x),some (objs x),[],false,false,0,false,noKept⟩
 | .lookup _ m _ _ => ⟨some (objs m),some [],[],false,false,0,false,noKept⟩
 | .mapUpdate _ m _ _ | .insert _ m _ _ => ⟨some (objs m),some (objs m),[],false,false,0,false,noKept⟩
 | .alloc _ | .box _ _ | .buildSlice _ _ _ | .makeSlice _ _ _ | .makeMap _ _ => ⟨some [],some [],[slot],false,false,0,false,noKept⟩
 | .range _ _ | .next _ _ | .entry _ => ⟨none,none,[],false,false,0,false,noKept⟩
 | .call c =>
  match c.callee with
  | .builtin .append => ⟨some (c.args.toList.flatMap objs),some (firstO a c.args.toList),[slot],false,false,0,false,noKept⟩
  | .builtin .copy => ⟨some (c.args.toList.flatMap objs),some (firstO a c.args.toList),[],false,false,0,false,noKept⟩
  | .builtin .delete => ⟨some (c.args.toList.flatMap objs),some (firstO a c.args.toList),[],false,false,0,false,noKept⟩
  | .builtin .clear => ⟨some (c.args.toList.flatMap objs),some (firstO a c.args.toList),[],false,false,0,false,noKept⟩
  | .builtin .unsafeString => ⟨some (c.args.toList.flatMap objs),some (firstO a c.args.toList),[],false,false,0,false,noKept⟩
  | .builtin .len => ⟨some (c.args.toList.flatMap objs),some [],[],false,false,0,false,noKept⟩
  | .builtin _ => ⟨some [],some [],[],false,false,0,false,noKept⟩
  | .value g =>
   match a.eval g,evals a c.args.toList with
   | some (.fn (.func f) first cap),some args => if (standA C f (first ++ args ++ cap)).isSome then ⟨some [],some [],[],false,false,0,false,noKept⟩ else match callKind C me f o.dst (first ++ args ++ cap) with | 1 => ⟨some [],some [],[],false,false,0,false,noKept⟩ | 2 => ⟨none,some [],[],false,false,0,false,noKept⟩ | _ => ⟨none,none,[],false,false,0,false,noKept⟩
   | _,_ => ⟨none,none,[],false,false,0,false,noKept⟩
  | _ => ⟨none,none,[],false,false,0,false,noKept⟩
 | _ => ⟨some [],some [],[],false,false,0,false,noKept⟩
def meet (x y : Option (List Nat)) : Bool :=
 match x,y with
 | some [],_ => false
 | _,some [] => false
 | some l,some m => l.any m.contains
 | _,_ => true
def keptAll (x : Foot) : Option (List Nat) → Bool
 | some l => l.all x.kept
 | none => false
def below (n : Nat) : Option (List Nat) → Bool
 | some l => l.all fun b => Nat.blt b n
 | none => false
def clash (x y : Foot) : Bool :=
 (meet x.writes y.reads && !(keptAll x y.reads)) || meet x.writes y.writes || (meet x.reads y.writes && !(keptAll y x.reads)) || meet (some x.fresh) y.reads || meet (some x.fresh) y.writes || (x.grows && !(y.plain || (y.loc && below x.lim y.reads))) || (y.grows && !(x.plain || (x.loc && below y.lim x.reads)))
def waits (acc : List Nat) (o : Oper) : Nat :=
 o.after.toList.foldl (fun s e => if Region.binds .any e then s ||| 2 ^ e.on ||| acc.getD e.on 0 else s) 0
def waitsAll (ops : List Oper) : List Nat := ops.foldl (fun acc o => acc ++ [waits acc o]) []
def freeOf (feet : List (Foot)) (w : Nat) (me : Foot) : Nat → Bool
 | 0 => true
 | k + 1 => (w.testBit k || (match feet[k]? with | some f => !clash f me | none => false)) && freeOf feet w me k
def stepA (rec : Task → Option Out) (me : FuncId) (ops : Array Oper) (o : Oper) (a : AAct) (H : Heap) (slot : Nat) : Option (AAct × Heap) :=
 match wantedA ops a o with
 | some true =>
  match opA C rec me o a H slot with
  | some (some v,H') => some (a.put o.dst v,H')
  | some (none,H') => some (a.put o.dst undefA,H')
  | none => none
 | some false => some (a.put o.dst undefA,H)
 | none => none
def stepZ (rec : Task → Option Out) (me : FuncId) (ops : Array Oper) (o : Oper) (a : AAct) (H : Heap) : Option (AAct × Heap) :=
 if C.frz me o.dst then
  match wantedA ops a o with
  | some true =>
   match opA C rec me o a { H with lock := H.size } H.size with
   | some (some v,H1) => (freezeV { H1 with lock := H.size } 1000000 v).map fun v => (a.put o.dst v,H)
   | _ => none
  | some false => some (a.put o.dst undefA,H)
  | none => none
 else stepA C rec me ops o a H H.size
def seqA (rec : Task → Option Out) (me : FuncId) (ops : Array Oper) : List Oper → AAct → Heap → Option (AAct × Heap)
 | [],a,H => some (a,H)
 | o :: r,a,H =>
  match stepZ C rec me ops o a H with
  | some (a',H') => seqA rec me ops r a' H'
  | none => none
def noFoot : Foot := { reads := some [],writes := some [],fresh := [],plain := true }
def Foot.idle (f : Foot) : Bool := match f.writes with | some [] => f.fresh.isEmpty | _ => false
def plainO (o : Oper) : Bool :=
 match o.op with
 | .move _ | .assign _ | .pick .. | .build .. | .nilCheck _ | .binOp .. | .unOp .. | .convert .. | .makeInterface .. | .makeFunc .. | .fieldAddr .. | .field .. | .indexAddr .. | .index .. | .extract .. => true
 | _ => false
def visB (base top w slot : Nat) (ft : Foot) (b : Nat) : Bool :=
 Nat.beq b slot || ((Nat.blt b base || Nat.ble top b || w.testBit (b - base)) && (match ft.reads with | none => true | some l => l.any (Nat.beq b)))
def hideFrom (vis : Nat → Bool) : Nat → List (Option AObj) → List (Option AObj)
 | _,[] => []
 | i,o :: r => (if vis i then o else some .dead) :: hideFrom vis (i + 1) r
def Heap.hide (H : Heap) (vis : Nat → Bool) : Heap := { H with objs := hideFrom vis 0 H.objs }
def mergeFrom (vis : Nat → Bool) : Nat → List (Option AObj) → List (Option AObj) → List (Option AObj)
 | _,[],ys => ys
 | i,x :: r,[] => x :: mergeFrom vis (i + 1) r []
 | i,x :: r,y :: s => (if vis i then y else x) :: mergeFrom vis (i + 1) r s
def Heap.merge (H : Heap) (vis : Nat → Bool) (H1 : Heap) : Heap := { H with objs := mergeFrom vis 0 H.objs H1.objs }
def eqVQ : Value → Value → Bool
 | .int k n,.int k' n' => decide (k = k') && decide (n = n')
 | .bool a,.bool b => a == b
 | .string a,.string b => bytesEq a.data.toList b.data.toList
 | .slice none 0 0,.slice none 0 0 => true
 | _,_ => false
def eqLQ (f : AV → AV → Bool) : List AV → List AV → Bool
 | [],[] => true
 | x :: r,y :: s => f x y && eqLQ f r s
 | _,_ => false
def eqCQ : Option Nat → Option Nat → Bool
 | none,none => true
 | some k,some k' => Nat.beq k k'
 | _,_ => false
def eqSQ (rec : AV → AV → Bool) (x y : AV) : Bool :=
 match x,y with
 | .v x,.v y => eqVQ x y
 | .agg a,.agg b => eqLQ rec a b
 | .vs s a c,.vs s' a' c' => Nat.beq s s' && eqLQ rec a a' && eqCQ c c'
 | .sl b v o l c,.sl b' v' o' l' c' => Nat.beq b b' && Nat.beq v v' && Nat.beq o o' && Nat.beq l l' && eqCQ c c'
 | .ptr b v k,.ptr b' v' k' => Nat.beq b b' && Nat.beq v v' && Nat.beq k k'
 | .mp b,.mp b' => Nat.beq b b'
 | _,_ => false
def eqQ (n : Nat) : AV → AV → Bool := Nat.rec (fun _ _ => false) (fun _ rec => eqSQ rec) n
def sameO : Option AObj → Option AObj → Bool
 | none,none => true
 | some .dead,some .dead => true
 | some (.cells v m e sz g cs),some (.cells v' m' e' sz' g' cs') => Nat.beq v v' && Nat.beq m m' && Nat.beq e e' && Nat.beq sz sz' && (g == g') && eqLQ (eqQ 12) cs cs'
 | _,_ => false
def locOp (op : Op) : Bool :=
 match op with
 | .load _ _ | .store _ _ _ | .alloc _ | .box _ _ | .buildSlice _ _ _ | .lookup _ _ _ _ | .mapUpdate _ _ _ _ => true
 | .call c => match c.callee with | .builtin .append => true | .builtin .unsafeString => true | .builtin .unsafeSliceData => true | _ => false
 | _ => false
def locF (op : Op) (vis : Nat → Bool) (ft : Foot) : Bool := locOp op && (match ft.reads with | some l => l.all vis | none => false)
def footN (near : Bool) (op : Op) (vis : Nat → Bool) (ft : Foot) (H H1 : Heap) : Foot :=
 if near then (if locF op vis ft then { ft with loc := true } else { ft with kept := fun b => sameO (H.get b) (H1.get b),lim := H.size }) else ft
def footI (near : Bool) (op : Op) (vis : Nat → Bool) (ft : Foot) : Foot :=
 if near then (if locF op vis ft then { ft with loc := true } else ft) else ft
def stepD (rec : Task → Option Out) (me : FuncId) (ops : Array Oper) (ws : List Nat) (base top i : Nat) (o : Oper) (a : AAct) (H : Heap) : Option (Foot × AAct × Heap) :=
 match wantedA ops a o with
 | some true =>
  if plainO o then
   match opA C rec me o a H (base + i) with
   | some (r,_) => some (noFoot,a.put o.dst (r.getD undefA),H)
   | none => none
  else
   match opA C rec me o a (H.hide (visB base top (ws.getD i 0) (base + i) (footA C me o a (base + i)))) (base + i) with
   | some (r,H1) =>
    if (footA C me o a (base + i)).idle then some (footI (C.near me o.dst) o.op (visB base top (ws.getD i 0) (base + i) (footA C me o a (base + i))) (footA C me o a (base + i)),a.put o.dst (r.getD undefA),H)
    else if Nat.ble H.size H1.size then
     some ({ footN (C.near me o.dst) o.op (visB base top (ws.getD i 0) (base + i) (footA C me o a (base + i))) (footA C me o a (base + i)) (H.hide (visB base top (ws.getD i 0) (base + i) (footA C me o a (base + i)))) H1 with grows := !(Nat.beq H1.size H.size) },a.put o.dst (r.getD undefA),H.merge (visB base top (ws.getD i 0) (base + i) (footA C me o a (base + i))) H1)
    else none
   | none => none
 | some false => some (noFoot,a.put o.dst undefA,H)
 | none => none
def drawA (rec : Task → Option Out) (me : FuncId) (ops : Array Oper) (base top : Nat) (ws : List Nat) : List Oper → Nat → List Foot → AAct → Heap → Option (AAct × Heap)
 | [],_,_,a,H => some (a,H)
 | o :: r,i,feet,a,H =>
  match stepD C rec me ops ws base top i o a H with
  | some (ft,a',H') => if freeOf feet (ws.getD i 0) ft i then drawA rec me ops base top ws r (i + 1) (feet ++ [ft]) a' H' else none
  | none => none
def waitsOk (ws : List Nat) (n : Nat) : Bool := (List.range n).all fun i => Nat.blt (ws.getD i 0) (2 ^ i)
def maskT : List Nat → Nat
 | [] => 0
 | t :: r => Nat.lor (Nat.pow 2 t) (maskT r)
def maskD : Option Nat → Nat
 | some d => Nat.pow 2 d
 | none => 0
def rowsM (arr : Array Oper) : List Oper → List (Nat × Nat)
 | [] => []
 | o :: r => (maskT (o.looksAt arr),maskD o.dst) :: rowsM arr r
def okM (look dst w : Nat) : Nat → List (Nat × Nat) → Bool
 | _,[] => true
 | i,p :: r => (w.testBit i || (Nat.beq (Nat.land look p.2) 0 && Nat.beq (Nat.land dst p.1) 0 && Nat.beq (Nat.land dst p.2) 0)) && okM look dst w (i + 1) r
def apartM (ws : List Nat) : Nat → List (Nat × Nat) → List (Nat × Nat) → Bool
 | _,_,[] => true
 | j,prev,p :: r => okM p.1 p.2 (ws.getD j 0) 0 prev && apartM ws (j + 1) (prev ++ [p]) r
def regionA (rec : Task → Option Out) (me : FuncId) (ops : Array Oper) (draw : Bool) (a : AAct) (H : Heap) : Option (AAct × Heap) :=
 if draw then
  let l := ops.toList
  let ws := waitsAll l
  if apartM ws 0 [] (rowsM ops l) && waitsOk ws l.length then
   drawA C rec me ops H.size (H.size + l.length) ws l 0 [] a { H with objs := H.objs ++ List.replicate l.length none }
  else none
 else seqA C rec me ops ops.toList a H
def settle (me : FuncId) (n : Nat) (r : AAct × Heap) : AAct × Heap :=
 let ks := C.keep me
 ({ r.1 with tmps := r.1.tmps.filter fun x => memNat x.1 ks },if (r.2.objs.drop n).all Option.isNone then { r.2 with objs := r.2.objs.take n } else r.2)
def loopObj (H : Heap) (b : Nat) : Option ALoop := match H.get b with | some (.loop l) => some l | _ => none
def setTmps (n : Nat) : List (Tmp × AV) → List (Tmp × AV) → List (Tmp × AV)
 | t,[] => t
 | t,(d,v) :: r => setTmps n (if d < n then setAssoc d v t else t) r
def jumpOf : AExit → Option (Option Code)
 | .normal => some none
 | .ret => some (some .ret)
 | .exit id => some (some (.exit id))
def codeA (rec : Task → Option Out) (me : FuncId) (rd : Option Nat) : Code → AAct → Heap → Option (AExit × AAct × Heap)
 | .skip,a,H => some (.normal,a,H)
 | .label _,a,H => some (.normal,a,H)
 | .region _ ops draw,a,H => (regionA C rec me ops draw a H).map fun r => (.normal,(settle C me H.size r).1,(settle C me H.size r).2)
 | .seq x y,a,H =>
  match codeA rec me rd x a H with
  | some (.normal,a',H') => codeA rec me rd y a' H'
  | r => r
 | .cond c x y,a,H =>
  match a.eval c with
  | some (.v (.bool true)) => codeA rec me rd x a H
  | some (.v (.bool false)) => codeA rec me rd y a H
  | _ => none
 | .block id c,a,H =>
  match codeA rec me rd c a H with
  | some (.exit id',a',H') => some (if id' = id then .normal else .exit id',a',H')
  | r => r
 | .loop c,a,H => match rec (.loop me rd (a.tmps.map (·.1)) c a H) with | some (.go e a' H') => some (e,a',H') | _ => none
 | .exit id,a,H => some (.exit id,a,H)
 | .ret,a,H => some (.ret,a,H)
 | .scope c,a,H => codeA rec me rd c a H
 | .rangeFunc g ps assign body,a,H =>
  match rd,a.eval g with
  | none,some (.fn (.func f) first cap) =>
   let d := H.size
   let l := d + 1
   let H1 := (H.put d .dfr).put l (.loop { fn := me,state := .ready,pending := none,size := a.size,tmps := a.tmps,params := ps,assign := assign,body := body,dfr := d })
   match callB C rec me f none (first ++ [.yld l] ++ cap) H1 with
   | some (_,H2) =>
    match loopObj H2 l with
    | some r =>
     if r.state = .busy ∨ r.dfr ≠ d then none else
     let H3 := H2.put l .dead
     let a' := { a with marks := d :: a.marks }
     (match r.pending with
     | none => some (.normal,a',H3)
     | some .ret => some (.ret,a',H3)
     | some (.exit id) => some (.exit id,a',H3)
     | _ => none)
    | none => none
   | none => none
  | some l0,some (.fn (.func f) first cap) =>
   match loopObj H l0 with
   | none => none
   | some r0 =>
   let l := H.size
   let H1 := H.put l (.loop { fn := me,state := .ready,pending := none,size := a.size,tmps := a.tmps,params := ps,assign := assign,body := body,dfr := r0.dfr })
   match callB C rec me f none (first ++ [.yld l] ++ cap) H1 with
   | some (_,H2) =>
    match loopObj H2 l with
    | some r =>
     if r.state = .busy ∨ r.dfr ≠ r0.dfr then none else
     let H3 := H2.put l .dead
     (match r.pending with
     | none => some (.normal,a,H3)
     | some .ret => some (.ret,a,H3)
     | some (.exit id) => some (.exit id,a,H3)
     | _ => none)
    | none => none
   | none => none
  | _,_ => none
 | _,_,_ => none
def resultsA (a : AAct) (H : Heap) : List ResultVar → Option (List AV)
 | [] => some []
 | .tmp t :: r => match assoc t a.tmps,resultsA a H r with | some v,some vs => some (v :: vs) | _,_ => none
 | .cell t ty :: r => match (assoc t a.tmps).bind (loadA C.P H ty),resultsA a H r with | some v,some vs => some (v :: vs) | _,_ => none
def oneOf : List AV → AV
 | [v] => v
 | vs => .tup vs
def number : Nat → List AV → List (Tmp × AV)
 | _,[] => []
 | n,x :: r => (n,x) :: number (n + 1) r
def killAll : List Nat → Heap → Option Heap
 | [],H => some H
 | b :: r,H =>
  match H.get b with
  | some .dfr => if H.lock ≤ b then killAll r (H.put b .dead) else none
  | _ => none
def taskA (rec : Task → Option Out) : Task → Option Out
 | .call f args H =>
  match C.lay f with
  | some g => (g args H).map fun r => .ret r.1 r.2
  | none =>
  match C.P.funcs[f]? with
  | some fn =>
   match fn.body with
   | some c =>
    match codeA C rec f none c { size := args.length + (fn.ntmps - args.length),tmps := number 0 args,marks := [] } H with
    | some (.exit _,_,_) => none
    | some (_,a,H') =>
     (match killAll a.marks H' with
     | some H2 =>
      (match resultsA C a H2 fn.results.toList with
      | some vs => some (.ret (oneOf vs) H2)
      | none => none)
     | none => none)
    | none => none
   | none => none
  | none => none
 | .loop me rd ks c a H =>
  match codeA C rec me rd c a H with
  | some (.normal,a',H') =>
   let a2 := a'.only ks
   rec (.loop me rd ks c a2 (H'.trim H.size (a2.tmps.map (·.2)) a2.marks))
  | some (.exit id,a',H') =>
   let a2 := a'.only ks
   some (.go (.exit id) a2 (H'.trim H.size (a2.tmps.map (·.2)) a2.marks))
  | some (.ret,a',H') => some (.go .ret a' H')
  | none => none
 | .round b args H =>
  match loopObj H b with
  | some r =>
   if args.length = r.params.size ∧ H.lock ≤ b then
    match codeA C rec r.fn (some b) r.assign { size := r.size,tmps := setTmps r.size r.tmps (r.params.toList.zip args),marks := [] } H with
    | some (.normal,a1,H1) =>
     match loopObj H1 b with
     | some r1 =>
      if r1.state = .ready then
       match codeA C rec r.fn (some b) r.body a1 (H1.put b (.loop { r1 with state := .busy })) with
       | some (e,_,H3) =>
        (match loopObj H3 b,jumpOf e with
        | some r3,some j => some (.ret (.v (.bool j.isNone)) ((H3.put b (.loop { r3 with state := if j.isNone then .ready else .done,pending := j })).trim H.size [] []))
        | _,_ => none)
       | none => none
      else none
     | none => none
    | _ => none
   else none
  | none => none
end run
def evT (C : Cfg) (n : Nat) : Task → Option Out :=
 Nat.rec (fun _ => none) (fun _ rec => taskA C rec) n
end Go.Ev
namespace Go.Ev
structure Pl where
 blk : Nat
 base : Nat
 fin : Nat
 sz : Nat
abbrev Pls := Nat → Nat → Option Pl
def noPls : Pls := fun _ _ => none
abbrev Fzn := Nat → Option Obj
inductive Rep (Z : Fzn) : Pls → AV → Value → Prop
 | v {ρ : Pls} {x : Value} (h : atom x = true) : Rep Z ρ (.v x) x
 | agg {ρ : Pls} {cs : List AV} {vs : List Value} (hl : cs.length = vs.length) (h : ∀ (i : Nat) (c : AV) (v : Value),cs[i]? = some c → vs[i]? = some v → Rep Z ρ c v) : Rep Z ρ (.agg cs) (.agg vs.toArray)
 | tup {ρ : Pls} {cs : List AV} {vs : List Value} (hl : cs.length = vs.length) (h : ∀ (i : Nat) (c : AV) (v : Value),cs[i]? = some c → vs[i]? = some v → Rep Z ρ c v) : Rep Z ρ (.tup cs) (.tuple vs.toArray)
 | ro {ρ : Pls} {x : AV} {k blk : Nat} {arr : Array Value} {e : TypeId} {fz : Nat × Nat} {pre vs post : List Value} (hz : Z blk = some (.cells arr e fz))
   (ha : arr.toList = pre ++ vs ++ post) (hl : x.cells.length = vs.length) (h : ∀ (i : Nat) (c : AV) (v : Value),x.cells[i]? = some c → vs[i]? = some v → Rep Z noPls c v) :
   Rep Z ρ (.ro x k) (.pointer (some ⟨blk,pre.length + k,none⟩))
 | ptr {ρ : Pls} {b ver k : Nat} {pl : Pl} (h : ρ b ver = some pl) : Rep Z ρ (.ptr b ver k) (.pointer (some ⟨pl.blk,pl.base + k,none⟩))
 | vs {ρ : Pls} {sz : Nat} {xs : List AV} {cap : Option Nat} {c blk : Nat} {arr : Array Value} {e : TypeId} {fz : Nat × Nat} {pre vs post : List Value} (hz : Z blk = some (.cells arr e fz))
   (ha : arr.toList = pre ++ vs ++ post) (hs : ∀ x ∈ xs,x.cells.length = sz) (hl : (xs.flatMap AV.cells).length = vs.length)
   (h : ∀ (i : Nat) (c : AV) (v : Value),(xs.flatMap AV.cells)[i]? = some c → vs[i]? = some v → Rep Z noPls c v) (hc : ∀ k,cap = some k → c = k) (hle : xs.length ≤ c) :
   Rep Z ρ (.vs sz xs cap) (.slice (some ⟨blk,pre.length,none⟩) xs.length c)
 | vs0 {ρ : Pls} {sz : Nat} {cap : Option Nat} {c : Nat} {a : Addr} (hc : ∀ k,cap = some k → c = k) : Rep Z ρ (.vs sz [] cap) (.slice (some a) 0 c)
 | sl {ρ : Pls} {b ver off len c : Nat} {cap : Option Nat} {pl : Pl} (h : ρ b ver = some pl) (hc : ∀ k,cap = some k → c = k) (hn : cap = none → off + c * pl.sz = pl.fin) (hle : len ≤ c) :
   Rep Z ρ (.sl b ver off len cap) (.slice (some ⟨pl.blk,pl.base + off,none⟩) len c)
 | mp {ρ : Pls} {b : Nat} {pl : Pl} (h : ρ b 0 = some pl) : Rep Z ρ (.mp b) (.map (some pl.blk))
 | yld {ρ : Pls} {b : Nat} {pl : Pl} (h : ρ b 0 = some pl) : Rep Z ρ (.yld b) (.func (.yield pl.blk) #[] #[])
 | fn {ρ : Pls} {f : FuncId} {as bs : List AV} {us ws : List Value} (h1 : as.length = us.length) (h2 : bs.length = ws.length) (ha : ∀ (i : Nat) (c : AV) (v : Value),as[i]? = some c → us[i]? = some v → Rep Z ρ c v)
   (hb : ∀ (i : Nat) (c : AV) (v : Value),bs[i]? = some c → ws[i]? = some v → Rep Z ρ c v) : Rep Z ρ (.fn (.func f) as bs) (.func (.func f) us.toArray ws.toArray)
 | ifc {ρ : Pls} {t : TypeId} {x : AV} {v : Value} (h : Rep Z ρ x v) : Rep Z ρ (.ifc t x) (.iface t v)
def RepL (Z : Fzn) (ρ : Pls) (cs : List AV) (vs : List Value) : Prop :=
 cs.length = vs.length ∧ ∀ (i : Nat) (c : AV) (v : Value),cs[i]? = some c → vs[i]? = some v → Rep Z ρ c v
def leZ (Z Z' : Fzn) : Prop := ∀ k o,Z k = some o → Z' k = some o
def leP (ρ ρ' : Pls) : Prop := ∀ b v p,ρ b v = some p → ρ' b v = some p
theorem leZ.refl (Z : Fzn) : leZ Z Z := fun _ _ h => h
theorem leP.refl (ρ : Pls) : leP ρ ρ := fun _ _ _ h => h
theorem leZ.trans {Z Z' Z'' : Fzn} (h : leZ Z Z') (h' : leZ Z' Z'') : leZ Z Z'' := fun k o e => h' k o (h k o e)
theorem leP.trans {ρ ρ' ρ'' : Pls} (h : leP ρ ρ') (h' : leP ρ' ρ'') : leP ρ ρ'' := fun b v p e => h' b v p (h b v p e)
theorem leP_no (ρ : Pls) : leP noPls ρ := fun _ _ _ h => by simp [noPls] at h
theorem Rep.mono {Z Z' : Fzn} (hz : leZ Z Z') {ρ : Pls} {x : AV} {v : Value} (h : Rep Z ρ x v) : ∀ {ρ' : Pls},leP ρ ρ' → Rep Z' ρ' x v := by
 induction h with
 | v h => exact fun _ => .v h
 | agg hl h ih => exact fun hp => .agg hl fun i c v hc hv => ih i c v hc hv hp
 | tup hl h ih => exact fun hp => .tup hl fun i c v hc hv => ih i c v hc hv hp
 | ro hz' ha hl h ih => exact fun _ => .ro (hz _ _ hz') ha hl fun i c v hc hv => ih i c v hc hv (leP.refl _)
 | ptr h => exact fun hp => .ptr (hp _ _ _ h)
 | vs hz' ha hs hl h hc hle ih => exact fun _ => .vs (hz _ _ hz') ha hs hl (fun i c v hc hv => ih i c v hc hv (leP.refl _)) hc hle
 | vs0 hc => exact fun _ => .vs0 hc
 | sl h hc hn hle => exact fun hp => .sl (hp _ _ _ h) hc hn hle
 | mp h => exact fun hp => .mp (hp _ _ _ h)
 | yld h => exact fun hp => .yld (hp _ _ _ h)
 | fn h1 h2 ha hb iha ihb => exact fun hp => .fn h1 h2 (fun i c v hc hv => iha i c v hc hv hp) (fun i c v hc hv => ihb i c v hc hv hp)
 | ifc h ih => exact fun hp => .ifc (ih hp)
theorem boundL_le {n : Nat} : ∀ {l : List AV},boundL l ≤ n ↔ ∀ x ∈ l,bound x ≤ n
 | [] => by simp [boundL]
 | x :: r => by
  have ih := @boundL_le n r
  show Nat.max (bound x) (boundL r) ≤ n ↔ _
  rw [Nat.max_le,ih];simp
theorem bound_getElem {n : Nat} {l : List AV} (h : boundL l ≤ n) {i : Nat} {x : AV} (hx : l[i]? = some x) : bound x ≤ n :=
 boundL_le.1 h x (List.mem_of_getElem? hx)
theorem Rep.upto {Z : Fzn} {n : Nat} {ρ : Pls} {x : AV} {v : Value} (h : Rep Z ρ x v) : ∀ {ρ' : Pls},bound x ≤ n → (∀ b w p,b < n → ρ b w = some p → ρ' b w = some p) → Rep Z ρ' x v := by
 induction h with
 | v h => exact fun _ _ => .v h
 | agg hl h ih => exact fun hb hp => .agg hl fun i c v hc hv => ih i c v hc hv (bound_getElem (by simpa [bound] using hb) hc) hp
 | tup hl h ih => exact fun hb hp => .tup hl fun i c v hc hv => ih i c v hc hv (bound_getElem (by simpa [bound] using hb) hc) hp
 | ro hz' ha hl h ih => exact fun _ _ => .ro hz' ha hl h
 | ptr h => exact fun hb hp => .ptr (hp _ _ _ (by simp [bound] at hb;omega) h)
 | vs hz' ha hs hl h hc hle ih => exact fun _ _ => .vs hz' ha hs hl h hc hle
 | vs0 hc => exact fun _ _ => .vs0 hc
 | sl h hc hn hle => exact fun hb hp => .sl (hp _ _ _ (by simp [bound] at hb;omega) h) hc hn hle
 | mp h => exact fun hb hp => .mp (hp _ _ _ (by simp [bound] at hb;omega) h)
 | yld h => exact fun hb hp => .yld (hp _ _ _ (by simp [bound] at hb;omega) h)
 | fn h1 h2 ha hb' iha ihb =>
  intro ρ' hb hp
  have hb2 := Nat.max_le.1 (show Nat.max _ _ ≤ n from by simpa [bound] using hb)
  exact .fn h1 h2 (fun i c v hc hv => iha i c v hc hv (bound_getElem hb2.1 hc) hp) (fun i c v hc hv => ihb i c v hc hv (bound_getElem hb2.2 hc) hp)
 | ifc h ih => exact fun hb hp => .ifc (ih (by simpa [bound] using hb) hp)
theorem Rep.closed {Z : Fzn} {ρ ρ' : Pls} {x : AV} {v : Value} (h : Rep Z ρ x v) (hb : bound x = 0) : Rep Z ρ' x v :=
 h.upto (n := 0) (by omega) fun _ _ _ hb _ => by omega
theorem at_len {α β : Type} {l : List α} {m : List β} (h : l.length = m.length) {i : Nat} {c : α} (hi : l[i]? = some c) : ∃ v,m[i]? = some v :=
 ⟨m[i]'(h ▸ (List.getElem?_eq_some_iff.1 hi).1),List.getElem?_eq_getElem _⟩
section lists
variable {Z Z' : Fzn} {ρ ρ' : Pls} {cs ds : List AV} {vs ws : List Value}
theorem RepL.nil : RepL Z ρ [] [] := ⟨rfl,fun _ _ _ h => by simp at h⟩
theorem RepL.cons {c : AV} {v : Value} (h : Rep Z ρ c v) (hl : RepL Z ρ cs vs) : RepL Z ρ (c :: cs) (v :: vs) := by
 refine ⟨by simp [hl.1],fun i => ?_⟩
 cases i with
 | zero => intro c' v' hc hv;simp at hc hv;subst hc;subst hv;exact h
 | succ i => intro c' v' hc hv;exact hl.2 i c' v' (by simpa using hc) (by simpa using hv)
theorem RepL.uncons {c : AV} (h : RepL Z ρ (c :: cs) vs) : ∃ v ws,vs = v :: ws ∧ Rep Z ρ c v ∧ RepL Z ρ cs ws := by
 cases vs with
 | nil => have := h.1;simp at this
 | cons v ws => exact ⟨v,ws,rfl,h.2 0 c v rfl rfl,by have := h.1;simpa using this,fun i c' v' hc hv => h.2 (i + 1) c' v' (by simpa using hc) (by simpa using hv)⟩
theorem RepL.mono (h : RepL Z ρ cs vs) (hz : leZ Z Z') (hp : leP ρ ρ') : RepL Z' ρ' cs vs := ⟨h.1,fun i c v hc hv => (h.2 i c v hc hv).mono hz hp⟩
theorem RepL.upto {n : Nat} (h : RepL Z ρ cs vs) (hb : boundL cs ≤ n) (hp : ∀ b w p,b < n → ρ b w = some p → ρ' b w = some p) : RepL Z ρ' cs vs :=
 ⟨h.1,fun i c v hc hv => (h.2 i c v hc hv).upto (bound_getElem hb hc) hp⟩
theorem RepL.closed (h : RepL Z ρ cs vs) (hb : boundL cs = 0) : RepL Z ρ' cs vs :=
 ⟨h.1,fun i c v hc hv => (h.2 i c v hc hv).closed (Nat.le_zero.1 (bound_getElem (Nat.le_of_eq hb) hc))⟩
theorem RepL.take (n : Nat) (h : RepL Z ρ cs vs) : RepL Z ρ (cs.take n) (vs.take n) := by
 refine ⟨by simp [h.1],fun i c v hc hv => ?_⟩
 rw [List.getElem?_take] at hc hv
 split at hc
 ·rename_i hi;rw [if_pos hi] at hv;exact h.2 i c v hc hv
 ·cases hc
theorem RepL.drop (n : Nat) (h : RepL Z ρ cs vs) : RepL Z ρ (cs.drop n) (vs.drop n) := by
 refine ⟨by simp [h.1],fun i c v hc hv => ?_⟩
 rw [List.getElem?_drop] at hc hv
 exact h.2 _ c v hc hv
theorem RepL.append (h : RepL Z ρ cs vs) (h' : RepL Z ρ ds ws) : RepL Z ρ (cs ++ ds) (vs ++ ws) := by
 refine ⟨by simp [h.1,h'.1],fun i c v hc hv => ?_⟩
 by_cases hi : i < cs.length
 ·rw [List.getElem?_append_left hi] at hc;rw [List.getElem?_append_left (h.1 ▸ hi)] at hv;exact h.2 i c v hc hv
 ·rw [List.getElem?_append_right (by omega)] at hc;rw [List.getElem?_append_right (by have := h.1;omega)] at hv
  exact h'.2 _ c v hc (by rw [h.1];exact hv)
theorem RepL.get {i : Nat} {c : AV} (h : RepL Z ρ cs vs) (hc : cs[i]? = some c) : ∃ v,vs[i]? = some v ∧ Rep Z ρ c v := by
 have hi := (List.getElem?_eq_some_iff.1 hc).1
 exact ⟨vs[i]'(h.1 ▸ hi),List.getElem?_eq_getElem _,h.2 i c _ hc (List.getElem?_eq_getElem _)⟩
theorem RepL.splice (k : Nat) (h : RepL Z ρ cs vs) (h' : RepL Z ρ ds ws) : RepL Z ρ (splice k ds cs) (vs.take k ++ ws ++ vs.drop (k + ws.length)) := by
 unfold Ev.splice
 rw [← h'.1]
 exact ((h.take k).append h').append (h.drop _)
theorem RepL.agg (h : RepL Z ρ cs vs) : Rep Z ρ (.agg cs) (.agg vs.toArray) := .agg h.1 h.2
theorem RepL.tup (h : RepL Z ρ cs vs) : Rep Z ρ (.tup cs) (.tuple vs.toArray) := .tup h.1 h.2
end lists
theorem Rep.agg_inv {Z : Fzn} {ρ : Pls} {cs : List AV} {v : Value} (h : Rep Z ρ (.agg cs) v) : ∃ vs : List Value,v = .agg vs.toArray ∧ RepL Z ρ cs vs := by
 cases h with | agg hl h => exact ⟨_,rfl,hl,h⟩
theorem Rep.tup_inv {Z : Fzn} {ρ : Pls} {cs : List AV} {v : Value} (h : Rep Z ρ (.tup cs) v) : ∃ vs : List Value,v = .tuple vs.toArray ∧ RepL Z ρ cs vs := by
 cases h with | tup hl h => exact ⟨_,rfl,hl,h⟩
theorem Rep.v_inv {Z : Fzn} {ρ : Pls} {x v : Value} (h : Rep Z ρ (.v x) v) : v = x ∧ atom x = true := by cases h with | v h => exact ⟨rfl,h⟩
theorem Rep.cells {Z : Fzn} {ρ : Pls} {x : AV} {v : Value} (h : Rep Z ρ x v) : RepL Z ρ x.cells v.cells.toList := by
 have one : ∀ {x : AV} {v : Value},Rep Z ρ x v → RepL Z ρ [x] [v] := fun h => RepL.cons h RepL.nil
 have key : ∀ {x : AV} {v : Value},Rep Z ρ x v → (∀ cs,x ≠ .agg cs) → (∀ c,v ≠ .agg c) → RepL Z ρ x.cells v.cells.toList := by
  intro x v h hx hv
  have e1 : x.cells = [x] := by cases x <;> simp_all [AV.cells]
  have e2 : v.cells.toList = [v] := by cases v <;> simp_all [Value.cells]
  rw [e1,e2];exact one h
 cases h with
 | agg hl h => exact ⟨by simpa [AV.cells,Value.cells] using hl,by simpa [AV.cells,Value.cells] using h⟩
 | v h => exact key (.v h) (by simp) (by rintro c rfl;simp [atom] at h)
 | tup hl h => exact key (.tup hl h) (by simp) (by simp)
 | ro hz ha hl h => exact key (.ro hz ha hl h) (by simp) (by simp)
 | ptr h => exact key (.ptr h) (by simp) (by simp)
 | vs hz ha hs hl h hc hle => exact key (.vs hz ha hs hl h hc hle) (by simp) (by simp)
 | vs0 hc => exact key (.vs0 hc) (by simp) (by simp)
 | sl h hc hn hle => exact key (.sl h hc hn hle) (by simp) (by simp)
 | mp h => exact key (.mp h) (by simp) (by simp)
 | yld h => exact key (.yld h) (by simp) (by simp)
 | fn h1 h2 ha hb => exact key (.fn h1 h2 ha hb) (by simp) (by simp)
 | ifc h => exact key (.ifc h) (by simp) (by simp)
theorem Rep.flat {Z : Fzn} {ρ : Pls} {x : AV} {v : Value} (h : Rep Z ρ x v) (hf : x.flat = true) : v.oneCell' = true := by
 cases h <;> simp_all [AV.flat,Value.oneCell']
 rename_i h;cases v <;> simp_all [atom]
theorem atoms_rep {Z : Fzn} {ρ : Pls} : ∀ {l : List Value} {cs : List AV},atoms l = some cs → RepL Z ρ cs l
 | [],cs,h => by simp [atoms] at h;subst h;exact .nil
 | x :: r,cs,h => by
  simp only [atoms] at h
  split at h
  ·rename_i hx
   cases hr : atoms r with
   | none => simp [hr] at h
   | some ds => simp [hr] at h;subst h;exact .cons (.v hx) (atoms_rep hr)
  ·cases h
theorem ofValue_rep {Z : Fzn} {ρ : Pls} {x : Value} {a : AV} (h : ofValue x = some a) : Rep Z ρ a x := by
 unfold ofValue at h
 split at h
 ·rename_i cs
  cases hr : atoms cs.toList with
  | none => simp [hr] at h
  | some ds => simp [hr] at h;subst h;simpa using (atoms_rep (Z := Z) (ρ := ρ) hr).agg
 ·rename_i vs
  split at h
  ·rename_i he
   have : vs = #[] := by simpa using he
   subst this;simp at h;subst h
   exact .tup (cs := []) (vs := []) rfl (by simp)
  ·cases h
 ·split at h
  ·rename_i hx;simp at h;subst h;exact .v hx
  ·cases h
theorem toAtoms_rep {Z : Fzn} {ρ : Pls} : ∀ {cs : List AV} {l vs : List Value},toAtoms cs = some l → RepL Z ρ cs vs → vs = l
 | [],l,vs,h,hr => by simp [toAtoms] at h;subst h;have := hr.1;simp at this;exact List.length_eq_zero_iff.1 this.symm
 | c :: r,l,vs,h,hr => by
  obtain ⟨v,ws,rfl,hv,hw⟩ := hr.uncons
  cases c with
  | v x =>
   simp only [toAtoms] at h
   cases hx : toAtoms r with
   | none => simp [hx] at h
   | some m => simp [hx] at h;subst h;rw [toAtoms_rep hx hw,hv.v_inv.1]
  | _ => simp [toAtoms] at h
theorem toValue_rep {Z : Fzn} {ρ : Pls} {a : AV} {x v : Value} (h : toValue a = some x) (hr : Rep Z ρ a v) : v = x := by
 cases a with
 | v y => simp [toValue] at h;subst h;exact hr.v_inv.1
 | agg cs =>
  obtain ⟨vs,rfl,hl⟩ := hr.agg_inv
  simp only [toValue] at h
  cases hx : toAtoms cs with
  | none => simp [hx] at h
  | some m => simp [hx] at h;subst h;rw [toAtoms_rep hx hl]
 | _ => simp [toValue] at h
theorem runPure_run {P : Program} {α : Type} {s : Sem α} {a : α} (h : runPure P s = some a) (w : World) : s.run P w = .ok a w := by
 induction s generalizing a with
 | pure b => simp [runPure] at h;subst h;rfl
 | program k ih => exact ih P (by simpa [runPure] using h)
 | mark m k ih => exact ih (by simpa [runPure] using h)
 | _ => simp [runPure] at h
end Go.Ev
namespace Go.Ev
def RepO (Z : Fzn) (ρ : Pls) : AObj → Pl → Obj → Prop
 | .cells _ m e sz g cs,pl,.cells arr e' fz => (fz = (0,0) ∧ e' = e ∧ (g = false → pl.base = 0)) ∧ pl.sz = sz ∧ boundL cs ≤ m ∧ cs.all AV.flat = true ∧
   ∃ pre vs post : List Value,arr.toList = pre ++ vs ++ post ∧ pre.length = pl.base ∧ vs.length + post.length = pl.fin ∧ (g = false → post = []) ∧ RepL Z ρ cs vs
 | .map m es clock,_,.map ents c => c = clock ∧ (∀ e ∈ es,bound e.1 = 0 ∧ bound e.2.1 ≤ m) ∧ ents.toList.length = es.length ∧
   ∀ (i : Nat) (k v : AV) (n : Nat) (e : MapEntry),es[i]? = some (k,v,n) → ents.toList[i]? = some e → Rep Z ρ k e.key ∧ Rep Z ρ v e.val ∧ e.born = n
 | .loop l,_,.loop r => r.state = l.state ∧ r.pending = l.pending ∧ r.params = l.params ∧ r.assign = l.assign ∧ r.body = l.body ∧ r.tmps.size = l.size ∧
   (∀ (t : Tmp) (v : AV),assoc t l.tmps = some v → ∃ x,r.tmps[t]? = some x ∧ Rep Z ρ v x) ∧ ∃ pd,ρ l.dfr 0 = some pd ∧ r.defers = pd.blk
 | .iter m seen since last,pl,.mapIter (some k) since' seen' last' => pl.base = 0 ∧ since' = since ∧ seen'.toList = seen ∧ last' = last ∧ ∃ pm,ρ m 0 = some pm ∧ k = pm.blk
 | .siter s pos,pl,.stringIter s' pos' => pl.base = 0 ∧ s' = s ∧ pos' = pos
 | .dfr,_,.deferred d => d = some []
 | _,_,_ => False
def laidL : List (Nat × Array Value) := []
def laidOk (Z : Fzn) : Prop := ∀ p ∈ laidL,∃ e fz,Z p.1 = some (.cells p.2 e fz)
theorem laidOk.mono {Z Z' : Fzn} (h : laidOk Z) (hz : leZ Z Z') : laidOk Z' := fun p hp => let ⟨e,fz,h1⟩ := h p hp; ⟨e,fz,hz _ _ h1⟩
structure Sim (Z : Fzn) (ρ : Pls) (H : Heap) (w : World) : Prop where
 objs : ∀ b o,H.get b = some o → o.live = true → ∃ pl obj,ρ b o.ver = some pl ∧ w.heap[pl.blk]? = some obj ∧ RepO Z ρ o pl obj ∧ Z pl.blk = none
 inj : ∀ b b' o o' pl pl',H.get b = some o → o.live = true → H.get b' = some o' → o'.live = true → ρ b o.ver = some pl → ρ b' o'.ver = some pl' → pl.blk = pl'.blk → b = b'
 zok : ∀ k o,Z k = some o → w.heap[k]? = some o
 fresh : ∀ b v pl,ρ b v = some pl → ∃ o,H.get b = some o ∧ (o.live = true → v ≤ o.ver)
 lk : H.lock ≤ H.size
 lg : laidOk Z
def Own (ρ : Pls) (H : Heap) (k : Nat) : Prop := ∃ b o pl,H.lock ≤ b ∧ H.get b = some o ∧ o.live = true ∧ ρ b o.ver = some pl ∧ pl.blk = k
def slack : Bool := true
structure Ext (Z : Fzn) (ρ : Pls) (H : Heap) (w : World) (Z' : Fzn) (ρ' : Pls) (H' : Heap) (w' : World) : Prop where
 z : leZ Z Z'
 p : leP ρ ρ'
 frame : ∀ k,k < w.heap.size → ¬ Own ρ H k → w'.heap[k]? = w.heap[k]?
 own : ∀ k,k < w.heap.size → Own ρ' H' k → Own ρ H k
 size : w.heap.size ≤ w'.heap.size
 os : w'.os = w.os
 output : w'.output = w.output
 tape : w'.tape = w.tape
 drawn : slack = false → w.drawn ≤ w'.drawn
 fz : ∀ a : Addr,a.block < w.heap.size → ¬ Own ρ H a.block → w'.frozen? a = w.frozen? a
 lock : H'.lock = H.lock
 old : ∀ b,b < H.lock → H'.get b = H.get b
 hsz : H.size ≤ H'.size
 zf : ∀ k,k < w.heap.size → ¬ Own ρ H k → Z' k = Z k
 pold : ∀ b,b < H.lock → ∀ v,ρ' b v = ρ b v
 dd : ∀ b o,H.get b = some o → o.live = false → H'.get b = some o ∧ ∀ v,ρ' b v = ρ b v
theorem frozen_same {w w' : World} {a : Addr} (h : w'.heap[a.block]? = w.heap[a.block]?) : w'.frozen? a = w.frozen? a := by unfold World.frozen?;rw [h]
theorem Ext.refl (Z : Fzn) (ρ : Pls) (H : Heap) (w : World) : Ext Z ρ H w Z ρ H w :=
 ⟨.refl _,.refl _,fun _ _ _ => rfl,fun _ _ h => h,Nat.le_refl _,rfl,rfl,rfl,fun _ => Nat.le_refl _,fun _ _ _ => rfl,rfl,fun _ _ => rfl,Nat.le_refl _,fun _ _ _ => rfl,fun _ _ _ => rfl,fun _ _ h _ => ⟨h,fun _ => rfl⟩⟩
theorem Ext.trans {Z Z' Z'' : Fzn} {ρ ρ' ρ'' : Pls} {H H' H'' : Heap} {w w' w'' : World} (h : Ext Z ρ H w Z' ρ' H' w') (k : Ext Z' ρ' H' w' Z'' ρ'' H'' w'') : Ext Z ρ H w Z'' ρ'' H'' w'' :=
 ⟨h.z.trans k.z,h.p.trans k.p,fun i hi ho => (k.frame i (Nat.lt_of_lt_of_le hi h.size) fun ho' => ho (h.own i hi ho')).trans (h.frame i hi ho),fun i hi ho => h.own i hi (k.own i (Nat.lt_of_lt_of_le hi h.size) ho),
  Nat.le_trans h.size k.size,k.os.trans h.os,k.output.trans h.output,k.tape.trans h.tape,fun s => Nat.le_trans (h.drawn s) (k.drawn s),fun a ha ho => (k.fz a (Nat.lt_of_lt_of_le ha h.size) fun ho' => ho (h.own _ ha ho')).trans (h.fz a ha ho),k.lock.trans h.lock,
  fun b hb => (k.old b (h.lock ▸ hb)).trans (h.old b hb),Nat.le_trans h.hsz k.hsz,
  fun i hi ho => (k.zf i (Nat.lt_of_lt_of_le hi h.size) fun ho' => ho (h.own i hi ho')).trans (h.zf i hi ho),fun b hb v => (k.pold b (h.lock ▸ hb) v).trans (h.pold b hb v),
  fun b o hb ho => ⟨(k.dd b o (h.dd b o hb ho).1 ho).1,fun v => ((k.dd b o (h.dd b o hb ho).1 ho).2 v).trans ((h.dd b o hb ho).2 v)⟩⟩
theorem setOrPush_length {α : Type} (x : α) : ∀ (n : Nat) (l : List α),n ≤ l.length → l.length ≤ (setOrPush x n l).length
 | 0,[],_ => by simp [setOrPush]
 | 0,_ :: _,_ => by simp [setOrPush]
 | n + 1,[],h => by simp at h
 | n + 1,_ :: r,h => by have := setOrPush_length x n r (by simpa using h);simp [setOrPush,this]
theorem setOrPush_get {α : Type} (x : α) : ∀ (n : Nat) (l : List α) (i : Nat),n ≤ l.length → (setOrPush x n l)[i]? = if i = n then some x else l[i]?
 | 0,[],i,_ => by cases i <;> simp [setOrPush]
 | 0,_ :: _,i,_ => by cases i <;> simp [setOrPush]
 | n + 1,[],i,h => by simp at h
 | n + 1,y :: r,i,h => by
  cases i with
  | zero => simp [setOrPush]
  | succ i => simp [setOrPush,setOrPush_get x n r i (by simpa using h)]
theorem Heap.get_put (H : Heap) (b : Nat) (o : AObj) (hb : b ≤ H.size) (c : Nat) : (H.put b o).get c = if c = b then some o else H.get c := by
 unfold Heap.get Heap.put
 rw [setOrPush_get _ _ _ _ hb]
 split <;> simp
theorem Heap.size_put (H : Heap) (b : Nat) (o : AObj) (hb : b ≤ H.size) : H.size ≤ (H.put b o).size := setOrPush_length _ _ _ hb
theorem Heap.get_lt {H : Heap} {b : Nat} {o : AObj} (h : H.get b = some o) : b < H.size := by
 unfold Heap.get at h
 cases hx : H.objs[b]? with
 | none => simp [hx] at h
 | some y => exact (List.getElem?_eq_some_iff.1 hx).1
theorem Sim.of_heap {Z : Fzn} {ρ : Pls} {H : Heap} {w w' : World} (s : Sim Z ρ H w) (h : w'.heap = w.heap) : Sim Z ρ H w' :=
 ⟨by rw [h];exact s.objs,s.inj,by rw [h];exact s.zok,s.fresh,s.lk,s.lg⟩
def upd (ρ : Pls) (b v : Nat) (pl : Pl) : Pls := fun c u => if c = b ∧ u = v then some pl else ρ c u
theorem upd_self (ρ : Pls) (b v : Nat) (pl : Pl) : upd ρ b v pl b v = some pl := by simp [upd]
theorem leP_upd {ρ : Pls} {b v : Nat} {pl : Pl} (h : ρ b v = none ∨ ρ b v = some pl) : leP ρ (upd ρ b v pl) := by
 intro c u p hp
 unfold upd
 split
 ·rename_i hc
  obtain ⟨rfl,rfl⟩ := hc
  rcases h with h | h
  ·rw [h] at hp;cases hp
  ·rw [h] at hp;exact hp
 ·exact hp
theorem RepO.mono {Z Z' : Fzn} {ρ ρ' : Pls} {o : AObj} {pl : Pl} {obj : Obj} (h : RepO Z ρ o pl obj) (hz : leZ Z Z') (hp : leP ρ ρ') : RepO Z' ρ' o pl obj := by
 cases o <;> cases obj <;> simp only [RepO] at h ⊢
 ·obtain ⟨h1,h2,h3,hf,pre,vs,post,h4,h5,h6,h7,h8⟩ := h
  exact ⟨h1,h2,h3,hf,pre,vs,post,h4,h5,h6,h7,h8.mono hz hp⟩
 ·obtain ⟨h1,h2,h3,h4⟩ := h
  exact ⟨h1,h2,h3,fun i k v n e he he' => let ⟨a,b,c⟩ := h4 i k v n e he he'; ⟨a.mono hz hp,b.mono hz hp,c⟩⟩
 ·obtain ⟨h1,h2,h3,h4,h5,h6,h7,pd,h8,h9⟩ := h
  exact ⟨h1,h2,h3,h4,h5,h6,fun t v ht => let ⟨x,a,b⟩ := h7 t v ht; ⟨x,a,b.mono hz hp⟩,pd,hp _ _ _ h8,h9⟩
 ·rename_i o _ _ _
  cases o with
  | none => exact False.elim h
  | some k =>
   obtain ⟨h1,h2,h3,h4,pm,h5,h6⟩ := h
   exact ⟨h1,h2,h3,h4,pm,hp _ _ _ h5,h6⟩
 ·exact h
 ·exact h
theorem Sim.upd {Z : Fzn} {ρ : Pls} {H : Heap} {w w' : World} (s : Sim Z ρ H w) {b : Nat} {o' : AObj} {pl' : Pl} {obj' : Obj} (hb : b ≤ H.size)
  (hget : ∀ o,H.get b = some o → o.live = true ∧ o.ver ≤ o'.ver) (hρ : ρ b o'.ver = none ∨ ρ b o'.ver = some pl') (hnew : w'.heap[pl'.blk]? = some obj')
  (hkeep : ∀ k,k < w.heap.size → k ≠ pl'.blk → w'.heap[k]? = w.heap[k]?) (hZ : Z pl'.blk = none)
  (hown : ∀ c oc plc,c ≠ b → H.get c = some oc → oc.live = true → ρ c oc.ver = some plc → plc.blk ≠ pl'.blk) (hrep : RepO Z (Ev.upd ρ b o'.ver pl') o' pl' obj') :
  Sim Z (Ev.upd ρ b o'.ver pl') (H.put b o') w' := by
 have hle := leP_upd hρ
 have look : ∀ c u,c ≠ b → Ev.upd ρ b o'.ver pl' c u = ρ c u := fun c u hc => by simp [Ev.upd,hc]
 refine ⟨fun c o hc hl => ?_,fun c c' o o1 pl pl1 hc hl hc' hl' hp hp' hblk => ?_,fun k o hk => ?_,fun c v pl hc => ?_,Nat.le_trans s.lk (H.size_put b o' hb),s.lg⟩
 ·rw [H.get_put b o' hb] at hc
  split at hc
  ·rename_i e;subst e;cases hc
   exact ⟨pl',obj',upd_self _ _ _ _,hnew,hrep,hZ⟩
  ·rename_i e
   obtain ⟨pl,obj,h1,h2,h3,h4⟩ := s.objs c o hc hl
   exact ⟨pl,obj,hle _ _ _ h1,(hkeep _ (Array.getElem?_eq_some_iff.1 h2).1 (hown c o pl e hc hl h1)).trans h2,h3.mono (.refl _) hle,h4⟩
 ·rw [H.get_put b o' hb] at hc hc'
  by_cases e : c = b <;> by_cases e' : c' = b
  ·rw [e,e']
  ·subst e
   simp at hc;subst hc
   simp [e'] at hc'
   rw [upd_self] at hp;cases hp
   rw [look _ _ e'] at hp'
   exact absurd hblk.symm (hown c' o1 pl1 e' hc' hl' hp')
  ·subst e'
   simp at hc';subst hc'
   simp [e] at hc
   rw [upd_self] at hp';cases hp'
   rw [look _ _ e] at hp
   exact absurd hblk (hown c o pl e hc hl hp)
  ·simp [e] at hc;simp [e'] at hc'
   rw [look _ _ e] at hp;rw [look _ _ e'] at hp'
   exact s.inj c c' o o1 pl pl1 hc hl hc' hl' hp hp' hblk
 ·have h1 := s.zok k o hk
  have hlt := (Array.getElem?_eq_some_iff.1 h1).1
  rw [hkeep k hlt (fun e => by rw [e,hZ] at hk;cases hk)];exact h1
 ·rw [H.get_put b o' hb]
  by_cases e : c = b
  ·subst e
   simp only [if_true]
   unfold Ev.upd at hc
   split at hc
   ·rename_i h;exact ⟨_,rfl,fun _ => Nat.le_of_eq h.2⟩
   ·obtain ⟨o,ho,hv⟩ := s.fresh c v pl hc
    exact ⟨_,rfl,fun _ => Nat.le_trans (hv (hget o ho).1) (hget o ho).2⟩
  ·rw [look _ _ e] at hc
   simpa [e] using s.fresh c v pl hc
theorem own_upd {ρ : Pls} {H : Heap} {b : Nat} {o' : AObj} {pl' : Pl} (hb : b ≤ H.size) {k : Nat} (h : Own (upd ρ b o'.ver pl') (H.put b o') k) : k = pl'.blk ∨ Own ρ H k := by
 obtain ⟨c,o,pl,hlk,hc,hl,hp,rfl⟩ := h
 rw [H.get_put b o' hb] at hc
 split at hc
 ·rename_i e;subst e;cases hc;rw [upd_self] at hp;cases hp;exact .inl rfl
 ·rename_i e
  have : upd ρ b o'.ver pl' c o.ver = ρ c o.ver := by simp [upd,e]
  rw [this] at hp
  exact .inr ⟨c,o,pl,hlk,hc,hl,hp,rfl⟩
theorem Ext.upd {Z : Fzn} {ρ : Pls} {H : Heap} {w w' : World} {b : Nat} {o' : AObj} {pl' : Pl} (hb : b ≤ H.size) (hlv : ∀ o,H.get b = some o → o.live = true) (hlock : H.lock ≤ b)
  (hρ : ρ b o'.ver = none ∨ ρ b o'.ver = some pl') (hkeep : ∀ k,k < w.heap.size → k ≠ pl'.blk → w'.heap[k]? = w.heap[k]?) (hblk : pl'.blk < w.heap.size → Own ρ H pl'.blk)
  (hsize : w.heap.size ≤ w'.heap.size) (hos : w'.os = w.os) (hout : w'.output = w.output) (htape : w'.tape = w.tape) (hdr : w.drawn ≤ w'.drawn) (hfz : ∀ a,w'.frozen? a = w.frozen? a) :
  Ext Z ρ H w Z (Ev.upd ρ b o'.ver pl') (H.put b o') w' :=
 ⟨.refl _,leP_upd hρ,fun k hk ho => hkeep k hk fun e => ho (by subst e;exact hblk hk),fun k hk ho => (own_upd hb ho).elim (fun e => by subst e;exact hblk hk) id,
  hsize,hos,hout,htape,fun _ => hdr,fun a _ _ => hfz a,rfl,fun c hc => by rw [H.get_put b o' hb,if_neg (by omega)],H.size_put b o' hb,fun _ _ _ => rfl,fun c hc v => if_neg fun e => by omega,
  fun c o hc ho => by
   have hne : c ≠ b := fun e => by subst e;rw [hlv o hc] at ho;cases ho
   exact ⟨by rw [H.get_put b o' hb,if_neg hne];exact hc,fun v => if_neg fun e => hne e.1⟩⟩
def Free (H : Heap) (slot : Nat) : Prop := slot ≤ H.size ∧ H.get slot = none ∧ H.lock ≤ slot
theorem Sim.blk_lt {Z : Fzn} {ρ : Pls} {H : Heap} {w : World} (s : Sim Z ρ H w) {b : Nat} {o : AObj} {pl : Pl} (hb : H.get b = some o) (hl : o.live = true) (hp : ρ b o.ver = some pl) : pl.blk < w.heap.size := by
 obtain ⟨pl1,obj,h1,h2,_⟩ := s.objs b o hb hl
 rw [h1] at hp;cases hp
 exact (Array.getElem?_eq_some_iff.1 h2).1
theorem Sim.free {Z : Fzn} {ρ : Pls} {H : Heap} {w : World} (s : Sim Z ρ H w) {slot : Nat} (hf : H.get slot = none) (v : Nat) : ρ slot v = none := by
 cases h : ρ slot v with
 | none => rfl
 | some pl => obtain ⟨o,ho,_⟩ := s.fresh _ _ _ h;rw [hf] at ho;cases ho
theorem getElem?_push_lt' {α : Type} (xs : Array α) (x : α) {k : Nat} (h : k < xs.size) : (xs.push x)[k]? = xs[k]? := by
 simp [Array.getElem?_push,Nat.ne_of_lt h]
theorem frozen_push (w : World) (o : Obj) (ho : ∀ c e fz,o = .cells c e fz → fz = (0,0)) (a : Addr) : ({ w with heap := w.heap.push o } : World).frozen? a = w.frozen? a := by
 unfold World.frozen?
 by_cases h : a.block < w.heap.size
 ·simp only [getElem?_push_lt' _ _ h]
 ·by_cases e : a.block = w.heap.size
  ·have h1 : w.heap[a.block]? = none := Array.getElem?_eq_none (by omega)
   have h2 : (w.heap.push o)[a.block]? = some o := by rw [e];simp
   simp only [h1,h2]
   cases o <;> simp
   rename_i c t fz
   have := ho c t fz rfl
   subst this;simp
  ·have h1 : w.heap[a.block]? = none := Array.getElem?_eq_none (by omega)
   have h2 : (w.heap.push o)[a.block]? = none := Array.getElem?_eq_none (by simp;omega)
   simp only [h1,h2]
theorem Sim.alloc {Z : Fzn} {ρ : Pls} {H : Heap} {w : World} (s : Sim Z ρ H w) {slot : Nat} (hf : Free H slot) {o : AObj} {obj : Obj} {pl : Pl} (hpl : pl.blk = w.heap.size)
  (hfz : ∀ c e fz,obj = .cells c e fz → fz = (0,0)) (hrep : RepO Z (Ev.upd ρ slot o.ver pl) o pl obj) :
  Sim Z (Ev.upd ρ slot o.ver pl) (H.put slot o) { w with heap := w.heap.push obj } ∧ Ext Z ρ H w Z (Ev.upd ρ slot o.ver pl) (H.put slot o) { w with heap := w.heap.push obj } := by
 have hn := s.free hf.2.1 o.ver
 have hkeep : ∀ k,k < w.heap.size → k ≠ pl.blk → (w.heap.push obj)[k]? = w.heap[k]? := fun k hk _ => getElem?_push_lt' _ _ hk
 refine ⟨s.upd hf.1 (fun o' ho' => by rw [hf.2.1] at ho';cases ho') (.inl hn) (by rw [hpl];simp) hkeep ?_ ?_ hrep,Ext.upd hf.1 (fun o' ho' => by rw [hf.2.1] at ho';cases ho') hf.2.2 (.inl hn) hkeep (fun h => by omega) (by simp) rfl rfl rfl (Nat.le_refl _) (frozen_push w obj hfz)⟩
 ·cases hz : Z pl.blk with
  | none => rfl
  | some x => have := s.zok _ _ hz;rw [hpl] at this;simp at this
 ·intro c oc plc _ hc hl hp e
  have := s.blk_lt hc hl hp
  omega
theorem frozen_set (w : World) (k : Nat) (o o' : Obj) (hk : w.heap[k]? = some o) (ho : ∀ c e fz,o = .cells c e fz → fz = (0,0)) (ho' : ∀ c e fz,o' = .cells c e fz → fz = (0,0)) (a : Addr) :
  ({ w with heap := w.heap.setIfInBounds k o' } : World).frozen? a = w.frozen? a := by
 unfold World.frozen?
 by_cases e : a.block = k
 ·have hlt := (Array.getElem?_eq_some_iff.1 hk).1
  have h2 : (w.heap.setIfInBounds k o')[k]? = some o' := by simp [hlt]
  simp only [e,h2,hk]
  have f : ∀ x : Obj,(∀ c t fz,x = .cells c t fz → fz = (0,0)) → (match some x with | some (.cells _ _ (lo,hi)) => decide (lo ≤ a.off) && decide (a.off < hi) | _ => false) = false := by
   intro x hx
   cases x <;> simp
   rename_i c t fz
   have := hx c t fz rfl
   subst this;simp
  exact (f o' ho').trans (f o ho).symm
 ·have h2 : (w.heap.setIfInBounds k o')[a.block]? = w.heap[a.block]? := by simp [Array.getElem?_setIfInBounds_ne (Ne.symm e)]
  simp only [h2]
theorem Sim.modify {Z : Fzn} {ρ : Pls} {H : Heap} {w : World} (s : Sim Z ρ H w) {b : Nat} {o o' : AObj} {pl pl' : Pl} {obj obj' : Obj} (hb : H.get b = some o) (hl : o.live = true) (hp : ρ b o.ver = some pl)
  (hlock : H.lock ≤ b) (hblk : pl'.blk = pl.blk) (hv : o.ver ≤ o'.ver) (hρ : ρ b o'.ver = none ∨ ρ b o'.ver = some pl') (hobj : w.heap[pl.blk]? = some obj) (h0 : ∀ c e fz,obj = .cells c e fz → fz = (0,0)) (h0' : ∀ c e fz,obj' = .cells c e fz → fz = (0,0))
  (hrep : RepO Z (Ev.upd ρ b o'.ver pl') o' pl' obj') :
  Sim Z (Ev.upd ρ b o'.ver pl') (H.put b o') { w with heap := w.heap.setIfInBounds pl.blk obj' } ∧ Ext Z ρ H w Z (Ev.upd ρ b o'.ver pl') (H.put b o') { w with heap := w.heap.setIfInBounds pl.blk obj' } := by
 have hsz := Nat.le_of_lt (Heap.get_lt hb)
 have hkeep : ∀ k,k < w.heap.size → k ≠ pl'.blk → (w.heap.setIfInBounds pl.blk obj')[k]? = w.heap[k]? := fun k _ hk => by
  have hne : pl.blk ≠ k := fun e => hk (by rw [hblk,e])
  simp [Array.getElem?_setIfInBounds_ne hne]
 have hlt := (Array.getElem?_eq_some_iff.1 hobj).1
 obtain ⟨pl1,obj1,h1,h2,h3,h4⟩ := s.objs b o hb hl
 rw [hp] at h1;cases h1
 refine ⟨s.upd hsz (fun o1 ho1 => by rw [hb] at ho1;cases ho1;exact ⟨hl,hv⟩) hρ (by rw [hblk];simp [hlt]) hkeep (by rw [hblk];exact h4) ?_ hrep,Ext.upd hsz (fun o1 ho1 => by rw [hb] at ho1;cases ho1;exact hl) hlock hρ hkeep (fun _ => ⟨b,o,pl,hlock,hb,hl,hp,hblk.symm⟩) (by simp) rfl rfl rfl (Nat.le_refl _) (frozen_set w _ obj obj' hobj h0 h0')⟩
 intro c oc plc hc hoc hlc hpc e
 exact hc (s.inj c b oc o plc pl hoc hlc hb hl hpc hp (e.trans hblk))
theorem Sim.kill {Z : Fzn} {ρ : Pls} {H : Heap} {w : World} (s : Sim Z ρ H w) {b : Nat} {o : AObj} (hb : H.get b = some o) (hl : o.live = true) (hlock : H.lock ≤ b) :
  Sim Z ρ (H.put b .dead) w ∧ Ext Z ρ H w Z ρ (H.put b .dead) w := by
 have hsz := Nat.le_of_lt (Heap.get_lt hb)
 have hget : ∀ c x,(H.put b .dead).get c = some x → x.live = true → c ≠ b ∧ H.get c = some x := by
  intro c x hc hx
  rw [H.get_put b _ hsz] at hc
  split at hc
  ·cases hc;simp [AObj.live] at hx
  ·rename_i e;exact ⟨e,hc⟩
 refine ⟨⟨fun c x hc hx => s.objs c x (hget c x hc hx).2 hx,fun c c' x x' pl pl' hc hx hc' hx' => s.inj c c' x x' pl pl' (hget c x hc hx).2 hx (hget c' x' hc' hx').2 hx',s.zok,fun c v pl h => ?_,Nat.le_trans s.lk (H.size_put b _ hsz),s.lg⟩, ?_⟩
 ·obtain ⟨x,hx,hxv⟩ := s.fresh c v pl h
  rw [H.get_put b _ hsz]
  split
  ·exact ⟨_,rfl,fun h => by simp [AObj.live] at h⟩
  ·exact ⟨x,hx,hxv⟩
 ·exact ⟨.refl _,.refl _,fun _ _ _ => rfl,fun k _ ho => let ⟨c,x,pl,hlk,hc,hx,hp,e⟩ := ho; ⟨c,x,pl,hlk,(hget c x hc hx).2,hx,hp,e⟩,Nat.le_refl _,rfl,rfl,rfl,fun _ => Nat.le_refl _,fun _ _ _ => rfl,rfl,
   fun c hc => by rw [H.get_put b _ hsz,if_neg (by omega)],H.size_put b _ hsz,fun _ _ _ => rfl,fun _ _ _ => rfl,
   fun c x hc hx => by
    have hne : c ≠ b := fun e => by subst e;rw [hb] at hc;cases hc;rw [hl] at hx;cases hx
    exact ⟨by rw [H.get_put b _ hsz,if_neg hne];exact hc,fun v => rfl⟩⟩
end Go.Ev
namespace Go.Ev
variable {P : Program} {Z : Fzn} {ρ : Pls} {H : Heap} {w : World}
def Does (P : Program) (Z : Fzn) (ρ : Pls) (H : Heap) (w : World) (s : Sem Value) (v : AV) (H' : Heap) : Prop :=
 ∃ x w' Z' ρ',s.run P w = .ok x w' ∧ Rep Z' ρ' v x ∧ Sim Z' ρ' H' w' ∧ Ext Z ρ H w Z' ρ' H' w'
def DoesU (P : Program) (Z : Fzn) (ρ : Pls) (H : Heap) (w : World) (s : Sem Unit) (H' : Heap) : Prop :=
 ∃ w' Z' ρ',s.run P w = .ok () w' ∧ Sim Z' ρ' H' w' ∧ Ext Z ρ H w Z' ρ' H' w'
theorem Does.same (hs : Sim Z ρ H w) {s : Sem Value} {v : AV} {x : Value} (h : s.run P w = .ok x w) (hr : Rep Z ρ v x) : Does P Z ρ H w s v H :=
 ⟨x,w,Z,ρ,h,hr,hs,.refl _ _ _ _⟩
theorem addr_add (b o n : Nat) : (⟨b,o,none⟩ : Addr).add n = ⟨b,o + n,none⟩ := by
 unfold Addr.add;split <;> simp_all
theorem sizeT_run {t : TypeId} {n : Nat} (h : sizeT P t = some n) (w : World) : (sizeOf t).run P w = .ok n w := by
 unfold sizeT at h
 cases hi : P.info? t with
 | none => simp [hi] at h
 | some i => simp [hi] at h;subst h;simp [sizeOf,typeInfo,hi]
theorem underlying_run {t : TypeId} {d : TypeDesc} (h : P.underlying t = some d) (w : World) : (underlying t).run P w = .ok d w := by
 simp [underlying,h]
theorem isAggT_run {t : TypeId} {b : Bool} (h : isAggT P t = some b) (w : World) : (isAgg t).run P w = .ok b w := by
 unfold isAggT at h
 unfold isAgg
 cases hu : P.underlying t with
 | none => simp [hu] at h
 | some d => rw [Sem.run_bind,underlying_run hu];cases d <;> simp_all
theorem zeroT_run {t : TypeId} {z : AV} (h : zeroT P t = some z) (w : World) (Z : Fzn) (ρ : Pls) : ∃ v,(zeroValue t).run P w = .ok v w ∧ Rep Z ρ z v := by
 unfold zeroT at h
 cases hi : P.info? t with
 | none => simp [hi] at h
 | some i =>
  simp only [hi] at h
  cases hz : i.zero with
  | none => simp [hz] at h
  | some v => simp [hz] at h;exact ⟨v,by simp [zeroValue,typeInfo,hi,hz],ofValue_rep h⟩
theorem Heap.row_get {H : Heap} {b v m sz : Nat} {e : TypeId} {g : Bool} {cs : List AV} (h : H.row b v = some (m,e,sz,g,cs)) : H.get b = some (.cells v m e sz g cs) := by
 unfold Heap.row at h
 split at h
 ·split at h
  ·simp at h;obtain ⟨rfl,rfl,rfl,rfl,rfl⟩ := h;rename_i h1 h2;subst h2;exact h1
  ·cases h
 ·cases h
theorem Sim.row (s : Sim Z ρ H w) {b v m sz : Nat} {e : TypeId} {g : Bool} {cs : List AV} (h : H.row b v = some (m,e,sz,g,cs)) :
  ∃ pl arr e',ρ b v = some pl ∧ w.heap[pl.blk]? = some (.cells arr e' (0,0)) ∧ pl.sz = sz ∧ boundL cs ≤ m ∧ cs.all AV.flat = true ∧ Z pl.blk = none ∧
   ∃ pre vs post : List Value,arr.toList = pre ++ vs ++ post ∧ pre.length = pl.base ∧ vs.length + post.length = pl.fin ∧ (g = false → post = []) ∧ RepL Z ρ cs vs := by
 obtain ⟨pl,obj,h1,h2,h3,h4⟩ := s.objs b _ (Heap.row_get h) rfl
 cases obj <;> simp only [RepO] at h3
 rename_i arr e' fz
 obtain ⟨⟨rfl, -⟩,h5,h6,h7,h8⟩ := h3
 exact ⟨pl,arr,e',h1,h2,h5,h6,h7,h4,h8⟩
theorem Sim.rowE (s : Sim Z ρ H w) {b v m sz : Nat} {e : TypeId} {g : Bool} {cs : List AV} (h : H.row b v = some (m,e,sz,g,cs)) {pl : Pl} (hp : ρ b v = some pl) {arr : Array Value} {e' : TypeId} {fz : Nat × Nat} (ha : w.heap[pl.blk]? = some (.cells arr e' fz)) : e' = e := by
 obtain ⟨pl1,obj,h1,h2,h3,h4⟩ := s.objs b _ (Heap.row_get h) rfl
 have h1 : ρ b v = some pl1 := h1
 rw [hp] at h1;cases h1
 rw [ha] at h2;cases h2
 simp only [RepO] at h3
 exact h3.1.2.1
theorem Sim.row0 (s : Sim Z ρ H w) {b v m sz : Nat} {e : TypeId} {cs : List AV} (h : H.row b v = some (m,e,sz,false,cs)) {pl : Pl} (hp : ρ b v = some pl) : pl.base = 0 := by
 obtain ⟨pl1,obj,h1,h2,h3,h4⟩ := s.objs b _ (Heap.row_get h) rfl
 have h1 : ρ b v = some pl1 := h1
 rw [hp] at h1;cases h1
 cases obj <;> simp only [RepO] at h3
 exact h3.1.2.2 trivial
theorem cell_at {blk : Nat} {arr : Array Value} {e : TypeId} {fz : Nat × Nat} {pre vs post : List Value} (hb : w.heap[blk]? = some (.cells arr e fz)) (ha : arr.toList = pre ++ vs ++ post) {k : Nat} {x : Value} (hk : vs[k]? = some x) :
  w.cell? ⟨blk,pre.length + k,none⟩ = some x := by
 have hlt := (List.getElem?_eq_some_iff.1 hk).1
 have : arr[pre.length + k]? = some x := by
  rw [← Array.getElem?_toList,ha,List.append_assoc,List.getElem?_append_right (by omega),show pre.length + k - pre.length = k by omega,List.getElem?_append_left hlt,hk]
 simp [World.cell?,hb,this]
theorem load_at {blk : Nat} {arr : Array Value} {e : TypeId} {fz : Nat × Nat} {pre vs post : List Value} {cs : List AV} (hb : w.heap[blk]? = some (.cells arr e fz)) (ha : arr.toList = pre ++ vs ++ post)
  (hl : RepL Z ρ cs vs) {t : TypeId} {k : Nat} {v : AV} (h : partOf P t cs k = some v) : ∃ x,(loadVar t ⟨blk,pre.length + k,none⟩).run P w = .ok x w ∧ Rep Z ρ v x := by
 unfold partOf at h
 split at h
 ·rename_i n hag hsz
  split at h
  ·rename_i hle
   simp at h;subst h
   refine ⟨.agg ((vs.drop k).take n).toArray, ?_,((hl.drop k).take n).agg⟩
   have hn : ((vs.drop k).take n).length = n := by have := hl.1;simp;omega
   have hload := run_loadCells_list (P := P) w ⟨blk,pre.length + k,none⟩ ((vs.drop k).take n) (fun j x hj => by
    rw [addr_add,Nat.add_assoc]
    refine cell_at hb ha ?_
    rw [List.getElem?_take] at hj
    split at hj
    ·rwa [List.getElem?_drop] at hj
    ·cases hj)
   rw [hn] at hload
   simp [loadVar,isAggT_run hag,sizeT_run hsz,hload]
  ·cases h
 ·rename_i hag hsz
  obtain ⟨x,hx,hr⟩ := hl.get h
  exact ⟨x,by simp [loadVar,isAggT_run hag,cell_at hb ha hx],hr⟩
 ·cases h
theorem part_at {t : TypeId} {cs : List AV} {vs : List Value} (hl : RepL Z ρ cs vs) {k : Nat} {v : AV} (h : partOf P t cs k = some v) : ∃ x,(part t vs.toArray k).run P w = .ok x w ∧ Rep Z ρ v x := by
 unfold partOf at h
 split at h
 ·rename_i n hag hsz
  split at h
  ·simp at h;subst h
   refine ⟨.agg ((vs.drop k).take n).toArray, ?_,((hl.drop k).take n).agg⟩
   simp [part,isAggT_run hag,sizeT_run hsz,List.take_drop]
  ·cases h
 ·rename_i hag hsz
  obtain ⟨x,hx,hr⟩ := hl.get h
  exact ⟨x,by simp [part,isAggT_run hag,hx],hr⟩
 ·cases h
theorem load_does (hs : Sim Z ρ H w) {t : TypeId} {p v : AV} {a : Value} (hp : Rep Z ρ p a) (h : loadA P H t p = some v) : Does P Z ρ H w (Instr.loadAt t a) v H := by
 unfold loadA at h
 split at h
 ·rename_i b ver k
  split at h
  ·rename_i cs hrow
   obtain ⟨pl,arr,e',h1,h2, -, -, -, -,pre,vs,post,h5,h6, -, -,h8⟩ := hs.row hrow
   cases hp with
   | ptr hp =>
    rw [h1] at hp;cases hp
    obtain ⟨x,hx,hr⟩ := load_at (P := P) h2 h5 h8 h
    rw [h6] at hx
    exact .same hs (by simp [Instr.loadAt,Instr.sureAddr,hx]) hr
  ·cases h
 ·rename_i y k
  cases hp with
  | ro hz ha hl hh =>
   obtain ⟨x,hx,hr⟩ := load_at (P := P) (Z := Z) (ρ := noPls) (hs.zok _ _ hz) ha ⟨hl,hh⟩ h
   exact .same hs (by simp [Instr.loadAt,Instr.sureAddr,hx]) (hr.mono (.refl _) (leP_no _))
 ·cases h
theorem cells_does (hs : Sim Z ρ H w) {b v k : Nat} {xs : List AV} {ys : List Value} {H' : Heap} {pl : Pl} (hp : ρ b v = some pl) (hl : RepL Z ρ xs ys) (h : storeCells H b v k xs = some H') :
  DoesU P Z ρ H w (Go.storeCells ⟨pl.blk,pl.base + k,none⟩ ys) H' := by
 unfold storeCells at h
 split at h
 ·rename_i m e sz g cs hrow
  split at h
  ·rename_i hc
   obtain ⟨hlock,hle,hflat⟩ := hc
   simp at h;subst h
   obtain ⟨pl1,arr,e',h1,h2,h3,h3b,h3c,h4,pre,vs,post,h5,h6,h7,h7b,h8⟩ := hs.row hrow
   rw [hp] at h1;cases h1
   have hys : ∀ y ∈ ys,y.oneCell' = true := by
    intro y hy
    obtain ⟨i,hi⟩ := List.getElem?_of_mem hy
    obtain ⟨c,hc⟩ := at_len hl.1.symm hi
    exact (hl.2 i c y hc hi).flat (List.all_eq_true.1 hflat c (List.mem_of_getElem? hc))
   have hxy : xs.length = ys.length := hl.1
   have hvs := h8.1
   have hbound : pl.base + k + 0 + ys.length ≤ arr.size := by
    have : arr.size = pre.length + vs.length + post.length := by rw [← Array.length_toList,h5];simp;omega
    omega
   have hrun := run_storeCells_at P pl.blk (pl.base + k) e' ys 0 arr w h2 (by simpa using hbound) hys
   have hrow2 : w.setRow pl.blk (arr.toList.take (pl.base + k + 0) ++ ys ++ arr.toList.drop (pl.base + k + 0 + ys.length)).toArray = { w with heap := w.heap.setIfInBounds pl.blk (.cells (pre ++ (vs.take k ++ ys ++ vs.drop (k + ys.length)) ++ post).toArray e' (0,0)) } := by
    have hlt := (Array.getElem?_eq_some_iff.1 h2).1
    have e1 : arr.toList.take (pl.base + k + 0) = pre ++ vs.take k := by
     rw [h5,← h6,List.append_assoc,Nat.add_zero,List.take_append,List.take_of_length_le (by omega),show pre.length + k - pre.length = k by omega,List.take_append_of_le_length (by omega)]
    have e2 : arr.toList.drop (pl.base + k + 0 + ys.length) = vs.drop (k + ys.length) ++ post := by
     rw [h5,← h6,List.append_assoc,Nat.add_zero,List.drop_append,List.drop_of_length_le (by omega),List.nil_append,show pre.length + k + ys.length - pre.length = k + ys.length by omega,List.drop_append_of_le_length (by omega)]
    rw [e1,e2]
    unfold World.setRow
    congr 1
    refine Array.ext_getElem? fun i => ?_
    rw [Array.getElem?_modify,Array.getElem?_setIfInBounds]
    split
    ·rename_i hi;subst hi
     have h2' := (Array.getElem?_eq_some_iff.1 h2).2
     simp [h2',hlt,List.append_assoc]
    ·rfl
   refine ⟨{ w with heap := w.heap.setIfInBounds pl.blk (.cells (pre ++ (vs.take k ++ ys ++ vs.drop (k + ys.length)) ++ post).toArray e' (0,0)) },Z,upd ρ b v pl,by rw [← hrow2];exact hrun, ?_⟩
   have hle2 := leP_upd (b := b) (v := v) (pl := pl) (.inr hp)
   have hsame : upd ρ b v pl = ρ := by funext c u;unfold upd;split
                                       ·rename_i hcu;obtain ⟨rfl,rfl⟩ := hcu;exact hp.symm
                                       ·rfl
   refine hs.modify (o := .cells v m e sz g cs) (o' := .cells v (Nat.max m (boundL xs)) e sz g (splice k xs cs)) (Heap.row_get hrow) rfl hp hlock rfl (Nat.le_refl _) (.inr hp) h2 (fun _ _ _ h => by cases h;rfl) (fun _ _ _ h => by cases h;rfl) ?_
   rw [show (AObj.cells v (Nat.max m (boundL xs)) e sz g (splice k xs cs)).ver = v from rfl,hsame]
   have hsp := h8.splice k hl
   refine ⟨⟨rfl,hs.rowE hrow hp h2,fun hg => by subst hg;exact hs.row0 hrow hp⟩,h3, ?_, ?_,pre,_,post,by simp,h6, ?_,h7b,hsp⟩
   ·refine boundL_le.2 fun x hx => ?_
    simp only [splice,List.mem_append] at hx
    rcases hx with (hx | hx) | hx
    ·exact Nat.le_trans (boundL_le.1 h3b x (List.mem_of_mem_take hx)) (Nat.le_max_left _ _)
    ·exact Nat.le_trans (boundL_le.1 (Nat.le_refl _) x hx) (Nat.le_max_right _ _)
    ·exact Nat.le_trans (boundL_le.1 h3b x (List.mem_of_mem_drop hx)) (Nat.le_max_left _ _)
   ·refine List.all_eq_true.2 fun x hx => ?_
    simp only [splice,List.mem_append] at hx
    rcases hx with (hx | hx) | hx
    ·exact List.all_eq_true.1 h3c x (List.mem_of_mem_take hx)
    ·exact List.all_eq_true.1 hflat x hx
    ·exact List.all_eq_true.1 h3c x (List.mem_of_mem_drop hx)
   ·simp;omega
  ·cases h
 ·cases h
theorem store_does (hs : Sim Z ρ H w) {t : TypeId} {p v : AV} {a x : Value} {H' : Heap} (hp : Rep Z ρ p a) (hv : Rep Z ρ v x) (h : storeA P H t p v = some H') : DoesU P Z ρ H w (Instr.storeAt t a x) H' := by
 unfold storeA at h
 split at h
 ·rename_i b ver k n hsz
  split at h
  ·rename_i hn
   cases hp with
   | ptr hp =>
    obtain ⟨w',Z',ρ',h1,h2,h3⟩ := cells_does (P := P) hs hp hv.cells h
    have hc : x.cells.size = n := by rw [← Array.length_toList,← hv.cells.1,hn]
    exact ⟨w',Z',ρ',by simp [Instr.storeAt,Instr.sureAddr,storeVar,hc,sizeT_run hsz,h1],h2,h3⟩
  ·cases h
 ·cases h
theorem fieldPlace_run {f : Field} {n : Nat} (h : sizeT P f.type = some (n + 1)) (a : Addr) (w : World) : (fieldPlace a f).run P w = .ok (a.add f.offset) w := by
 simp [fieldPlace,sizeT_run h]
theorem fieldAddr_does (hs : Sim Z ρ H w) {t : TypeId} {p v : AV} {a : Value} {i : Nat} (hp : Rep Z ρ p a) (h : fieldAddrA P t p i = some v) : Does P Z ρ H w (Instr.fieldAt t a i) v H := by
 unfold fieldAddrA at h
 split at h
 ·rename_i fs hu
  split at h
  ·rename_i f hf
   split at h
   ·rename_i n b ver k hsz
    simp at h;subst h
    cases hp with
    | ptr hp =>
     refine .same hs (x := .pointer (some ⟨_,_,none⟩)) ?_ (.ptr (k := k + f.offset) hp)
     simp [Instr.fieldAt,underlying_run hu,hf,Instr.sureAddr,fieldPlace_run hsz,addr_add,Nat.add_assoc]
   ·rename_i n y k hsz
    simp at h;subst h
    cases hp with
    | ro hz ha hl hh =>
     refine .same hs (x := .pointer (some ⟨_,_,none⟩)) ?_ (.ro (k := k + f.offset) hz ha hl hh)
     simp [Instr.fieldAt,underlying_run hu,hf,Instr.sureAddr,fieldPlace_run hsz,addr_add,Nat.add_assoc]
   ·cases h
  ·cases h
 ·cases h
theorem field_does (hs : Sim Z ρ H w) {t : TypeId} {p v : AV} {a : Value} {i : Nat} (hp : Rep Z ρ p a) (h : fieldA P t p i = some v) : Does P Z ρ H w (Instr.field t a i) v H := by
 unfold fieldA at h
 split at h
 ·rename_i fs cs hu
  split at h
  ·rename_i f hf
   obtain ⟨vs,rfl,hl⟩ := hp.agg_inv
   obtain ⟨x,hx,hr⟩ := part_at (P := P) (w := w) hl h
   exact .same hs (by simp [Instr.field,underlying_run hu,hf,asAgg,hx]) hr
  ·cases h
 ·cases h
theorem flat_at {sz : Nat} : ∀ {xs : List AV} {i : Nat} {x : AV},(∀ x ∈ xs,x.cells.length = sz) → xs[i]? = some x → ((xs.flatMap AV.cells).drop (i * sz)).take sz = x.cells ∧ i * sz + sz ≤ (xs.flatMap AV.cells).length
 | [],i,x,_,h => by simp at h
 | y :: r,0,x,hs,h => by
  simp at h;subst h
  have h1 := hs y (by simp)
  simp only [Nat.zero_mul,List.drop_zero,List.flatMap_cons,List.length_append,Nat.zero_add]
  exact ⟨by rw [List.take_append_of_le_length (by omega),List.take_of_length_le (by omega)],by omega⟩
 | y :: r,i + 1,x,hs,h => by
  have h1 := hs y (by simp)
  have ih := flat_at (xs := r) (i := i) (fun z hz => hs z (by simp [hz])) (by simpa using h)
  simp only [List.flatMap_cons,Nat.succ_mul,List.length_append]
  refine ⟨?_,by omega⟩
  rw [List.drop_append,List.drop_of_length_le (by omega),List.nil_append,show i * sz + sz - y.cells.length = i * sz by omega]
  exact ih.1
theorem flat_len {sz : Nat} : ∀ {xs : List AV},(∀ x ∈ xs,x.cells.length = sz) → (xs.flatMap AV.cells).length = xs.length * sz
 | [],_ => by simp
 | y :: r,h => by
  have := flat_len (xs := r) fun z hz => h z (by simp [hz])
  simp [List.flatMap_cons,this,h y (by simp),Nat.succ_mul,Nat.add_comm]
theorem Rep.elem {sz : Nat} {xs : List AV} {cap : Option Nat} {blk off n c : Nat} (h : Rep Z ρ (.vs sz xs cap) (.slice (some ⟨blk,off,none⟩) n c)) {i : Nat} {x : AV} (hx : xs[i]? = some x) :
  Rep Z ρ (.ro x 0) (.pointer (some ⟨blk,off + i * sz,none⟩)) := by
 cases h with
 | vs hz ha hs hl h hc hle =>
  rename_i arr e fz pre vs post
  obtain ⟨h1,h2⟩ := flat_at hs hx
  have e1 : arr.toList = (pre ++ vs.take (i * sz)) ++ (vs.drop (i * sz)).take sz ++ (vs.drop (i * sz)).drop sz ++ post := by
   rw [ha];simp [List.append_assoc]
   rw [← List.append_assoc (List.take sz _),show List.drop (i * sz + sz) vs = List.drop sz (List.drop (i * sz) vs) from by rw [List.drop_drop],List.take_append_drop,← List.append_assoc,List.take_append_drop]
  have hlen : (pre ++ vs.take (i * sz)).length = pre.length + i * sz := by simp;omega
  have hrl : RepL Z noPls x.cells ((vs.drop (i * sz)).take sz) := by
   rw [← h1];exact RepL.take _ (RepL.drop _ ⟨hl,h⟩)
  have := Rep.ro (ρ := ρ) (x := x) (k := 0) hz (by rw [e1,List.append_assoc]) hrl.1 hrl.2
  rwa [hlen] at this
 | vs0 hc => simp at hx
theorem indexAddr_does (hs : Sim Z ρ H w) {t : TypeId} {p q v : AV} {a i : Value} (hp : Rep Z ρ p a) (hq : Rep Z ρ q i) (h : indexAddrA P t p q = some v) : Does P Z ρ H w (Instr.indexAt t a i) v H := by
 unfold indexAddrA at h
 split at h
 ·rename_i n e kk ii hu
  obtain ⟨rfl, -⟩ := hq.v_inv
  split at h
  ·rename_i s b ver k hsz
   split at h
   ·rename_i hb
    simp at h;subst h
    cases hp with
    | ptr hp =>
     refine .same hs (x := .pointer (some ⟨_,_,none⟩)) ?_ (.ptr (k := k + ii.toNat * s) hp)
     simp [Instr.indexAt,asIntOf,underlying_run hu,Instr.sureAddr,hb,sizeT_run hsz,addr_add,Nat.add_assoc]
   ·cases h
  ·rename_i s y k hsz
   split at h
   ·rename_i hb
    simp at h;subst h
    cases hp with
    | ro hz ha hl hh =>
     refine .same hs (x := .pointer (some ⟨_,_,none⟩)) ?_ (.ro (k := k + ii.toNat * s) hz ha hl hh)
     simp [Instr.indexAt,asIntOf,underlying_run hu,Instr.sureAddr,hb,sizeT_run hsz,addr_add,Nat.add_assoc]
   ·cases h
  ·cases h
 ·rename_i e kk ii hu
  obtain ⟨rfl, -⟩ := hq.v_inv
  split at h
  ·rename_i s b ver off len cap hsz
   split at h
   ·rename_i hb
    simp at h;subst h
    cases hp with
    | sl hp hc hn hle =>
     refine .same hs (x := .pointer (some ⟨_,_,none⟩)) ?_ (.ptr (k := off + ii.toNat * s) hp)
     simp [Instr.indexAt,asIntOf,underlying_run hu,hb,sizeT_run hsz,addr_add,Nat.add_assoc]
   ·cases h
  ·rename_i s sz xs cap hsz
   split at h
   ·rename_i hb
    obtain ⟨hb1,hb2,rfl⟩ := hb
    cases hx : xs[ii.toNat]? with
    | none => simp [hx] at h
    | some y =>
     simp [hx] at h;subst h
     cases hp with
     | vs hz ha hsz' hl hh hc hle =>
      refine .same hs (x := .pointer (some ⟨_,_,none⟩)) ?_ ((Rep.vs (ρ := ρ) hz ha hsz' hl hh hc hle).elem hx)
      simp [Instr.indexAt,asIntOf,underlying_run hu,hb1,hb2,sizeT_run hsz,addr_add]
     | vs0 hc => simp at hx
   ·cases h
  ·cases h
 ·cases h
theorem byteAt (s : ByteArray) (i : Nat) : s[i]? = s.data.toList[i]? := by
 rw [Array.getElem?_toList]
 by_cases h : i < s.size
 ·have h' : i < s.data.size := h
  rw [getElem?_pos s i h,getElem?_pos s.data i h'];rfl
 ·have h' : ¬ i < s.data.size := h
  rw [getElem?_neg s i h,getElem?_neg s.data i h']
theorem index_does (hs : Sim Z ρ H w) {t : TypeId} {p q v : AV} {a i : Value} (hp : Rep Z ρ p a) (hq : Rep Z ρ q i) (h : indexA P t p q = some v) : Does P Z ρ H w (Instr.index t a i) v H := by
 unfold indexA at h
 split at h
 ·rename_i n e cs kk ii hu
  obtain ⟨rfl, -⟩ := hq.v_inv
  split at h
  ·rename_i s hsz
   split at h
   ·rename_i hb
    obtain ⟨vs,rfl,hl⟩ := hp.agg_inv
    obtain ⟨x,hx,hr⟩ := part_at (P := P) (w := w) hl h
    exact .same hs (by simp [Instr.index,asIntOf,underlying_run hu,hb,sizeT_run hsz,hx]) hr
   ·cases h
  ·cases h
 ·rename_i s kk ii hu
  obtain ⟨rfl, -⟩ := hq.v_inv
  obtain ⟨rfl, -⟩ := hp.v_inv
  split at h
  ·rename_i h0
   unfold strAt at h
   cases hx : s.data.toList[ii.toNat]? with
   | none => simp [hx] at h
   | some c =>
    simp [hx] at h;subst h
    have hx' : s[ii.toNat]? = some c := by rw [byteAt];exact hx
    exact .same hs (x := .int .u8 c.toNat) (by simp only [Instr.index,asIntOf,Sem.run_bind,Sem.run_pure,Result.andThen_ok,underlying_run hu,if_pos h0,hx']) (.v rfl)
  ·cases h
 ·cases h
end Go.Ev
namespace Go.Ev
variable {P : Program} {Z : Fzn} {ρ : Pls} {H : Heap} {w : World}
theorem atoms_all : ∀ {l : List Value} {cs : List AV},atoms l = some cs → boundL cs = 0 ∧ cs.all AV.flat = true
 | [],cs,h => by simp [atoms] at h;subst h;exact ⟨rfl,rfl⟩
 | x :: r,cs,h => by
  simp only [atoms] at h
  split at h
  ·cases hr : atoms r with
   | none => simp [hr] at h
   | some ds =>
    simp [hr] at h;subst h
    obtain ⟨h1,h2⟩ := atoms_all hr
    exact ⟨by show Nat.max 0 (boundL ds) = 0;rw [h1];rfl,by simp [AV.flat] at h2 ⊢;exact h2⟩
  ·cases h
theorem ofValue_cells {x : Value} {a : AV} (h : ofValue x = some a) : boundL a.cells = 0 := by
 unfold ofValue at h
 split at h
 ·rename_i cs
  cases hr : atoms cs.toList with
  | none => simp [hr] at h
  | some ds => simp [hr] at h;subst h;exact (atoms_all hr).1
 ·split at h
  ·simp at h;subst h;rfl
  ·cases h
 ·split at h
  ·simp at h;subst h;rfl
  ·cases h
theorem boundL_cells (v : AV) : boundL v.cells ≤ bound v := by
 cases v <;> simp [AV.cells,bound,boundL]
theorem newRow_does (hs : Sim Z ρ H w) {slot : Nat} (hf : Free H slot) {m sz : Nat} {e : TypeId} {g : Bool} {cs : List AV} {vs : List Value} {arr : Array Value} (t : TypeId) (pl : Pl)
  (hpl : pl = ⟨w.heap.size,0,arr.size,sz⟩) (post : List Value) (harr : arr.toList = vs ++ post) (hg : g = false → post = []) (hl : RepL Z ρ cs vs) (hm : boundL cs ≤ m) (hflat : cs.all AV.flat = true) (hte : t = e := by rfl) :
  (newRow t arr).run P w = .ok ⟨w.heap.size,0,none⟩ { w with heap := w.heap.push (.cells arr t) } ∧
  Sim Z (upd ρ slot 0 pl) (H.put slot (.cells 0 m e sz g cs)) { w with heap := w.heap.push (.cells arr t) } ∧ Ext Z ρ H w Z (upd ρ slot 0 pl) (H.put slot (.cells 0 m e sz g cs)) { w with heap := w.heap.push (.cells arr t) } := by
 refine ⟨by simp [newRow], ?_⟩
 have hle : leP ρ (upd ρ slot 0 pl) := leP_upd (.inl (hs.free hf.2.1 0))
 refine hs.alloc hf (o := .cells 0 m e sz g cs) (obj := .cells arr t) (pl := pl) (by rw [hpl]) (fun _ _ _ h => by cases h;rfl) ?_
 subst hpl
 refine ⟨⟨rfl,hte,fun _ => rfl⟩,rfl,hm,hflat,[],vs,post,by simpa using harr,rfl, ?_,hg,hl.mono (.refl _) hle⟩
 have := congrArg List.length harr
 simpa using this.symm
theorem alloc_does (hs : Sim Z ρ H w) {slot : Nat} (hf : Free H slot) {t : TypeId} {z : AV} (h : zeroT P t = some z) (h2 : z.cells.all AV.flat = true) : Does P Z ρ H w (Instr.alloc t true (.tuple #[])) (.ptr slot 0 0) (H.put slot (.cells 0 0 t 1 false z.cells)) := by
 obtain ⟨v,hv,hr⟩ := zeroT_run h w Z ρ
 have hz : ∃ x,ofValue x = some z := by
  unfold zeroT at h
  cases hi : P.info? t with
  | none => simp [hi] at h
  | some i => simp only [hi] at h;cases hz : i.zero with
   | none => simp [hz] at h
   | some v => simp [hz] at h;exact ⟨v,h⟩
 obtain ⟨x,hx⟩ := hz
 have h1 := ofValue_cells hx
 obtain ⟨g1,g2,g3⟩ := newRow_does (P := P) hs hf (m := 0) (sz := 1) (e := t) (g := false) (arr := v.cells) t ⟨w.heap.size,0,v.cells.size,1⟩ rfl [] (by simp) (fun _ => rfl) hr.cells (by omega) h2
 exact ⟨.pointer (some ⟨w.heap.size,0,none⟩),_,_,_,by simp [Instr.alloc,hv,newVar,g1],.ptr (k := 0) (upd_self ρ slot 0 _),g2,g3⟩
theorem box_does (hs : Sim Z ρ H w) {slot : Nat} (hf : Free H slot) {t : TypeId} {v : AV} {x : Value} (hr : Rep Z ρ v x) (hflat : v.cells.all AV.flat = true) : Does P Z ρ H w (Instr.box t x) (.ptr slot 0 0) (H.put slot (.cells 0 (bound v) t 1 false v.cells)) := by
 obtain ⟨g1,g2,g3⟩ := newRow_does (P := P) hs hf (m := bound v) (sz := 1) (e := t) (g := false) (arr := x.cells) t ⟨w.heap.size,0,x.cells.size,1⟩ rfl [] (by simp) (fun _ => rfl) hr.cells (boundL_cells v) hflat
 exact ⟨.pointer (some ⟨w.heap.size,0,none⟩),_,_,_,by simp [Instr.box,newVar,g1],.ptr (k := 0) (upd_self ρ slot 0 _),g2,g3⟩
theorem foldl_set : ∀ (ys : List Value) (j off : Nat) (cells : Array Value),off + j + ys.length ≤ cells.size →
  (ys.zipIdx j).foldl (fun cs (x : Value × Nat) => cs.setIfInBounds (off + x.2) x.1) cells = (cells.toList.take (off + j) ++ ys ++ cells.toList.drop (off + j + ys.length)).toArray
 | [],j,off,cells,_ => by simp
 | y :: r,j,off,cells,h => by
  have hl : off + j < cells.size := by simp at h;omega
  have ih := foldl_set r (j + 1) off (cells.setIfInBounds (off + j) y) (by simp at h ⊢;omega)
  simp only [List.zipIdx_cons,List.foldl_cons]
  rw [ih]
  congr 1
  have e := list_seg_step cells.toList (off + j) y r (by simp at h ⊢;omega)
  simpa [Array.toList_setIfInBounds,Nat.add_assoc] using e
theorem fill_rep {place : Nat → Option (Nat × Nat)} : ∀ {parts : List (Nat × AV)} {vals : List (Nat × Value)} {cs ds : List AV} {vs : List Value},parts.length = vals.length →
  (∀ (i : Nat) (a : Nat × AV) (b : Nat × Value),parts[i]? = some a → vals[i]? = some b → a.1 = b.1 ∧ Rep Z ρ a.2 b.2) → RepL Z ρ cs vs → fillA place cs parts = some ds →
  ∃ us : List Value,Instr.fill place vs.toArray vals = some us.toArray ∧ RepL Z ρ ds us
 | [],vals,cs,ds,vs,hl,_,hr,h => by
  have : vals = [] := List.length_eq_zero_iff.1 (by simpa using hl.symm)
  subst this
  simp [fillA] at h;subst h
  exact ⟨vs,by simp [Instr.fill],hr⟩
 | (i,v) :: rest,vals,cs,ds,vs,hl,hp,hr,h => by
  cases vals with
  | nil => simp at hl
  | cons b vals =>
   obtain ⟨h1,h2⟩ := hp 0 (i,v) b rfl rfl
   obtain ⟨bi,x⟩ := b
   simp only at h1 h2
   subst h1
   simp only [fillA] at h
   cases hpl : place i with
   | none => simp [hpl] at h
   | some os =>
    obtain ⟨off,size⟩ := os
    simp only [hpl] at h
    split at h
    ·rename_i hc
     have hsp := hr.splice off h2.cells
     have hxs : x.cells.size = size := by rw [← Array.length_toList,← h2.cells.1,hc.1]
     obtain ⟨us,hu,hru⟩ := fill_rep (parts := rest) (vals := vals) (by simpa using hl) (fun k a b ha hb => hp (k + 1) a b (by simpa using ha) (by simpa using hb)) hsp h
     refine ⟨us, ?_,hru⟩
     have hlen := hr.1
     have e1 : ¬ (off + size > vs.toArray.size) := by simp;omega
     simp only [Instr.fill,hpl,hxs]
     rw [← hu]
     have e2 := foldl_set x.cells.toList 0 off vs.toArray (by simp [hxs];omega)
     simp only [Nat.add_zero] at e2
     rw [if_neg (by simp at e1 ⊢;omega)]
     congr 1
     simp only [Array.length_toList,hxs] at e2
     rw [← Array.foldl_toList,Array.toList_zipIdx]
     simp only [Array.length_toList,hxs]
     exact e2
    ·cases h
theorem placesOf_run : ∀ {fs : List Field} {ps : List (Nat × Nat)},placesOf P fs = some ps → ∀ w : World,(fs.mapM fun (f : Field) => (do pure (f.offset,← sizeOf f.type) : Sem (Nat × Nat))).run P w = .ok ps w
 | [],ps,h,w => by simp [placesOf] at h;subst h;simp
 | f :: r,ps,h,w => by
  simp only [placesOf] at h
  cases hn : sizeT P f.type with
  | none => simp [hn] at h
  | some n =>
   cases hr : placesOf P r with
   | none => simp [hn,hr] at h
   | some qs =>
    simp [hn,hr] at h;subst h
    have ih := placesOf_run hr w
    simp only [List.mapM_cons,Sem.run_bind,sizeT_run hn,Result.andThen_ok,Sem.run_pure,ih]
def Parts (Z : Fzn) (ρ : Pls) (parts : List (Nat × AV)) (vals : List (Nat × Value)) : Prop :=
 parts.length = vals.length ∧ ∀ (i : Nat) (a : Nat × AV) (b : Nat × Value),parts[i]? = some a → vals[i]? = some b → a.1 = b.1 ∧ Rep Z ρ a.2 b.2
theorem build_does (hs : Sim Z ρ H w) {t : TypeId} {parts : List (Nat × AV)} {vals : Array (Nat × Value)} {v : AV} (hp : Parts Z ρ parts vals.toList) (h : buildA P t parts = some v) : Does P Z ρ H w (Instr.build t vals) v H := by
 unfold buildA at h
 split at h
 ·rename_i z fs hz hu
  obtain ⟨zv,hzv,hzr⟩ := zeroT_run hz w Z ρ
  split at h
  ·rename_i ps hps
   cases hf : fillA (fun i => ps[i]?) z.cells parts with
   | none => simp [hf] at h
   | some ds =>
    simp [hf] at h;subst h
    obtain ⟨us,hu1,hru⟩ := fill_rep hp.1 hp.2 hzr.cells hf
    refine .same hs (x := .agg us.toArray) ?_ hru.agg
    have hpr := placesOf_run (P := P) hps w
    simp only [Instr.build,Sem.run_bind,hzv,Result.andThen_ok,underlying_run hu,Array.mapM_eq_mapM_toList,Sem.run_map,hpr]
    simp only [Array.toArray_toList] at hu1
    have : (fun x : Nat => ps.toArray[x]?) = fun i => ps[i]? := by funext i;simp
    rw [this,hu1];rfl
  ·cases h
 ·rename_i z n e hz hu
  obtain ⟨zv,hzv,hzr⟩ := zeroT_run hz w Z ρ
  split at h
  ·rename_i sz hsz
   cases hf : fillA (fun i => some (i * sz,sz)) z.cells parts with
   | none => simp [hf] at h
   | some ds =>
    simp [hf] at h;subst h
    obtain ⟨us,hu1,hru⟩ := fill_rep hp.1 hp.2 hzr.cells hf
    refine .same hs (x := .agg us.toArray) ?_ hru.agg
    simp only [Array.toArray_toList] at hu1
    simp [Instr.build,hzv,underlying_run hu,sizeT_run hsz,hu1]
  ·cases h
 ·cases h
theorem repeat_len (z : List AV) : ∀ n,(repeatCells z n).length = n * z.length
 | 0 => by simp [repeatCells]
 | n + 1 => by simp [repeatCells,repeat_len z n,Nat.succ_mul,Nat.add_comm]
theorem repeat_get (z : List AV) : ∀ n i,i < n * z.length → (repeatCells z n)[i]? = z[i % z.length]?
 | 0,i,h => by simp at h
 | n + 1,i,h => by
  simp only [repeatCells]
  by_cases hi : i < z.length
  ·rw [List.getElem?_append_left hi,Nat.mod_eq_of_lt hi]
  ·rw [List.getElem?_append_right (by omega),repeat_get z n _ (by rw [Nat.succ_mul] at h;omega)]
   rw [show i % z.length = (i - z.length) % z.length from by rw [Nat.mod_eq_sub_mod (by omega)]]
theorem repeat_bound {z : List AV} (h : boundL z = 0) : ∀ n,boundL (repeatCells z n) = 0
 | 0 => rfl
 | n + 1 => by
  have ih := repeat_bound h n
  refine Nat.le_zero.1 (boundL_le.2 fun x hx => ?_)
  simp only [repeatCells,List.mem_append] at hx
  exact hx.elim (fun hx => boundL_le.1 (Nat.le_of_eq h) x hx) (fun hx => boundL_le.1 (Nat.le_of_eq ih) x hx)
theorem repeat_flat {z : List AV} (h : z.all AV.flat = true) : ∀ n,(repeatCells z n).all AV.flat = true
 | 0 => rfl
 | n + 1 => by simp only [repeatCells,List.all_append,h,repeat_flat h n,Bool.and_self]
theorem repeat_rep {z : List AV} {zv : Array Value} (h : RepL Z ρ z zv.toList) (n k : Nat) (hn : n = k * zv.size) : RepL Z ρ (repeatCells z k) ((Array.range n).map (zv[· % zv.size]!)).toList := by
 subst hn
 have hz : z.length = zv.size := by rw [h.1,Array.length_toList]
 refine ⟨by simp [repeat_len,hz],fun i c v hc hv => ?_⟩
 have hi : i < k * zv.size := by
  have := (List.getElem?_eq_some_iff.1 hc).1
  rw [repeat_len,hz] at this;exact this
 rw [repeat_get z k i (by rw [hz];exact hi),hz] at hc
 have hm : i % zv.size < zv.size := Nat.mod_lt _ (by rcases Nat.eq_zero_or_pos zv.size with h0 | h0; · rw [h0] at hi;simp at hi
                                                     ·exact h0)
 rw [Array.getElem?_toList,Array.getElem?_map,Array.getElem?_range] at hv
 rw [if_pos hi] at hv
 simp only [Option.map_some,Option.some.injEq] at hv
 subst hv
 refine h.2 _ c _ hc ?_
 rw [Array.getElem?_toList,getElem!_pos zv _ hm,Array.getElem?_eq_getElem hm]
theorem chunk_flat {sz : Nat} (hsz : 0 < sz) : ∀ {n : Nat} {cs : List AV},cs.length = n * sz → cs.all AV.flat = true → (chunk sz n cs).flatMap AV.cells = cs ∧ (chunk sz n cs).length = n ∧ ∀ x ∈ chunk sz n cs,x.cells.length = sz
 | 0,cs,h,_ => by
  have : cs = [] := List.length_eq_zero_iff.1 (by simpa using h)
  subst this;simp [chunk]
 | n + 1,cs,h,hf => by
  have hlen : sz ≤ cs.length := by rw [h,Nat.succ_mul];omega
  obtain ⟨h1,h2,h3⟩ := chunk_flat hsz (n := n) (cs := cs.drop sz) (by rw [List.length_drop,h,Nat.succ_mul];omega) (List.all_eq_true.2 fun x hx => List.all_eq_true.1 hf x (List.mem_of_mem_drop hx))
  have hhead : (if sz = 1 then cs.headD undefA else .agg (cs.take sz)).cells = cs.take sz := by
   split
   ·rename_i e;subst e
    cases cs with
    | nil => simp at hlen
    | cons c r =>
     have := List.all_eq_true.1 hf c (by simp)
     cases c <;> simp_all [AV.cells,AV.flat]
   ·rfl
  refine ⟨?_,by simp [chunk,h2],fun x hx => ?_⟩
  ·simp only [chunk,List.flatMap_cons]
   rw [h1]
   rw [hhead,List.take_append_drop]
  ·simp only [chunk,List.mem_cons] at hx
   rcases hx with rfl | hx
   ·rw [hhead,List.length_take];omega
   ·exact h3 x hx
theorem RepL.all_closed {cs : List AV} {vs : List Value} (h : RepL Z ρ cs vs) (hb : boundL cs = 0) : RepL Z noPls cs vs := h.closed hb
def freezeZ (Z : Fzn) (k : Nat) (o : Obj) : Fzn := fun j => if j = k then some o else Z j
theorem leZ_freeze {Z : Fzn} {k : Nat} {o : Obj} (h : Z k = none ∨ Z k = some o) : leZ Z (freezeZ Z k o) := by
 intro j x hx
 unfold freezeZ
 split
 ·rename_i e;subst e
  rcases h with h | h <;> rw [h] at hx
  ·cases hx
  ·exact hx
 ·exact hx
theorem Sim.frozen (hs : Sim Z ρ H w) (obj : Obj) (hfz : ∀ c e fz,obj = .cells c e fz → fz = (0,0)) :
  Sim (freezeZ Z w.heap.size obj) ρ H { w with heap := w.heap.push obj } ∧ Ext Z ρ H w (freezeZ Z w.heap.size obj) ρ H { w with heap := w.heap.push obj } := by
 have hn : Z w.heap.size = none := by
  cases hz : Z w.heap.size with
  | none => rfl
  | some x => have := hs.zok _ _ hz;simp at this
 have hle := leZ_freeze (o := obj) (.inl hn)
 refine ⟨⟨fun b o hb hl => ?_,hs.inj,fun k o hk => ?_,hs.fresh,hs.lk,hs.lg.mono hle⟩,hle,.refl _,fun k hk _ => getElem?_push_lt' _ _ hk,fun _ _ h => h,by simp,rfl,rfl,rfl,fun _ => Nat.le_refl _,fun a _ _ => frozen_push w obj hfz a,rfl,fun _ _ => rfl,Nat.le_refl _,fun k hk _ => by unfold freezeZ;rw [if_neg (by omega)],fun _ _ _ => rfl,fun _ _ h _ => ⟨h,fun _ => rfl⟩⟩
 ·obtain ⟨pl,ob,h1,h2,h3,h4⟩ := hs.objs b o hb hl
  have hlt := (Array.getElem?_eq_some_iff.1 h2).1
  refine ⟨pl,ob,h1,(getElem?_push_lt' _ _ hlt).trans h2,h3.mono hle (.refl _), ?_⟩
  unfold freezeZ
  rw [if_neg (by omega)];exact h4
 ·unfold freezeZ at hk
  split at hk
  ·rename_i e;subst e;cases hk;simp
  ·have := hs.zok k o hk
   exact (getElem?_push_lt' _ _ (Array.getElem?_eq_some_iff.1 this).1).trans this
theorem buildSlice_does (hs : Sim Z ρ H w) {slot : Nat} (hf : Free H slot) {mt : Bool} {t : TypeId} {len : Nat} {parts : List (Nat × AV)} {vals : Array (Nat × Value)} {v : AV} {H' : Heap} (hp : Parts Z ρ parts vals.toList)
  (h : buildSliceA P mt H slot t len parts = some (v,H')) : Does P Z ρ H w (Instr.buildSlice t len vals) v H' := by
 unfold buildSliceA at h
 split at h
 ·rename_i e hu
  split at h
  ·rename_i n z hn hz
   split at h
   ·rename_i hc
    obtain ⟨hc1,hc2,hc3⟩ := hc
    obtain ⟨zv,hzv,hzr⟩ := zeroT_run hz w Z ρ
    have hzs : zv.cells.size = n := by rw [← Array.length_toList,← hzr.cells.1,hc3]
    split at h
    ·rename_i cs hfill
     split at h
     ·cases h
     rename_i hflat
     have hflat : cs.all AV.flat = true := by simpa using hflat
     -- the cells as they are laid
     have key : ∃ us : List Value,RepL Z ρ cs us ∧ (Instr.buildSlice t len vals).run P w = (do pure (Value.slice (some (← newRow e us.toArray)) len len) : Sem Value).run P w := by
      have hng : ¬ (len * n > 2 ^ 24) := by omega
      by_cases h0 : len * n = 0
      ·have hlen0 : len = 0 := by rcases Nat.mul_eq_zero.1 h0 with h | h <;> omega
       subst hlen0
       obtain ⟨us,hu1,hru⟩ := fill_rep (vs := []) hp.1 hp.2 (by simpa [repeatCells] using RepL.nil) hfill
       refine ⟨us,hru, ?_⟩
       have hr0 : Array.range 0 = #[] := rfl
       simp [Instr.buildSlice,underlying_run hu,sizeT_run hn,hr0,hu1]
      ·obtain ⟨us,hu1,hru⟩ := fill_rep hp.1 hp.2 (repeat_rep hzr.cells (len * n) len (by rw [hzs])) hfill
       refine ⟨us,hru, ?_⟩
       simp only [Array.toArray_toList] at hu1
       simp only [Instr.buildSlice,Sem.run_bind,underlying_run hu,sizeT_run hn,Result.andThen_ok,hng,h0,if_false,hzv,Sem.run_pure,hu1]
     obtain ⟨us,hru,hbs⟩ := key
     have hlen : cs.length = len * n := by
      have hk : ∀ (parts : List (Nat × AV)) (cs ds : List AV),fillA (fun i => some (i * n,n)) cs parts = some ds → ds.length = cs.length := by
       intro parts
       induction parts with
       | nil => intro cs ds h;simp [fillA] at h;rw [h]
       | cons p r ih =>
        intro cs ds h
        obtain ⟨i,v⟩ := p
        simp only [fillA] at h
        split at h
        ·rename_i hcc
         rw [ih _ _ h];simp [splice];omega
        ·cases h
      rw [hk _ _ _ hfill,repeat_len,hc3]
     split at h
     ·simp at h;obtain ⟨rfl,rfl⟩ := h
      obtain ⟨g1,g2,g3⟩ := newRow_does (P := P) hs hf (m := boundL cs) (sz := n) (e := e) (g := false) (arr := us.toArray) e ⟨w.heap.size,0,us.toArray.size,n⟩ rfl [] (by simp) (fun _ => rfl) hru (Nat.le_refl _) hflat
      exact ⟨.slice (some ⟨w.heap.size,0,none⟩) len len,_,_,_,by rw [hbs];simp [g1],.sl (off := 0) (upd_self ρ slot 0 _) (fun k hk => by cases hk;rfl) (fun hk => by cases hk) (Nat.le_refl _),g2,g3⟩
     ·rename_i hmt
      simp at h;obtain ⟨rfl,rfl⟩ := h
      have hb0 : boundL cs = 0 := by simp at hmt;exact hmt.2
      obtain ⟨g2,g3⟩ := hs.frozen (.cells us.toArray e) (fun _ _ _ h => by cases h;rfl)
      obtain ⟨c1,c2,c3⟩ := chunk_flat hc2 hlen hflat
      refine ⟨.slice (some ⟨w.heap.size,0,none⟩) len len,_,_,_,by rw [hbs];simp [newRow], ?_,g2,g3⟩
      have hcl := hru.all_closed hb0
      have := Rep.vs (Z := freezeZ Z w.heap.size (.cells us.toArray e)) (ρ := ρ) (sz := n) (xs := chunk n len cs) (cap := some len) (c := len) (blk := w.heap.size) (arr := us.toArray) (e := e) (fz := (0,0)) (pre := []) (vs := us) (post := [])
       (by simp [freezeZ]) (by simp) c3 (by rw [c1];exact hcl.1) (by rw [c1];exact fun i c v hc hv => (hcl.2 i c v hc hv).mono g3.z (.refl _)) (fun k hk => by cases hk;rfl) (by omega)
      rw [c2] at this
      exact this
    ·cases h
   ·cases h
  ·cases h
 ·cases h
end Go.Ev
namespace Go.Ev
variable {P : Program} {Z : Fzn} {ρ : Pls} {H : Heap} {w : World}
theorem wrap64_id {n : Int} (h0 : -9223372036854775808 ≤ n) (h1 : n ≤ 9223372036854775807) : IntKind.i64.wrap n = n := by
 have e : IntKind.i64.wrap n = if n % 18446744073709551616 ≥ 9223372036854775808 then n % 18446744073709551616 - 18446744073709551616 else n % 18446744073709551616 := by
  simp [IntKind.wrap,IntKind.bits,IntKind.signed]
 rw [e];split <;> omega
theorem makeSlice_does (hs : Sim Z ρ H w) {slot : Nat} (hf : Free H slot) {t : TypeId} {l c v : AV} {a b : Value} {H' : Heap} (hl : Rep Z ρ l a) (hc : Rep Z ρ c b) (h : makeSliceA P H slot t l c = some (v,H')) :
  Does P Z ρ H w (Instr.makeSlice t a b) v H' := by
 unfold makeSliceA at h
 split at h
 ·rename_i e l c hu
  obtain ⟨rfl, -⟩ := hl.v_inv
  obtain ⟨rfl, -⟩ := hc.v_inv
  split at h
  ·rename_i i z hi hz
   split at h
   ·rename_i hb
    obtain ⟨h1,h2,h3,h4,h5,h6,hz1⟩ := hb
    simp at h;obtain ⟨rfl,rfl⟩ := h
    obtain ⟨zv,hzv,hzr⟩ := zeroT_run hz w Z ρ
    have hof : ∃ x,ofValue x = some z := by
     unfold zeroT at hz
     simp only [hi] at hz
     cases hz' : i.zero with
     | none => simp [hz'] at hz
     | some v => simp [hz'] at hz;exact ⟨v,hz⟩
    obtain ⟨x,hx⟩ := hof
    have hzs : zv.cells.size = i.size := by rw [← Array.length_toList,← hzr.cells.1,h6]
    have hz0 := ofValue_cells hx
    have hw1 : IntKind.i64.wrap l = l := wrap64_id (by omega) (by omega)
    have hw2 : IntKind.i64.wrap c = c := wrap64_id (by omega) (by omega)
    have hsz : sizeT P e = some i.size := by simp [sizeT,hi]
    let arr : Array Value := (Array.range (c.toNat * i.size)).map (zv.cells[· % zv.cells.size]!)
    have harr : RepL Z ρ (repeatCells z.cells c.toNat) arr.toList := repeat_rep hzr.cells _ _ (by rw [hzs])
    have hn1 : ¬ (c < 0 ∨ (2 : Int) ^ 48 < (i.bytes : Int) * c) := by omega
    have hrun : (Instr.makeSlice t (.int .i64 l) (.int .i64 c)).run P w = (do pure (Value.slice (some (← newRow e arr)) l.toNat c.toNat) : Sem Value).run P w := by
     have hng : (decide (c < 0) || decide ((i.bytes : Int) * c > 2 ^ 48) || decide (l < 0) || decide (l > c)) = false := by
      simp;omega
     simp only [Instr.makeSlice,Sem.run_bind,underlying_run hu,asInt,asIntOf,Sem.run_pure,Result.andThen_ok,typeInfo,run_program,hi,hw1,hw2,hng,Bool.false_eq_true,if_false,run_askRoom,sizeT_run hsz]
     by_cases h0 : c.toNat * i.size = 0
     ·have : arr = (Array.range (c.toNat * i.size)).map (fun x => (#[] : Array Value)[x % (#[] : Array Value).size]!) := by
       have hr0 : Array.range 0 = #[] := rfl
       simp [arr,h0,hr0]
      rw [this]
      simp [h0]
     ·simp [h0,hzv];rfl
    obtain ⟨g1,g2,g3⟩ := newRow_does (P := P) hs hf (m := 0) (sz := i.size) (e := e) (g := false) (arr := arr) e ⟨w.heap.size,0,arr.size,i.size⟩ rfl [] (by simp) (fun _ => rfl) harr (by rw [repeat_bound hz0];exact Nat.le_refl _) (repeat_flat hz1 _)
    exact ⟨.slice (some ⟨w.heap.size,0,none⟩) l.toNat c.toNat,_,_,_,by rw [hrun];simp [g1],.sl (off := 0) (upd_self ρ slot 0 _) (fun k hk => by cases hk;rfl) (fun hk => by cases hk) (by omega),g2,g3⟩
   ·cases h
  ·cases h
 ·cases h
theorem makeMap_does (hs : Sim Z ρ H w) {slot : Nat} (hf : Free H slot) (t : TypeId) : Does P Z ρ H w (Instr.makeMap t none) (.mp slot) (H.put slot (.map 0 [] 0)) := by
 obtain ⟨g2,g3⟩ := hs.alloc hf (o := .map 0 [] 0) (obj := .map #[] 0) (pl := ⟨w.heap.size,0,0,0⟩) rfl (fun _ _ _ h => by cases h) ⟨rfl,by simp,rfl,by simp⟩
 exact ⟨.map (some w.heap.size),_,_,_,by simp [Instr.makeMap],.mp (upd_self ρ slot 0 _),g2,g3⟩
def OptRep (Z : Fzn) (ρ : Pls) (x : Option AV) (y : Option Value) : Prop :=
 match x,y with
 | none,none => True
 | some v,some a => Rep Z ρ v a
 | _,_ => False
theorem bound_run {v : AV} {a : Value} (hr : Rep Z ρ v a) {d hi l : Nat} (h : boundA (some v) d hi = some l) (code : BoundsCode) (w : World) : (Instr.sliceBound a hi code).run P w = .ok l w ∧ l ≤ hi := by
 unfold boundA at h
 split at h
 ·rename_i hx;cases hx
 ·rename_i k i hx
  simp at hx;subst hx
  obtain ⟨rfl, -⟩ := hr.v_inv
  split at h
  ·rename_i hb
   simp at h;subst h
   exact ⟨by simp [Instr.sliceBound,asIntOf,hb],by omega⟩
  ·cases h
 ·cases h
theorem bounds_run {isS : Bool} {len cap m h l : Nat} {lo hi mx : Option AV} {lov hiv mxv : Option Value} (r1 : OptRep Z ρ lo lov) (r2 : OptRep Z ρ hi hiv) (r3 : OptRep Z ρ mx mxv) (hg : (mx.isSome && hi.isNone) = false)
  (e3 : boundA mx cap cap = some m) (e2 : boundA hi len m = some h) (e1 : boundA lo 0 h = some l) (w : World) : (Instr.sliceBounds isS len cap lov hiv mxv).run P w = .ok (l,h,m) w ∧ l ≤ h ∧ (mx = none → m = cap) ∧ m ≤ cap ∧ (hi = none → h = len) ∧ (hi ≠ none → h ≤ m) := by
 cases lo <;> cases lov <;> simp only [OptRep] at r1 <;> cases hi <;> cases hiv <;> simp only [OptRep] at r2 <;> cases mx <;> cases mxv <;> simp only [OptRep] at r3 <;> first | (exfalso;exact r1) | (exfalso;exact r2) | (exfalso;exact r3) | skip
 all_goals first | (simp at hg;done) | skip
 all_goals (try (have q3 := fun c => bound_run (P := P) r3 e3 c w)) <;> (try (have q2 := fun c => bound_run (P := P) r2 e2 c w)) <;> (try (have q1 := fun c => bound_run (P := P) r1 e1 c w))
 all_goals (try (simp only [boundA,Option.some.injEq] at e1)) <;> (try (simp only [boundA,Option.some.injEq] at e2)) <;> (try (simp only [boundA,Option.some.injEq] at e3))
 all_goals (try subst e1) <;> (try subst e2) <;> (try subst e3)
 all_goals refine ⟨by simp [Instr.sliceBounds, *], ?_, ?_, ?_, ?_, ?_⟩
 all_goals (try (have q3' := (q3 .index).2)) <;> (try (have q2' := (q2 .index).2)) <;> (try (have q1' := (q1 .index).2))
 all_goals (first | omega | simp_all)
theorem slice_does (hs : Sim Z ρ H w) {t : TypeId} {x v : AV} {a : Value} {lo hi mx : Option AV} {lov hiv mxv : Option Value} (hx : Rep Z ρ x a) (r1 : OptRep Z ρ lo lov) (r2 : OptRep Z ρ hi hiv) (r3 : OptRep Z ρ mx mxv)
  (h : sliceA P H t x lo hi mx = some v) : Does P Z ρ H w (Instr.sliceAt t a lov hiv mxv) v H := by
 unfold sliceA at h
 split at h
 ·cases h
 rename_i hg
 have hg : (mx.isSome && hi.isNone) = false := Bool.eq_false_iff.2 hg
 split at h
 ·-- a string
  rename_i s hu
  obtain ⟨rfl, -⟩ := hx.v_inv
  split at h
  ·cases h
  split at h
  ·rename_i h1 e2
   split at h
   ·rename_i l1 e1
    simp at h;subst h
    cases mxv with
    | some y => simp [OptRep] at r3
    | none =>
     obtain ⟨q, -⟩ := bounds_run (P := P) (isS := false) (mx := none) (mxv := none) r1 r2 trivial (by simp) rfl e2 e1 w
     exact .same hs (x := .string (s.extract l1 h1)) (by simp [Instr.sliceAt,Instr.slice,underlying_run hu,q]) (.v rfl)
   ·cases h
  ·cases h
 ·-- the nil slice
  rename_i e hu
  obtain ⟨rfl, -⟩ := hx.v_inv
  split at h
  ·rename_i m h1 l s0 e3 e2 e1 es
   simp at h;subst h
   have hh0 : h1 = 0 := by
    unfold boundA at e2;split at e2
    ·simpa using e2.symm
    ·split at e2
     ·simp at e2;omega
     ·cases e2
    ·cases e2
   subst hh0
   have hm0 : m = 0 := by
    unfold boundA at e3;split at e3
    ·simpa using e3.symm
    ·split at e3
     ·simp at e3;omega
     ·cases e3
    ·cases e3
   subst hm0
   obtain ⟨q,q2, -⟩ := bounds_run (P := P) (isS := true) (len := 0) (cap := 0) r1 r2 r3 hg e3 e2 e1 w
   have : l = 0 := by omega
   subst this
   exact .same hs (x := .slice none 0 0) (by simp [Instr.sliceAt,Instr.slice,underlying_run hu,q,sizeT_run es]) (.v rfl)
  ·cases h
 ·-- a slice of an object's cells
  rename_i e b ver off len cap hu
  cases hx with
  | sl hp hc hn hle =>
   rename_i c pl
   split at h
   ·rename_i s c' es
    have := hc c' rfl
    subst this
    split at h
    ·rename_i m e3
     split at h
     ·rename_i h1 e2
      split at h
      ·rename_i l e1
       obtain ⟨q,q2,q3,q4,q5,q6⟩ := bounds_run (P := P) (isS := true) r1 r2 r3 hg e3 e2 e1 w
       have hh : h1 ≤ m := by
        cases hhi : hi with
        | none =>
         have := q5 hhi
         have hmx : mx = none := by cases mx <;> simp_all
         have := q3 hmx
         omega
        | some y => exact q6 (by simp [hhi])
       split at h
       ·rename_i hml
        simp at h;subst h;subst hml
        have : h1 = m := by omega
        subst this
        exact .same hs (x := .slice (some ⟨pl.blk,pl.base + off,none⟩) 0 0) (by simp [Instr.sliceAt,Instr.slice,underlying_run hu,q,sizeT_run es]) (.sl hp (fun k hk => by cases hk;rfl) (fun hk => by cases hk) (Nat.le_refl _))
       ·rename_i hml
        simp at h;subst h
        exact .same hs (x := .slice (some ⟨pl.blk,pl.base + (off + l * s),none⟩) (h1 - l) (m - l)) (by simp [Instr.sliceAt,Instr.slice,underlying_run hu,q,sizeT_run es,hml,addr_add,Nat.add_assoc]) (.sl hp (fun k hk => by cases hk;rfl) (fun hk => by cases hk) (by omega))
      ·cases h
     ·cases h
    ·cases h
   ·rename_i s es
    split at h
    ·-- no third bound
     split at h
     ·rename_i h1 e2
      split at h
      ·rename_i l e1
       split at h
       ·rename_i hll
        simp at h;subst h
        have hb : boundA hi len c = some h1 := by
         cases hi with
         | none => simpa [boundA] using e2
         | some y =>
          unfold boundA at e2 ⊢
          split at e2
          ·rename_i hx;cases hx
          ·rename_i kk i hx
           simp at hx;subst hx
           split at e2
           ·rename_i hb
            (try simp only)
            rw [if_pos ⟨hb.1,by omega⟩];exact e2
           ·cases e2
          ·cases e2
        cases mxv with
        | some y => simp [OptRep] at r3
        | none =>
         obtain ⟨q,q2,q3,q4,q5,q6⟩ := bounds_run (P := P) (isS := true) (mx := none) (mxv := none) (cap := c) r1 r2 trivial (by simp) rfl hb e1 w
         have hh : h1 ≤ len := by
          cases hi with
          | none => have := q5 rfl;omega
          | some y =>
           unfold boundA at e2
           split at e2
           ·rename_i hx;cases hx
           ·split at e2
            ·simp at e2;omega
            ·cases e2
           ·cases e2
         have h0 : h1 - l = 0 := by omega
         by_cases hml : c = l
         ·refine .same hs (x := .slice (some ⟨pl.blk,pl.base + off,none⟩) (h1 - l) 0) (by subst hml;simp [Instr.sliceAt,Instr.slice,underlying_run hu,q,sizeT_run es]) ?_
          rw [h0];exact .vs0 (fun k hk => by cases hk)
         ·refine .same hs (x := .slice (some ⟨pl.blk,pl.base + (off + l * s),none⟩) (h1 - l) (c - l)) (by simp [Instr.sliceAt,Instr.slice,underlying_run hu,q,sizeT_run es,hml,addr_add,Nat.add_assoc]) ?_
          rw [h0];exact .vs0 (fun k hk => by cases hk)
       rename_i hll
       split at h
       ·rename_i sz g cs hrow
        split at h
        ·rename_i hsz
         simp at h;subst h
         obtain ⟨pl1,arr,e',f1,f2,f3, -⟩ := hs.row hrow
         rw [hsz] at f3
         rw [hp] at f1;cases f1
         have hb : boundA hi len c = some h1 := by
          cases hi with
          | none => simpa [boundA] using e2
          | some y =>
           unfold boundA at e2 ⊢
           split at e2
           ·rename_i hx;cases hx
           ·rename_i kk i hx
            simp at hx;subst hx
            split at e2
            ·rename_i hb
             (try simp only)
             rw [if_pos ⟨hb.1,by omega⟩];exact e2
            ·cases e2
           ·cases e2
         cases mxv with
         | some y => simp [OptRep] at r3
         | none =>
          obtain ⟨q,q2,q3,q4,q5,q6⟩ := bounds_run (P := P) (isS := true) (mx := none) (mxv := none) (cap := c) r1 r2 trivial (by simp) rfl hb e1 w
          have hh : h1 ≤ len := by
           cases hi with
           | none => have := q5 rfl;omega
           | some y =>
            unfold boundA at e2
            split at e2
            ·rename_i hx;cases hx
            ·split at e2
             ·simp at e2;omega
             ·cases e2
            ·cases e2
          have hml : ¬ c = l := by omega
          refine .same hs (x := .slice (some ⟨pl.blk,pl.base + (off + l * s),none⟩) (h1 - l) (c - l)) (by simp [Instr.sliceAt,Instr.slice,underlying_run hu,q,sizeT_run es,hml,addr_add,Nat.add_assoc]) (.sl hp (fun k hk => by cases hk) (fun _ => ?_) (by omega))
          have := hn rfl
          rw [f3] at this ⊢
          have : l * s + (c - l) * s = c * s := by rw [← Nat.add_mul];congr 1;omega
          omega
        ·cases h
       ·cases h
      ·cases h
     ·cases h
    ·rename_i y _
     split at h
     ·rename_i m e3
      split at h
      ·rename_i h1 e2
       split at h
       ·rename_i l e1
        have hb : boundA (some y) c c = some m := by
         unfold boundA at e3 ⊢
         split at e3
         ·rename_i hx;cases hx
         ·rename_i kk i hx
          simp at hx;subst hx
          split at e3
          ·rename_i hb
           (try simp only)
           rw [if_pos ⟨hb.1,by omega⟩];exact e3
          ·cases e3
         ·cases e3
        obtain ⟨q,q2,q3,q4,q5,q6⟩ := bounds_run (P := P) (isS := true) r1 r2 r3 hg hb e2 e1 w
        have hhi : hi ≠ none := by intro e;subst e;simp at hg
        have hh := q6 hhi
        split at h
        ·rename_i hml
         simp at h;subst h;subst hml
         have : h1 = m := by omega
         subst this
         exact .same hs (x := .slice (some ⟨pl.blk,pl.base + off,none⟩) 0 0) (by simp [Instr.sliceAt,Instr.slice,underlying_run hu,q,sizeT_run es]) (.sl hp (fun k hk => by cases hk;rfl) (fun hk => by cases hk) (Nat.le_refl _))
        ·rename_i hml
         simp at h;subst h
         exact .same hs (x := .slice (some ⟨pl.blk,pl.base + (off + l * s),none⟩) (h1 - l) (m - l)) (by simp [Instr.sliceAt,Instr.slice,underlying_run hu,q,sizeT_run es,hml,addr_add,Nat.add_assoc]) (.sl hp (fun k hk => by cases hk;rfl) (fun hk => by cases hk) (by omega))
       ·cases h
      ·cases h
     ·cases h
   ·cases h
 ·-- an immutable slice
  rename_i e sz xs cap hu
  split at h
  ·rename_i s es
   split at h
   ·rename_i hsz
    subst hsz
    split at h
    ·rename_i m e3
     split at h
     ·rename_i h1 e2
      split at h
      ·rename_i l e1
       simp at h;subst h
       -- the capacity there
       obtain ⟨ad,c,rfl,hcap,hle⟩ : ∃ ad c,a = .slice (some ad) xs.length c ∧ (∀ k,cap = some k → c = k) ∧ xs.length ≤ c := by
        cases hx with
        | vs hz ha hs' hl hh hc hle => exact ⟨_,_,rfl,hc,hle⟩
        | vs0 hc => exact ⟨_,_,rfl,hc,Nat.zero_le _⟩
       have hm : m ≤ xs.length := by
        unfold boundA at e3
        split at e3
        ·simp at e3;omega
        ·split at e3
         ·simp at e3;omega
         ·cases e3
        ·cases e3
       obtain ⟨M,hM,hMm,hMn⟩ : ∃ M,boundA mx c c = some M ∧ (mx ≠ none → M = m) ∧ (mx = none → M = c) := by
        cases mx with
        | none => exact ⟨c,rfl,fun h => absurd rfl h,fun _ => rfl⟩
        | some y =>
         refine ⟨m, ?_,fun _ => rfl,fun h => by cases h⟩
         unfold boundA at e3 ⊢
         split at e3
         ·rename_i hx;cases hx
         ·rename_i kk i hx
          simp at hx;subst hx
          split at e3
          ·rename_i hb
           (try simp only)
           rw [if_pos ⟨hb.1,by omega⟩];exact e3
          ·cases e3
         ·cases e3
       have hmM : m ≤ M := by
        by_cases hmx : mx = none
        ·rw [hMn hmx];omega
        ·rw [hMm hmx];exact Nat.le_refl _
       have hH : boundA hi xs.length M = some h1 := by
        cases hi with
        | none => simpa [boundA] using e2
        | some y =>
         unfold boundA at e2 ⊢
         split at e2
         ·rename_i hx;cases hx
         ·rename_i kk i hx
          simp at hx;subst hx
          split at e2
          ·rename_i hb
           (try simp only)
           rw [if_pos ⟨hb.1,by omega⟩];exact e2
          ·cases e2
         ·cases e2
       obtain ⟨q,q2,q3,q4,q5,q6⟩ := bounds_run (P := P) (isS := true) r1 r2 r3 hg hM hH e1 w
       have hh : h1 ≤ xs.length ∧ h1 ≤ M := by
        cases hhi : hi with
        | none =>
         have h5 := q5 hhi
         have hmx : mx = none := by cases mx <;> simp_all
         rw [hMn hmx];omega
        | some y =>
         have h6 := q6 (by simp [hhi])
         refine ⟨?_,h6⟩
         rw [hhi] at e2
         unfold boundA at e2
         split at e2
         ·rename_i hx;cases hx
         ·split at e2
          ·simp at e2;omega
          ·cases e2
         ·cases e2
       have hlen : ((xs.take h1).drop l).length = h1 - l := by simp;omega
       have hrun : (Instr.sliceAt t (.slice (some ad) xs.length c) lov hiv mxv).run P w = .ok (.slice (some (if M = l then ad else ad.add (l * sz))) (h1 - l) (M - l)) w := by
        by_cases hml : M = l
        ·simp [Instr.sliceAt,Instr.slice,underlying_run hu,q,sizeT_run es,hml]
        ·simp [Instr.sliceAt,Instr.slice,underlying_run hu,q,sizeT_run es,hml]
       refine .same hs hrun ?_
       have hcap' : ∀ k,capOf mx m l cap = some k → M - l = k := by
        intro k hk
        unfold capOf at hk
        cases mx with
        | some y => simp at hk;rw [hMm (by simp)];exact hk
        | none =>
         simp only at hk
         cases cap with
         | none => simp at hk
         | some c' => simp at hk;rw [hMn rfl,hcap c' rfl];exact hk
       revert hcap'
       generalize capOf mx m l cap = cp
       intro hcap'
       by_cases hemp : h1 - l = 0
       ·have hnil : (xs.take h1).drop l = [] := List.length_eq_zero_iff.1 (by rw [hlen];exact hemp)
        rw [hnil,hemp]
        by_cases hml : M = l
        ·rw [if_pos hml];exact .vs0 hcap'
        ·rw [if_neg hml];exact .vs0 hcap'
       ·have hml : ¬ M = l := by omega
        rw [if_neg hml]
        cases hx with
        | vs0 hc => simp at hh;omega
        | vs hz ha hs' hl hfl hc hle' =>
         rename_i arr e0 fz pre vs post
         rw [addr_add]
         have hfx : (xs.flatMap AV.cells).length = xs.length * sz := flat_len hs'
         have hsub : ((xs.take h1).drop l).flatMap AV.cells = ((xs.flatMap AV.cells).drop (l * sz)).take ((h1 - l) * sz) := by
          have key : ∀ (n : Nat) (ys : List AV),(∀ x ∈ ys,x.cells.length = sz) → (ys.take n).flatMap AV.cells = (ys.flatMap AV.cells).take (n * sz) ∧ (ys.drop n).flatMap AV.cells = (ys.flatMap AV.cells).drop (n * sz) := by
           intro n
           induction n with
           | zero => intro ys _;simp
           | succ n ih =>
            intro ys hy
            cases ys with
            | nil => simp
            | cons y r =>
             have hy0 := hy y (by simp)
             obtain ⟨i1,i2⟩ := ih r fun z hz => hy z (by simp [hz])
             simp only [List.take_succ_cons,List.drop_succ_cons,List.flatMap_cons,i1,i2,Nat.succ_mul]
             refine ⟨?_, ?_⟩
             ·rw [List.take_append,List.take_of_length_le (l := y.cells) (by omega),hy0,Nat.add_sub_cancel]
             ·rw [List.drop_append,List.drop_of_length_le (l := y.cells) (by omega),hy0,Nat.add_sub_cancel,List.nil_append]
          have k1 := key h1 xs hs'
          have k2 := key l (xs.take h1) fun x hx => hs' x (List.mem_of_mem_take hx)
          rw [k2.2,k1.1,List.drop_take,Nat.sub_mul]
         have e4 : arr.toList = (pre ++ vs.take (l * sz)) ++ ((vs.drop (l * sz)).take ((h1 - l) * sz)) ++ ((vs.drop (l * sz)).drop ((h1 - l) * sz) ++ post) := by
          rw [ha];simp only [List.append_assoc]
          rw [← List.append_assoc (List.take ((h1 - l) * sz) _),List.take_append_drop,← List.append_assoc (List.take (l * sz) vs),List.take_append_drop]
         have hls : l * sz ≤ vs.length := by rw [← hl,hfx];exact Nat.mul_le_mul_right _ (by omega)
         have hpl : (pre ++ vs.take (l * sz)).length = pre.length + l * sz := by simp;omega
         have hrl : RepL Z noPls (((xs.take h1).drop l).flatMap AV.cells) ((vs.drop (l * sz)).take ((h1 - l) * sz)) := by
          rw [hsub];exact RepL.take _ (RepL.drop _ ⟨hl,hfl⟩)
         have := Rep.vs (ρ := ρ) (sz := sz) (xs := (xs.take h1).drop l) (cap := cp) (c := M - l) hz e4 (fun x hx => hs' x (List.mem_of_mem_take (List.mem_of_mem_drop hx))) hrl.1 hrl.2 hcap' (by rw [hlen];omega)
         rw [hpl,hlen] at this
         exact this
      ·cases h
     ·cases h
    ·cases h
   ·cases h
  ·cases h
 ·-- an array behind a pointer
  rename_i n e b ver k hu
  cases hx with
  | ptr hp =>
   rename_i pl
   split at h
   ·rename_i s m es e3
    split at h
    ·rename_i h1 e2
     split at h
     ·rename_i l e1
      obtain ⟨q,q2,q3,q4,q5,q6⟩ := bounds_run (P := P) (isS := false) r1 r2 r3 hg e3 e2 e1 w
      have hh : h1 ≤ m := by
       cases hhi : hi with
       | none =>
        have := q5 hhi
        have hmx : mx = none := by cases mx <;> simp_all
        have := q3 hmx
        omega
       | some y => exact q6 (by simp [hhi])
      split at h
      ·rename_i hml
       simp at h;subst h;subst hml
       have : h1 = m := by omega
       subst this
       exact .same hs (x := .slice (some ⟨pl.blk,pl.base + k,none⟩) 0 0) (by simp [Instr.sliceAt,underlying_run hu,Instr.sureAddr,q,sizeT_run es]) (.sl hp (fun k hk => by cases hk;rfl) (fun hk => by cases hk) (Nat.le_refl _))
      ·rename_i hml
       simp at h;subst h
       exact .same hs (x := .slice (some ⟨pl.blk,pl.base + (k + l * s),none⟩) (h1 - l) (m - l)) (by simp [Instr.sliceAt,underlying_run hu,Instr.sureAddr,q,sizeT_run es,hml,addr_add,Nat.add_assoc]) (.sl hp (fun k hk => by cases hk;rfl) (fun hk => by cases hk) (by omega))
     ·cases h
    ·cases h
   ·cases h
 ·cases h
end Go.Ev
namespace Go.Ev
variable {P : Program} {Z : Fzn} {ρ : Pls} {H : Heap} {w : World}
theorem atomA_some {o : Option Value} {v : AV} (h : atomA o = some v) : ∃ x,o = some x ∧ v = .v x ∧ atom x = true := by
 cases o with
 | none => simp [atomA] at h
 | some x =>
  simp only [atomA] at h
  split at h
  ·rename_i hx;simp at h;exact ⟨x,rfl,h.symm,hx⟩
  ·cases h
theorem bytesEq_eq : ∀ a b : List UInt8,bytesEq a b = (a == b)
 | [],[] => rfl
 | [],_ :: _ => rfl
 | _ :: _,[] => rfl
 | x :: a,y :: b => by
  have : (x.toNat == y.toNat) = (x == y) := by
   rw [Bool.eq_iff_iff];simp [← UInt8.toNat_inj]
  simp only [bytesEq,bytesEq_eq a b,List.cons_beq_cons,this]
theorem bytesLt_eq : ∀ a b : List UInt8,bytesLt a b = Op.bytesLess a b
 | _,[] => by cases ‹List UInt8› <;> rfl
 | [],_ :: _ => rfl
 | x :: a,y :: b => by
  have h1 : (x.toNat == y.toNat) = (x == y) := by
   rw [Bool.eq_iff_iff];simp [← UInt8.toNat_inj]
  have h2 : Nat.blt x.toNat y.toNat = decide (x < y) := by
   rw [Bool.eq_iff_iff];simp [Nat.blt_eq,UInt8.lt_iff_toNat_lt]
  simp only [bytesLt,Op.bytesLess,bytesLt_eq a b,h1,h2]
theorem strOp_run {op : BinOp} {x y : ByteArray} {r : Value} (h : strOp op x y = some r) (w : World) : (Op.stringOp op x y).run P w = .ok r w := by
 unfold strOp at h
 simp only [bytesEq_eq,bytesLt_eq] at h
 cases op <;> simp at h
 case add =>
  obtain ⟨h1,rfl⟩ := h
  have : ¬ (((x.size + y.size : Nat) : Int) > IntKind.i64.max) := by simp [IntKind.max,IntKind.signed,IntKind.bits];omega
  simp only [Op.stringOp,this,if_false,Sem.run_pure]
 all_goals (subst h;simp [Op.stringOp,ByteArray.toList_eq])
def nilForm : TypeDesc → Value → Bool → Prop
 | .pointer _,.pointer none,b => b = true
 | .pointer _,.pointer (some _),b => b = false
 | .slice _,.slice none 0 0,b => b = true
 | .slice _,.slice (some _) _ _,b => b = false
 | .map _ _,.map none,b => b = true
 | .map _ _,.map (some _),b => b = false
 | .func _ _ _,.nilFunc,b => b = true
 | .func _ _ _,.func _ _ _,b => b = false
 | .interface _,.nilIface,b => b = true
 | .interface _,.iface _ _,b => b = false
 | _,_,_ => False
theorem isNil_form {d : TypeDesc} {x : AV} {u : Value} {b : Bool} (h : isNilA (some d) x = some b) (hr : Rep Z ρ x u) : nilForm d u b := by
 unfold isNilA at h
 split at h <;> rename_i hd <;> simp at h <;> subst h <;> simp at hd <;> subst hd <;> cases hr <;> simp [nilForm]
theorem nil_equalIn {d : TypeDesc} {t : TypeId} {u v : Value} {a b : Bool} (hu : P.underlying t = some d) (h1 : nilForm d u a) (h2 : nilForm d v b) (hab : a = true ∨ b = true) (w : World) (K : Nat) : (Op.equalIn (K + 1) t u v).run P w = .ok (a && b) w := by
 unfold nilForm at h1 h2
 split at h1 <;> first | (exfalso;exact h1) | skip
 all_goals (split at h2 <;> first | (exfalso;exact h2) | skip)
 all_goals (rename_i hd1;first | (exfalso;simp at hd1;done) | skip)
 all_goals (subst h1;subst h2)
 all_goals (unfold Op.equalIn;simp only [Sem.run_bind,underlying_run hu,Result.andThen_ok])
 all_goals first | rfl | (simp at hab;done) | skip
theorem nil_equal {d : TypeDesc} {t : TypeId} {u v : Value} {a b : Bool} (hu : P.underlying t = some d) (h1 : nilForm d u a) (h2 : nilForm d v b) (hab : a = true ∨ b = true) (w : World) : (Op.equal t u v).run P w = .ok (a && b) w := by
 exact nil_equalIn hu h1 h2 hab w 9999
theorem nilEq_run {t : TypeId} {x y : AV} {u v : Value} {r : Bool} (hx : Rep Z ρ x u) (hy : Rep Z ρ y v) (h : nilEq P t x y = some r) (w : World) : (Op.equal t u v).run P w = .ok r w := by
 unfold nilEq at h
 cases hu : P.underlying t with
 | none => simp [hu,isNilA] at h
 | some d =>
  rw [hu] at h
  split at h
  ·rename_i b h1 h2
   simp at h;subst h
   have := nil_equal hu (isNil_form h1 hx) (isNil_form h2 hy) (.inl rfl) w
   simpa using this
  ·rename_i b _ h1 h2
   simp at h;subst h
   have := nil_equal hu (isNil_form h1 hx) (isNil_form h2 hy) (.inr rfl) w
   simpa using this
  ·cases h
end Go.Ev
namespace Go.Ev
variable {P : Program} {Z : Fzn} {ρ : Pls} {H : Heap} {w : World}
theorem eqGuard_quiet {op : BinOp} {t : TypeId} {x y : Operand} {a b : Value} (h1 : a ≠ .nilIface ∨ b ≠ .nilIface ∨ isConstO x = true ∨ isConstO y = true) (h2 : (∀ c,a ≠ .agg c) ∨ (∀ c,b ≠ .agg c) ∨ P.eqGuardType P.depth t = false) (w : World) : (eqGuard op t x y a b).run P w = .ok () w := by
 unfold eqGuard
 cases op <;> simp
 all_goals
  split
  ·have : isConstO x = true ∨ isConstO y = true := by simpa using h1
   cases x <;> cases y <;> simp_all [isConstO]
  ·have : P.eqGuardType P.depth t = false := by simpa using h2
   simp [this]
  ·rfl
theorem bin_does (hs : Sim Z ρ H w) {op : BinOp} {t : TypeId} {x y : Operand} {a b r : AV} {u v : Value} (ha : Rep Z ρ a u) (hb : Rep Z ρ b v) (h : binA P op t x y a b = some r) :
  Does P Z ρ H w (do eqGuard op t x y u v;binOp op t u v) r H := by
 unfold binA at h
 split at h
 ·rename_i s s'
  obtain ⟨rfl, -⟩ := ha.v_inv
  obtain ⟨rfl, -⟩ := hb.v_inv
  obtain ⟨z,hz,rfl,hat⟩ := atomA_some h
  refine .same hs (x := z) ?_ (.v hat)
  rw [Sem.run_bind,eqGuard_quiet (.inl (by simp)) (.inl (by simp)),Result.andThen_ok]
  have : binOp op t (.string s) (.string s') = Op.stringOp op s s' := by cases op <;> rfl
  rw [this,strOp_run hz]
 ·obtain ⟨rfl, -⟩ := ha.v_inv
  obtain ⟨rfl, -⟩ := hb.v_inv
  obtain ⟨z,hz,rfl,hat⟩ := atomA_some h
  refine .same hs (x := z) ?_ (.v hat)
  rw [Sem.run_bind,eqGuard_quiet (.inl (by simp)) (.inl (by simp)),Result.andThen_ok,runPure_run hz]
 ·obtain ⟨rfl, -⟩ := ha.v_inv
  obtain ⟨rfl, -⟩ := hb.v_inv
  obtain ⟨z,hz,rfl,hat⟩ := atomA_some h
  refine .same hs (x := z) ?_ (.v hat)
  rw [Sem.run_bind,eqGuard_quiet (.inl (by simp)) (.inl (by simp)),Result.andThen_ok,runPure_run hz]
 ·split at h
  ·rename_i us ws x1 x2 h1 h2
   split at h
   ·rename_i hc
    have e1 := toValue_rep h1 ha
    have e2 := toValue_rep h2 hb
    subst e1;subst e2
    obtain ⟨z,hz,rfl,hat⟩ := atomA_some h
    refine .same hs (x := z) ?_ (.v hat)
    have hg : P.eqGuardType P.depth t = false := by simp at hc;exact hc.2
    obtain ⟨vs,rfl, -⟩ := ha.agg_inv
    rw [Sem.run_bind,eqGuard_quiet (.inl (by simp)) (.inr (.inr hg)),Result.andThen_ok,runPure_run hz]
   ·cases h
  ·cases h
 ·rename_i n1 n2 n3 n4
  split at h
  ·rename_i hcst
   have hcst : isConstO x = true ∨ isConstO y = true := by simpa using hcst
   have hne : ∀ r,nilEq P t a b = some r → (∀ c,u ≠ .agg c) ∨ (∀ c,v ≠ .agg c) ∨ P.eqGuardType P.depth t = false := by
    intro r hr
    unfold nilEq at hr
    refine .inl fun c hc => ?_
    cases hu : P.underlying t with
    | none => simp [hu,isNilA] at hr
    | some d =>
     rw [hu] at hr
     have : ∃ q,isNilA (some d) a = some q := by
      split at hr
      ·exact ⟨_,by assumption⟩
      ·exact ⟨_,by assumption⟩
      ·cases hr
     obtain ⟨q,hq⟩ := this
     have := isNil_form hq ha
     rw [hc] at this
     cases d <;> simp [nilForm] at this
   have hbin : ∀ r,nilEq P t a b = some r → ((binOp .eql t u v).run P w = .ok (.bool r) w) ∧ ((binOp .neq t u v).run P w = .ok (.bool !r) w) := by
    intro r hr
    have he := nilEq_run ha hb hr w
    have hnot : (binOp .eql t u v = do pure (.bool (← Op.equal t u v))) ∧ (binOp .neq t u v = do pure (.bool (!(← Op.equal t u v)))) := by
     unfold nilEq at hr
     cases hu : P.underlying t with
     | none => simp [hu,isNilA] at hr
     | some d =>
      rw [hu] at hr
      have : (∃ q,isNilA (some d) a = some q) ∧ ∃ q,isNilA (some d) b = some q := by
       split at hr
       ·exact ⟨⟨_,by assumption⟩,⟨_,by assumption⟩⟩
       ·exact ⟨⟨_,by assumption⟩,⟨_,by assumption⟩⟩
       ·cases hr
      obtain ⟨⟨q,hq⟩,⟨q',hq'⟩⟩ := this
      have f1 := isNil_form hq ha
      have f2 := isNil_form hq' hb
      unfold nilForm at f1 f2
      split at f1 <;> first | (exfalso;exact f1) | skip
      all_goals (split at f2 <;> first | (exfalso;exact f2) | skip)
      all_goals first | exact ⟨rfl,rfl⟩ | (rename_i hd1;exfalso;simp at hd1;done)
    exact ⟨by rw [hnot.1];simp [he],by rw [hnot.2];simp [he]⟩
   split at h
   ·rename_i q hq
    simp at h;subst h
    exact .same hs (x := .bool q) (by rw [Sem.run_bind,eqGuard_quiet (.inr (.inr hcst)) (hne _ hq),Result.andThen_ok,(hbin _ hq).1]) (.v rfl)
   ·rename_i q hq
    simp at h;subst h
    exact .same hs (x := .bool !q) (by rw [Sem.run_bind,eqGuard_quiet (.inr (.inr hcst)) (hne _ hq),Result.andThen_ok,(hbin _ hq).2]) (.v rfl)
   ·cases h
  ·cases h
theorem mapObj (hs : Sim Z ρ H w) {b m c : Nat} {es : List (AV × AV × Nat)} (h : H.get b = some (.map m es c)) : ∃ pl ents,ρ b 0 = some pl ∧ w.heap[pl.blk]? = some (.map ents c) ∧ Z pl.blk = none ∧
  (∀ e ∈ es,bound e.1 = 0 ∧ bound e.2.1 ≤ m) ∧ ents.toList.length = es.length ∧
   ∀ (i : Nat) (k v : AV) (n : Nat) (e : MapEntry),es[i]? = some (k,v,n) → ents.toList[i]? = some e → Rep Z ρ k e.key ∧ Rep Z ρ v e.val ∧ e.born = n := by
 obtain ⟨pl,obj,h1,h2,h3,h4⟩ := hs.objs b _ h rfl
 cases obj <;> simp only [RepO] at h3
 rename_i ents c'
 obtain ⟨rfl,h5,h6,h7⟩ := h3
 exact ⟨pl,ents,h1,h2,h4,h5,h6,h7⟩
theorem run_getObj_map {r : Nat} {ents : Array MapEntry} {c : Nat} (h : w.heap[r]? = some (.map ents c)) : (getObj r).run P w = .ok (.map ents c) w := by
 simp [getObj,Sem.run,h]
theorem len_does (hs : Sim Z ρ H w) {ts : List TypeId} {args : List AV} {vals : List Value} {v : AV} (hl : RepL Z ρ args vals) (h : lenA P H ts args = some v) (ty : TypeId) : Does P Z ρ H w (Builtin.len_ ts.toArray ty vals.toArray) v H := by
 unfold lenA at h
 split at h
 ·rename_i t _ x _
  obtain ⟨y,ws,rfl,hy, -⟩ := hl.uncons
  split at h <;> rename_i hu <;> try (simp at h;subst h)
  ·obtain ⟨rfl, -⟩ := hy.v_inv
   exact .same hs (x := goInt _) (by simp [Builtin.len_,underlying_run hu]) (.v rfl)
  ·refine .same hs (x := goInt _) ?_ (.v rfl)
   simp [Builtin.len_,underlying_run hu]
  ·rename_i a
   split at h
   ·rename_i k e hu2
    simp at h;subst h
    refine .same hs (x := goInt _) ?_ (.v rfl)
    simp [Builtin.len_,underlying_run hu,underlying_run hu2]
   ·cases h
  ·obtain ⟨rfl, -⟩ := hy.v_inv
   exact .same hs (x := goInt _) (by simp [Builtin.len_,underlying_run hu]) (.v rfl)
  ·cases hy with
   | vs hz ha hs' hl' hh hc hle => exact .same hs (x := goInt _) (by simp [Builtin.len_,underlying_run hu]) (.v rfl)
   | vs0 hc => exact .same hs (x := goInt _) (by simp [Builtin.len_,underlying_run hu]) (.v rfl)
  ·cases hy with
   | sl hp hc hn hle => exact .same hs (x := goInt _) (by simp [Builtin.len_,underlying_run hu]) (.v rfl)
  ·obtain ⟨rfl, -⟩ := hy.v_inv
   exact .same hs (x := goInt _) (by simp [Builtin.len_,underlying_run hu]) (.v rfl)
  ·split at h
   ·rename_i m es c hg
    simp at h;subst h
    obtain ⟨pl,ents,h1,h2, -, -,h5, -⟩ := mapObj hs hg
    cases hy with
    | mp hp =>
     rw [h1] at hp;cases hp
     refine .same hs (x := goInt ents.size) ?_ (by rw [← Array.length_toList,h5];exact .v rfl)
     simp [Builtin.len_,underlying_run hu,run_getObj_map h2]
   ·cases h
  ·cases h
 ·cases h
theorem cap_does (hs : Sim Z ρ H w) {ts : List TypeId} {args : List AV} {vals : List Value} {v : AV} (hl : RepL Z ρ args vals) (h : capA P ts args = some v) (ty : TypeId) : Does P Z ρ H w (Builtin.cap_ ts.toArray ty vals.toArray) v H := by
 unfold capA at h
 split at h
 ·rename_i t _ x _
  obtain ⟨y,ws,rfl,hy, -⟩ := hl.uncons
  split at h <;> rename_i hu <;> try (simp at h;subst h)
  ·obtain ⟨rfl, -⟩ := hy.v_inv
   exact .same hs (x := goInt _) (by simp [Builtin.cap_,underlying_run hu]) (.v rfl)
  ·cases hy with
   | sl hp hc hn hle =>
    have := hc _ rfl
    subst this
    exact .same hs (x := goInt _) (by simp [Builtin.cap_,underlying_run hu]) (.v rfl)
  ·refine .same hs (x := goInt _) ?_ (.v rfl)
   simp [Builtin.cap_,underlying_run hu]
  ·cases h
 ·cases h
theorem minmax_run {mx : Bool} : ∀ {l : List AV} {x v : AV} {a : Value} {vals : List Value},Rep Z ρ x a → RepL Z ρ l vals → minmaxA mx x l = some v → (atom a = true) → ∀ w : World,
  ∃ b,(vals.foldlM (if mx then Builtin.max2 else Builtin.min2) a).run P w = .ok b w ∧ Rep Z ρ v b
 | [],x,v,a,vals,hr,hl,h,ha,w => by
  have : vals = [] := List.length_eq_zero_iff.1 hl.1.symm
  subst this
  simp [minmaxA] at h;subst h
  exact ⟨a,by simp,hr⟩
 | y :: r,x,v,a,vals,hr,hl,h,ha,w => by
  obtain ⟨b,ws,rfl,hb,hw⟩ := hl.uncons
  simp only [minmaxA] at h
  split at h
  ·rename_i z hz
   unfold minmax2 at hz
   split at hz
   ·rename_i k m k' n
    obtain ⟨rfl, -⟩ := hr.v_inv
    obtain ⟨rfl, -⟩ := hb.v_inv
    simp at hz;subst hz
    obtain ⟨c,hc,hrc⟩ := minmax_run (a := .int k (if mx then (if n > m then n else m) else (if n < m then n else m))) (by cases mx <;> exact .v rfl) hw h rfl w
    refine ⟨c, ?_,hrc⟩
    rw [List.foldlM_cons,Sem.run_bind,← hc]
    cases mx <;> simp [Builtin.min2,Builtin.max2]
   ·cases hz
  ·cases h
end Go.Ev
namespace Go.Ev
variable {P : Program} {Z : Fzn} {ρ : Pls} {H : Heap} {w : World}
theorem cellsFrom_run (hs : Sim Z ρ H w) {size n : Nat} {x : AV} {a : Value} {new : List AV} (hx : Rep Z ρ x a) (h : cellsFrom H size x = some (n,new)) :
  (Builtin.lenOf a).run P w = .ok n w ∧ new.length = n * size ∧ ∃ ys : List Value,RepL Z ρ new ys ∧ ∀ k,k ≤ n → (Builtin.firstCells size k a).run P w = .ok (ys.take (k * size)).toArray w := by
 unfold cellsFrom at h
 split at h
 ·obtain ⟨rfl, -⟩ := hx.v_inv
  simp at h;obtain ⟨rfl,rfl⟩ := h
  exact ⟨by simp [Builtin.lenOf],by simp,[],.nil,fun k _ => by simp [Builtin.firstCells]⟩
 ·rename_i sz xs cap
  split at h
  ·rename_i hsz
   subst hsz
   simp at h;obtain ⟨rfl,rfl⟩ := h
   cases hx with
   | vs hz ha hs' hl hh hc hle =>
    rename_i c blk arr e fz pre vs post
    refine ⟨by simp [Builtin.lenOf],flat_len hs',vs,⟨hl,fun i c v hc hv => (hh i c v hc hv).mono (.refl _) (leP_no _)⟩,fun k hk => ?_⟩
    have hlen : (vs.take (k * sz)).length = k * sz := by
     rw [List.length_take,← hl,flat_len hs']
     have := Nat.mul_le_mul_right sz hk
     omega
    have hload := run_loadCells_list (P := P) w ⟨blk,pre.length,none⟩ (vs.take (k * sz)) (fun j x hj => by
     rw [addr_add]
     refine cell_at (hs.zok _ _ hz) ha ?_
     rw [List.getElem?_take] at hj
     split at hj
     ·exact hj
     ·cases hj)
    rw [hlen] at hload
    simpa [Builtin.firstCells] using hload
   | vs0 hc => exact ⟨by simp [Builtin.lenOf],by simp,[],by simpa using RepL.nil,fun k hk => by
     have : k = 0 := by simpa using hk
     subst this
     simp [Builtin.firstCells,loadCells,loadCellsFrom]⟩
  ·cases h
 ·rename_i b v off len cap
  split at h
  ·rename_i m e0 sz0 g cs hrow
   split at h
   ·rename_i hle
    simp at h;obtain ⟨rfl,rfl⟩ := h
    obtain ⟨pl,arr,e',h1,h2,h3, -, -, -,pre,vs,post,h5,h6, -, -,h8⟩ := hs.row hrow
    cases hx with
    | sl hp hc hn hle' =>
     rw [h1] at hp;cases hp
     have hvs := h8.1
     refine ⟨by simp [Builtin.lenOf],by simp;omega,(vs.drop off).take (len * size),(h8.drop off).take _,fun k hk => ?_⟩
     have hks := Nat.mul_le_mul_right size hk
     have hlen : (((vs.drop off).take (len * size)).take (k * size)).length = k * size := by simp;omega
     have hload := run_loadCells_list (P := P) w ⟨pl.blk,pl.base + off,none⟩ (((vs.drop off).take (len * size)).take (k * size)) (fun j x hj => by
      rw [addr_add,Nat.add_assoc,← h6]
      refine cell_at h2 h5 ?_
      rw [List.getElem?_take] at hj
      split at hj
      ·rw [List.getElem?_take] at hj
       split at hj
       ·rwa [List.getElem?_drop] at hj
       ·cases hj
      ·cases hj)
     rw [hlen] at hload
     simpa [Builtin.firstCells] using hload
   ·cases h
  ·cases h
 ·rename_i s
  split at h
  ·rename_i hsz
   subst hsz
   obtain ⟨rfl, -⟩ := hx.v_inv
   simp at h;obtain ⟨rfl,rfl⟩ := h
   refine ⟨by simp [Builtin.lenOf],by simp,s.data.toList.map fun c => .int .u8 c.toNat,⟨by simp,fun i c v hc hv => ?_⟩,fun k hk => ?_⟩
   ·simp only [List.getElem?_map,Option.map_eq_some_iff] at hc hv
    obtain ⟨y,hy,rfl⟩ := hc
    obtain ⟨y',hy',rfl⟩ := hv
    rw [hy] at hy';cases hy'
    exact .v rfl
   ·simp only [Builtin.firstCells,Sem.run_pure,Nat.mul_one]
    congr 1
    apply Array.ext'
    rw [Array.toList_map,List.toList_toArray,← List.map_take]
    congr 1
    have : (s.extract 0 k).data.toList = s.data.toList.take k := by
     rw [ByteArray.data_extract];simp
    exact this
  ·cases h
 ·cases h
theorem nextslicecap_le {need old : Nat} (h : old < need) : Builtin.nextslicecap need old ≤ 2 * need + 192 := by
 have grow : ∀ r c,c ≤ need + (need + 768) / 4 → Builtin.growBy need r c ≤ need + (need + 768) / 4 := by
  intro r
  induction r with
  | zero => intro c hc;exact hc
  | succ r ih =>
   intro c hc
   unfold Builtin.growBy
   split
   ·exact hc
   ·exact ih _ (by omega)
 unfold Builtin.nextslicecap
 split
 ·omega
 ·split
  ·omega
  ·have := grow 4 old (by omega);omega
theorem isIntT_some {t : TypeId} (h : isIntT P t = false) : ∃ d,P.underlying t = some d ∧ ∀ k,d ≠ .int k := by
 unfold isIntT at h
 cases hu : P.underlying t with
 | none => simp [hu] at h
 | some d => exact ⟨d,rfl,fun k hk => by subst hk;simp [hu] at h⟩
theorem append_in {ts : List TypeId} {t u e : TypeId} {i : TypeInfo} {a : Value} {n len c : Nat} {base : Option Addr} {ys : List Value} (hu : P.underlying t = some (.slice e)) (hi : P.info? e = some i) (hnu : isIntT P u = false)
  (hn : (Builtin.lenOf a).run P w = .ok n w) (hc : (Builtin.firstCells i.size n a).run P w = .ok ys.toArray w) (hle : len + n ≤ c) (ty : TypeId) :
  (Builtin.append_ (t :: u :: ts).toArray ty #[.slice base len c,a]).run P w = ((match base with | some ad => Go.storeCells (ad.add (len * i.size)) ys | none => pure () : Sem Unit) >>= fun _ => (pure (Value.slice base (len + n) c) : Sem Value)).run P w := by
 obtain ⟨d,hd,hne⟩ := isIntT_some hnu
 have hsz : sizeT P e = some i.size := by simp [sizeT,hi]
 cases d <;> first | (exact absurd rfl (hne _)) | skip
 all_goals (cases base <;> simp only [Builtin.append_,List.getElem?_toArray,List.getElem?_cons_zero,List.getElem?_cons_succ,Sem.run_bind,underlying_run hu,underlying_run hd,sizeT_run hsz,hn,hc,hle,Result.andThen_ok,Sem.run_pure,Bool.false_eq_true,if_false,if_true,Bool.not_false])
theorem zeroCells_len (z : Array Value) (n : Nat) : (Builtin.zeroCells z n).toList.length = n * z.size := by simp [Builtin.zeroCells]
theorem append_out {ts : List TypeId} {t u e : TypeId} {i : TypeInfo} {a zv : Value} {n len c : Nat} {base : Option Addr} {olds ys : List Value} (hu : P.underlying t = some (.slice e)) (hi : P.info? e = some i) (hnu : isIntT P u = false)
  (hn : (Builtin.lenOf a).run P w = .ok n w) (ho : (Builtin.firstCells i.size len (.slice base len c)).run P { w with drawn := w.drawn + 1 } = .ok olds.toArray { w with drawn := w.drawn + 1 })
  (hc : (Builtin.firstCells i.size n a).run P { w with drawn := w.drawn + 1 } = .ok ys.toArray { w with drawn := w.drawn + 1 }) (hz : (zeroValue e).run P { w with drawn := w.drawn + 1 } = .ok zv { w with drawn := w.drawn + 1 }) (hzs : zv.cells.size = i.size)
  (hle : ¬ len + n ≤ c) (hb : i.bytes ≠ 0) (hf : fitsA i.bytes (len + n) = true) (ty : TypeId) :
  ∃ (cap : Nat) (rest : List Value),len + n ≤ cap ∧ rest.length = (cap - (len + n)) * i.size ∧ (Builtin.append_ (t :: u :: ts).toArray ty #[.slice base len c,a]).run P w =
   .ok (.slice (some ⟨w.heap.size,0,none⟩) (len + n) cap) { w with drawn := w.drawn + 1,heap := w.heap.push (.cells (olds ++ ys ++ rest).toArray e) } := by
 obtain ⟨d,hd,hne⟩ := isIntT_some hnu
 have hsz : sizeT P e = some i.size := by simp [sizeT,hi]
 have hti : ∀ w : World,(typeInfo e).run P w = .ok i w := fun w => by simp [typeInfo,hi]
 have hcap := nextslicecap_le (need := len + n) (old := c) (by omega)
 have hfit : (len + n + 1000) * i.bytes ≤ 2 ^ 40 := by simpa [fitsA] using hf
 have hb1 : ¬ (Builtin.nextslicecap (len + n) c * i.bytes > 2 ^ 48) := by
  have := Nat.mul_le_mul_right i.bytes hcap
  have : (2 * (len + n) + 192) * i.bytes ≤ 2 * ((len + n + 1000) * i.bytes) := by rw [← Nat.mul_assoc];exact Nat.mul_le_mul_right _ (by omega)
  omega
 have hq : (Question.appendCap (len + n) c e).forced = false := rfl
 refine ⟨(Question.appendCap (len + n) c e).cut (w.tape w.drawn (Question.appendCap (len + n) c e)),(Builtin.zeroCells zv.cells ((Question.appendCap (len + n) c e).cut (w.tape w.drawn (Question.appendCap (len + n) c e)) - (len + n))).toList,by simp [Question.cut],by rw [zeroCells_len,hzs], ?_⟩
 cases d <;> first | (exact absurd rfl (hne _)) | skip
 all_goals (simp only [Builtin.append_,List.getElem?_toArray,List.getElem?_cons_zero,List.getElem?_cons_succ,Sem.run_bind,underlying_run hu,underlying_run hd,sizeT_run hsz,hn,hle,Result.andThen_ok,Sem.run_pure,Bool.false_eq_true,if_false,if_true,Bool.not_false,hti,hb,or_self,and_false,hb1,run_choose,hq,run_askRoom,ho,hc,hz,newRow,run_newObj])
 all_goals (simp;congr 2;apply Array.ext';simp)
end Go.Ev
namespace Go.Ev
variable {P : Program} {Z : Fzn} {ρ : Pls} {H : Heap} {w : World}
theorem Ext.of_heap {Z : Fzn} {ρ : Pls} {H : Heap} {w w' : World} (h : w'.heap = w.heap) (ho : w'.os = w.os) (hu : w'.output = w.output) (ht : w'.tape = w.tape) (hd : w.drawn ≤ w'.drawn) : Ext Z ρ H w Z ρ H w' :=
 ⟨.refl _,.refl _,fun _ _ _ => by rw [h],fun _ _ h => h,by rw [h];exact Nat.le_refl _,ho,hu,ht,fun _ => hd,fun a _ _ => by simp [World.frozen?,h],rfl,fun _ _ => rfl,Nat.le_refl _,fun _ _ _ => rfl,fun _ _ _ => rfl,fun _ _ h _ => ⟨h,fun _ => rfl⟩⟩
theorem made_does (hs : Sim Z ρ H w) {slot : Nat} (hf : Free H slot) {ts : List TypeId} {t u e : TypeId} {i : TypeInfo} {z x : AV} {a : Value} {n len c : Nat} {base : Option Addr} {olds : List Value} {old new : List AV} {v : AV} {H' : Heap}
  (hu : P.underlying t = some (.slice e)) (hi : P.info? e = some i) (hnu : isIntT P u = false) (hzt : zeroT P e = some z) (hzl : z.cells.length = i.size) (hx : Rep Z ρ x a) (hcf : cellsFrom H i.size x = some (n,new))
  (hb : i.bytes ≠ 0) (hflat : new.all AV.flat = true) (hold : RepL Z ρ old olds) (ho : ∀ w1 : World,w1.heap = w.heap → (Builtin.firstCells i.size len (.slice base len c)).run P w1 = .ok olds.toArray w1) (hle : ¬ len + n ≤ c) (hol : olds.length = len * i.size)
  (h : madeA H slot e i (len + n) old new = some (v,H')) (ty : TypeId) : Does P Z ρ H w (Builtin.append_ (t :: u :: ts).toArray ty #[.slice base len c,a]) v H' := by
 unfold madeA at h
 split at h
 ·rename_i hc
  simp only [Bool.and_eq_true] at hc
  simp at h;obtain ⟨rfl,rfl⟩ := h
  have hs1 : Sim Z ρ H { w with drawn := w.drawn + 1 } := hs.of_heap rfl
  obtain ⟨hn, -, -⟩ := cellsFrom_run (P := P) hs hx hcf
  obtain ⟨-,hnl,ys,hys,hfc⟩ := cellsFrom_run (P := P) hs1 hx hcf
  have hfc := hfc n (Nat.le_refl _)
  rw [List.take_of_length_le (by rw [← hys.1,hnl];exact Nat.le_refl _)] at hfc
  obtain ⟨zv,hzv,hzr⟩ := zeroT_run hzt { w with drawn := w.drawn + 1 } Z ρ
  have hzs : zv.cells.size = i.size := by rw [← Array.length_toList,← hzr.cells.1,hzl]
  obtain ⟨cap,rest,hcap,hrl,hrun⟩ := append_out (P := P) (ts := ts) (t := t) (u := u) (base := base) (len := len) (c := c) (olds := olds) hu hi hnu hn (ho _ rfl) hfc hzv hzs hle hb hc.1 ty
  obtain ⟨g1,g2,g3⟩ := newRow_does (P := P) hs1 hf (m := Nat.max (boundL old) (boundL new)) (sz := i.size) (e := e) (g := true) (cs := old ++ new) (arr := (olds ++ ys ++ rest).toArray) e ⟨w.heap.size,0,(olds ++ ys ++ rest).toArray.size,i.size⟩ rfl rest (by simp) (fun h => by cases h)
   (hold.append hys) (boundL_le.2 fun x hx => (List.mem_append.1 hx).elim (fun hx => Nat.le_trans (boundL_le.1 (Nat.le_refl _) x hx) (Nat.le_max_left _ _)) (fun hx => Nat.le_trans (boundL_le.1 (Nat.le_refl _) x hx) (Nat.le_max_right _ _))) (by rw [List.all_append,hc.2,hflat];rfl)
  refine ⟨_,_,Z,_,hrun, ?_,g2,(Ext.of_heap (w := w) (w' := { w with drawn := w.drawn + 1 }) rfl rfl rfl rfl (Nat.le_succ _)).trans g3⟩
  refine .sl (off := 0) (upd_self ρ slot 0 _) (fun k hk => by cases hk) (fun _ => ?_) hcap
  have hyl : ys.length = n * i.size := by rw [← hys.1,hnl]
  have : len * i.size + n * i.size + (cap - (len + n)) * i.size = cap * i.size := by rw [← Nat.add_mul,← Nat.add_mul];congr 1;omega
  simp;omega
 ·cases h
theorem grow_out {ts : List TypeId} {t u e : TypeId} {i : TypeInfo} {zv : Value} {l : Int} {k : IntKind} (hu : P.underlying t = some (.slice e)) (hi : P.info? e = some i) (hud : P.underlying u = some (.int k)) (hl : 0 < l)
  (hz : (zeroValue e).run P { w with drawn := w.drawn + 1 } = .ok zv { w with drawn := w.drawn + 1 }) (hzs : zv.cells.size = i.size) (hs0 : i.size ≠ 0) (hb : i.bytes ≠ 0) (hf : fitsA i.bytes l.toNat = true) (ty : TypeId) :
  ∃ (cap : Nat) (rest : List Value),l.toNat ≤ cap ∧ rest.length = (cap - l.toNat) * i.size ∧ (Builtin.append_ (t :: u :: ts).toArray ty #[.slice none 0 0,.int .i64 l]).run P w =
   .ok (.slice (some ⟨w.heap.size,0,none⟩) l.toNat cap) { w with drawn := w.drawn + 1,heap := w.heap.push (.cells ((Builtin.zeroCells zv.cells l.toNat).toList ++ rest).toArray e) } := by
 have hsz : sizeT P e = some i.size := by simp [sizeT,hi]
 have hti : ∀ w : World,(typeInfo e).run P w = .ok i w := fun w => by simp [typeInfo,hi]
 have hcap := nextslicecap_le (need := 0 + l.toNat) (old := 0) (by omega)
 have hfit : (l.toNat + 1000) * i.bytes ≤ 2 ^ 40 := by simpa [fitsA] using hf
 have hb1 : ¬ (Builtin.nextslicecap (0 + l.toNat) 0 * i.bytes > 2 ^ 48) := by
  have := Nat.mul_le_mul_right i.bytes hcap
  have : (2 * (0 + l.toNat) + 192) * i.bytes ≤ 2 * ((l.toNat + 1000) * i.bytes) := by rw [← Nat.mul_assoc];exact Nat.mul_le_mul_right _ (by omega)
  omega
 have hlb : l.toNat * i.bytes ≤ 2 ^ 40 := Nat.le_trans (Nat.mul_le_mul_right _ (by omega)) hfit
 have hl40 : l.toNat ≤ 2 ^ 40 := by
  have : l.toNat * 1 ≤ l.toNat * i.bytes := Nat.mul_le_mul_left _ (by omega)
  omega
 have hln : ((l.toNat : Nat) : Int) = l := Int.toNat_of_nonneg (by omega)
 have hw : IntKind.i64.wrap l = l := wrap64_id (by omega) (by omega)
 have hai : (asInt (.int .i64 l)).run P w = .ok l w := by simp [asInt,asIntOf]
 have hlm : ¬ (l * (i.bytes : Int) > 2 ^ 48) := by
  have h1 : ((l.toNat * i.bytes : Nat) : Int) ≤ 1099511627776 := Int.ofNat_le.2 hlb
  rw [Int.natCast_mul,hln] at h1
  have h2 : (2 : Int) ^ 48 = 281474976710656 := rfl
  omega
 have hnz : ¬ (l.toNat * i.size = 0) := Nat.mul_ne_zero (by omega) hs0
 have hle : ¬ (0 + l.toNat ≤ 0) := by omega
 have hneg : ¬ (l < 0) := by omega
 have hmax : ¬ (((0 + l.toNat : Nat) : Int) > IntKind.i64.max) := by
  have : IntKind.i64.max = 2 ^ 63 - 1 := by rfl
  rw [this];omega
 have hq : (Question.appendCap (0 + l.toNat) 0 e).forced = false := rfl
 refine ⟨(Question.appendCap (0 + l.toNat) 0 e).cut (w.tape w.drawn (Question.appendCap (0 + l.toNat) 0 e)),(Builtin.zeroCells zv.cells ((Question.appendCap (0 + l.toNat) 0 e).cut (w.tape w.drawn (Question.appendCap (0 + l.toNat) 0 e)) - (0 + l.toNat))).toList,by simp [Question.cut],by rw [zeroCells_len,hzs,Nat.zero_add], ?_⟩
 simp only [Builtin.append_,List.getElem?_toArray,List.getElem?_cons_zero,List.getElem?_cons_succ,Sem.run_bind,underlying_run hu,underlying_run hud,sizeT_run hsz,hle,Result.andThen_ok,Sem.run_pure,if_false,if_true,hti,hb1,run_choose,hq,run_askRoom,hz,newRow,run_newObj,hai,hw,hneg,hlm,hmax,hnz,false_and,Bool.not_true,Bool.false_eq_true,Builtin.firstCells]
 simp
 congr 2;apply Array.ext';simp
theorem grow_does (hs : Sim Z ρ H w) {slot : Nat} (hf : Free H slot) {ts : List TypeId} {t u : TypeId} {s x v : AV} {a b : Value} {H' : Heap} (hsr : Rep Z ρ s a) (hxr : Rep Z ρ x b) (h : growA P H slot t u s x = some (v,H')) (ty : TypeId) :
  Does P Z ρ H w (Builtin.append_ (t :: u :: ts).toArray ty #[a,b]) v H' := by
 unfold growA at h
 split at h
 ·rename_i e k l hu hud
  split at h
  ·rename_i i z hi hzt
   split at h
   ·rename_i hc
    obtain ⟨h0,h1,h2,h3,h4⟩ := hc
    obtain ⟨rfl, -⟩ := hsr.v_inv
    obtain ⟨rfl, -⟩ := hxr.v_inv
    unfold madeA at h
    split at h
    ·rename_i hc
     simp only [Bool.and_eq_true] at hc
     simp at h;obtain ⟨rfl,rfl⟩ := h
     have hs1 : Sim Z ρ H { w with drawn := w.drawn + 1 } := hs.of_heap rfl
     obtain ⟨zv,hzv,hzr⟩ := zeroT_run hzt { w with drawn := w.drawn + 1 } Z ρ
     have hzs : zv.cells.size = i.size := by rw [← Array.length_toList,← hzr.cells.1,h3]
     obtain ⟨cap,rest,hcap,hrl,hrun⟩ := grow_out (P := P) (ts := ts) hu hi hud h0 hzv hzs h1 h2 hc.1 ty
     have hrep : RepL Z ρ (repeatCells z.cells l.toNat) (Builtin.zeroCells zv.cells l.toNat).toList := repeat_rep hzr.cells _ _ rfl
     have hfl := repeat_flat h4 l.toNat
     obtain ⟨g1,g2,g3⟩ := newRow_does (P := P) hs1 hf (m := Nat.max (boundL []) (boundL (repeatCells z.cells l.toNat))) (sz := i.size) (e := e) (g := true) (cs := [] ++ repeatCells z.cells l.toNat) (arr := ((Builtin.zeroCells zv.cells l.toNat).toList ++ rest).toArray) e ⟨w.heap.size,0,((Builtin.zeroCells zv.cells l.toNat).toList ++ rest).toArray.size,i.size⟩ rfl rest (by simp) (fun h => by cases h)
      hrep (boundL_le.2 fun x hx => Nat.le_trans (boundL_le.1 (Nat.le_refl _) x hx) (Nat.le_max_right _ _)) hfl
     refine ⟨_,_,Z,_,hrun, ?_,g2,(Ext.of_heap (w := w) (w' := { w with drawn := w.drawn + 1 }) rfl rfl rfl rfl (Nat.le_succ _)).trans g3⟩
     refine .sl (off := 0) (upd_self ρ slot 0 _) (fun k hk => by cases hk) (fun _ => ?_) hcap
     have : l.toNat * i.size + (cap - l.toNat) * i.size = cap * i.size := by rw [← Nat.add_mul];congr 1;omega
     have hzl' := zeroCells_len zv.cells l.toNat
     rw [hzs] at hzl'
     simp only [Array.length_toList] at hzl'
     simp [hzl',hrl];omega
    ·cases h
   ·cases h
  ·cases h
 ·cases h
theorem clear_does (hs : Sim Z ρ H w) {ts : List TypeId} {args : List AV} {vals : List Value} {H' : Heap} (hl : RepL Z ρ args vals) (h : clearA P H ts args = some H') (ty : TypeId) : Does P Z ρ H w (Builtin.clear_ ts.toArray ty vals.toArray) (.tup []) H' := by
 unfold clearA at h
 split at h
 ·rename_i t _ d _
  obtain ⟨dv,vs1,rfl,hdr,hl⟩ := hl.uncons
  split at h
  ·rename_i e hu
   split at h
   ·rename_i s z b ver off len cap hsz hzt
    split at h
    ·rename_i hlen
     split at h
     ·rename_i hzl
      obtain ⟨zv,hzv,hzr⟩ := zeroT_run hzt w Z ρ
      cases hdr with
      | sl hp hc hn' hle =>
       rename_i c pl
       have hrep : RepL Z ρ (repeatCells z.cells len) (Builtin.zeroCells zv.cells len).toList := repeat_rep hzr.cells _ _ rfl
       obtain ⟨w',Z',ρ',k1,k2,k3⟩ := cells_does (P := P) hs hp hrep h
       refine ⟨.tuple #[],w',Z',ρ', ?_,.tup (vs := []) rfl (fun i c v h => by simp at h),k2,k3⟩
       cases len with
       | zero => omega
       | succ n => simp [Builtin.clear_,underlying_run hu,hzv,k1]
     ·cases h
    ·rename_i hlen
     simp at h;subst h
     cases hdr with
     | sl hp hc hn' hle =>
      have : len = 0 := by omega
      subst this
      exact .same hs (x := .tuple #[]) (by simp [Builtin.clear_,underlying_run hu]) (.tup (vs := []) rfl (fun i c v h => by simp at h))
   ·simp at h;subst h
    obtain ⟨rfl, -⟩ := hdr.v_inv
    exact .same hs (x := .tuple #[]) (by simp [Builtin.clear_,underlying_run hu]) (.tup (vs := []) rfl (fun i c v h => by simp at h))
   ·cases h
  ·cases h
 ·cases h
theorem append_does (hs : Sim Z ρ H w) {slot : Nat} (hf : Free H slot) {ts : List TypeId} {args : List AV} {vals : List Value} {v : AV} {H' : Heap} (hl : RepL Z ρ args vals) (h : appendA P H slot ts args = some (v,H')) (ty : TypeId) :
  Does P Z ρ H w (Builtin.append_ ts.toArray ty vals.toArray) v H' := by
 unfold appendA at h
 split at h
 ·rename_i t u s x
  obtain ⟨sv,vs1,rfl,hsr,hl⟩ := hl.uncons
  obtain ⟨xv,vs2,rfl,hxr,hl⟩ := hl.uncons
  have : vs2 = [] := List.length_eq_zero_iff.1 hl.1.symm
  subst this
  split at h
  ·exact grow_does hs hf (ts := []) hsr hxr h ty
  rename_i hnu
  have hnu : isIntT P u = false := by simpa using hnu
  split at h
  ·rename_i e hu
   split at h
   ·rename_i i z hi hzt
    split at h
    ·cases h
    rename_i n new hcf
    split at h
    ·cases h
    rename_i hcond
    have hisz : i.size ≠ 0 := fun e => hcond (.inl e)
    have hb : i.bytes ≠ 0 := fun e => hcond (.inr (.inl e))
    have hflat : new.all AV.flat = true := by
     cases hx : new.all AV.flat with
     | true => rfl
     | false => exact absurd (.inr (.inr (.inl hx))) hcond
    have hzl : z.cells.length = i.size := Classical.byContradiction fun e => hcond (.inr (.inr (.inr e)))
    obtain ⟨hn,hnl,ys,hys,hfc⟩ := cellsFrom_run (P := P) hs hxr hcf
    have hfcn := hfc n (Nat.le_refl _)
    rw [List.take_of_length_le (by rw [← hys.1,hnl];exact Nat.le_refl _)] at hfcn
    -- nothing more
    have none_more : n = 0 → ∀ (base : Option Addr) (len c : Nat),len ≤ c → (Builtin.append_ ([t,u] : List TypeId).toArray ty #[.slice base len c,xv]).run P w = .ok (.slice base len c) w := by
     intro hn0 base len c hle
     subst hn0
     have hy : ys = [] := List.length_eq_zero_iff.1 (by rw [← hys.1,hnl];simp)
     subst hy
     rw [append_in hu hi hnu hn hfcn (by omega)]
     cases base <;> simp [Go.storeCells]
    unfold appendTo at h
    split at h
    ·obtain ⟨rfl, -⟩ := hsr.v_inv
     split at h
     ·rename_i hn0
      simp at h;obtain ⟨rfl,rfl⟩ := h
      exact .same hs (none_more hn0 none 0 0 (Nat.le_refl _)) (.v rfl)
     ·rename_i hn0
      exact made_does hs hf (ts := []) (len := 0) (c := 0) (base := none) (olds := []) (old := []) hu hi hnu hzt hzl hxr hcf hb hflat .nil (fun w1 _ => by simp [Builtin.firstCells]) (by omega) (by simp) (by rw [Nat.zero_add];exact h) ty
    ·rename_i sz xs cap
     split at h
     ·cases h
     rename_i hsz
     have hsz : sz = i.size := Classical.byContradiction hsz
     split at h
     ·rename_i hn0
      simp at h;obtain ⟨rfl,rfl⟩ := h
      have hsr' := hsr
      cases hsr with
      | vs hz ha hs' hl' hh hc hle => exact .same hs (none_more hn0 _ _ _ hle) hsr'
      | vs0 hc => exact .same hs (none_more hn0 _ _ _ (Nat.zero_le _)) hsr'
     ·rename_i hn0
      split at h
      ·rename_i c0
       split at h
       ·rename_i hc0
        subst hc0
        subst hsz
        cases hsr with
        | vs hz ha hs' hl' hh hc hle =>
         rename_i c blk arr e0 fz pre vs post
         have := hc _ rfl
         subst this
         refine made_does hs hf (ts := []) (len := xs.length) (c := xs.length) (olds := vs) (old := xs.flatMap AV.cells) hu hi hnu hzt hzl hxr hcf hb hflat ⟨hl',fun i c v hc hv => (hh i c v hc hv).mono (.refl _) (leP_no _)⟩ (fun w1 hw1 => ?_) (by omega) (by rw [← hl',flat_len hs']) h ty
         have hload := run_loadCells_list (P := P) w1 ⟨blk,pre.length,none⟩ vs (fun j x hj => by
          rw [addr_add]
          exact cell_at (by rw [hw1];exact hs.zok _ _ hz) ha hj)
         rw [← hl',flat_len hs'] at hload
         simpa [Builtin.firstCells] using hload
        | vs0 hc =>
         have := hc _ rfl
         simp at this
         subst this
         exact made_does hs hf (ts := []) (len := 0) (c := 0) (olds := []) (old := []) hu hi hnu hzt hzl hxr hcf hb hflat .nil (fun w1 _ => by simp [Builtin.firstCells,loadCells,loadCellsFrom]) (by omega) (by simp) (by simpa using h) ty
       ·cases h
      ·cases h
    ·rename_i b ver off len cap
     split at h
     ·rename_i hn0
      simp at h;obtain ⟨rfl,rfl⟩ := h
      have hsr' := hsr
      cases hsr with
      | sl hp hc hn' hle => exact .same hs (none_more hn0 _ _ _ hle) hsr'
     ·rename_i hn0
      split at h
      ·rename_i m e1 sz g cs hrow
       obtain ⟨pl,arr,e',h1,h2,h3,h3b,h3c,h4,pre,vs,post,h5,h6,h7,h7b,h8⟩ := hs.row hrow
       have hvl := h8.1
       cases hsr with
       | sl hp hc hn' hle =>
        rename_i c pl1
        rw [h1] at hp;cases hp
        -- into the cells that are there
        have into : ∀ {H2 : Heap},len + n ≤ c → storeCells H b ver (off + len * i.size) new = some H2 → Does P Z ρ H w (Builtin.append_ ([t,u] : List TypeId).toArray ty #[.slice (some ⟨pl.blk,pl.base + off,none⟩) len c,xv]) (.sl b ver off (len + n) cap) H2 := by
         intro H2 hroom hst
         obtain ⟨w',Z',ρ',k1,k2,k3⟩ := cells_does (P := P) hs h1 hys hst
         refine ⟨.slice (some ⟨pl.blk,pl.base + off,none⟩) (len + n) c,w',Z',ρ', ?_,.sl (k3.p _ _ _ h1) hc hn' hroom,k2,k3⟩
         rw [append_in hu hi hnu hn hfcn hroom]
         simp only [addr_add,Sem.run_bind,Nat.add_assoc] at k1 ⊢
         rw [k1];rfl
        split at h
        ·rename_i c0
         have := hc _ rfl
         subst this
         split at h
         ·rename_i hroom
          split at h
          ·rename_i H2 hst
           simp at h;obtain ⟨rfl,rfl⟩ := h
           exact into hroom hst
          ·cases h
         ·rename_i hroom
          split at h
          ·rename_i hin
           refine made_does hs hf (ts := []) (olds := (vs.drop off).take (len * i.size)) (old := (cs.drop off).take (len * i.size)) hu hi hnu hzt hzl hxr hcf hb hflat ((h8.drop _).take _) (fun w1 hw1 => ?_) hroom (by simp;omega) h ty
           have hload := run_loadCells_list (P := P) w1 ⟨pl.blk,pl.base + off,none⟩ ((vs.drop off).take (len * i.size)) (fun j x hj => by
            rw [addr_add,Nat.add_assoc,← h6]
            refine cell_at (by rw [hw1];exact h2) h5 ?_
            rw [List.getElem?_take] at hj
            split at hj
            ·rwa [List.getElem?_drop] at hj
            ·cases hj)
           rw [show ((vs.drop off).take (len * i.size)).length = len * i.size from by simp;omega] at hload
           simpa [Builtin.firstCells] using hload
          ·cases h
        ·split at h
         ·cases h
         rename_i hsz
         have hsz : sz = i.size := Classical.byContradiction hsz
         have hfin := hn' rfl
         rw [h3,hsz] at hfin
         split at h
         ·rename_i hin
          have hroom : len + n ≤ c := by
           refine Nat.le_of_mul_le_mul_right ?_ (Nat.pos_of_ne_zero hisz)
           omega
          split at h
          ·rename_i H2 hst
           simp at h;obtain ⟨rfl,rfl⟩ := h
           exact into hroom hst
          ·cases h
         ·split at h
          ·rename_i hgrow
           obtain ⟨hg,hend,hlock,hfits,hee⟩ := hgrow
           simp at h;obtain ⟨rfl,rfl⟩ := h
           -- a new name for what has grown
           have hfree : ρ b (ver + 1) = none := by
            cases hx : ρ b (ver + 1) with
            | none => rfl
            | some q =>
             obtain ⟨o,ho,hv⟩ := hs.fresh _ _ _ hx
             rw [Heap.row_get hrow] at ho;cases ho
             have hv := hv rfl
             simp [AObj.ver] at hv
             omega
           have hget := Heap.row_get hrow
           have hbound : boundL (cs.drop off ++ new) ≤ Nat.max m (boundL new) := boundL_le.2 fun x hx => (List.mem_append.1 hx).elim (fun hx => Nat.le_trans (boundL_le.1 h3b x (List.mem_of_mem_drop hx)) (Nat.le_max_left _ _)) (fun hx => Nat.le_trans (boundL_le.1 (Nat.le_refl _) x hx) (Nat.le_max_right _ _))
           have hfl : (cs.drop off ++ new).all AV.flat = true := by
            rw [List.all_append,hflat,Bool.and_true]
            exact List.all_eq_true.2 fun x hx => List.all_eq_true.1 h3c x (List.mem_of_mem_drop hx)
           have hyl : ys.length = n * i.size := by rw [← hys.1,hnl]
           have hoff : (vs.drop off).length = len * i.size := by simp;omega
           by_cases hroom : len + n ≤ c
           ·-- there is room behind
            have hmul : (len + n) * i.size ≤ c * i.size := Nat.mul_le_mul_right _ hroom
            rw [Nat.add_mul] at hmul
            have hpost : n * i.size ≤ post.length := by omega
            have hbig : pl.base + off + len * i.size + ys.length ≤ arr.size := by
             have : arr.size = pre.length + vs.length + post.length := by rw [← Array.length_toList,h5];simp;omega
             omega
            have hyone : ∀ y ∈ ys,y.oneCell' = true := by
             intro y hy
             obtain ⟨k,hk⟩ := List.getElem?_of_mem hy
             obtain ⟨q,hq⟩ := at_len hys.1.symm hk
             exact (hys.2 k q y hq hk).flat (List.all_eq_true.1 hflat q (List.mem_of_getElem? hq))
            have hst := run_storeCells_at P pl.blk (pl.base + off + len * i.size) e' ys 0 arr w h2 (by simpa using hbig) hyone
            let arr2 : Array Value := (pre ++ vs ++ ys ++ post.drop (n * i.size)).toArray
            have hset : w.setRow pl.blk (arr.toList.take (pl.base + off + len * i.size + 0) ++ ys ++ arr.toList.drop (pl.base + off + len * i.size + 0 + ys.length)).toArray = { w with heap := w.heap.setIfInBounds pl.blk (.cells arr2 e' (0,0)) } := by
             have hlt := (Array.getElem?_eq_some_iff.1 h2).1
             have hpv : pl.base + off + len * i.size = (pre ++ vs).length := by simp;omega
             have e1 : arr.toList.take (pl.base + off + len * i.size + 0) = pre ++ vs := by
              rw [Nat.add_zero,hpv,h5,List.take_left']
              rfl
             have e2 : arr.toList.drop (pl.base + off + len * i.size + 0 + ys.length) = post.drop (n * i.size) := by
              rw [Nat.add_zero,hpv,h5,← hyl,← List.drop_drop,List.drop_left']
              rfl
             rw [e1,e2]
             unfold World.setRow
             congr 1
             refine Array.ext_getElem? fun k => ?_
             rw [Array.getElem?_modify,Array.getElem?_setIfInBounds]
             split
             ·rename_i hk;subst hk
              have h2' := (Array.getElem?_eq_some_iff.1 h2).2
              simp [h2',hlt,arr2]
             ·rfl
            obtain ⟨q1,q2⟩ := hs.modify (o := .cells ver m e1 sz g cs) (o' := .cells (ver + 1) (Nat.max m (boundL new)) e i.size true (cs.drop off ++ new)) (pl' := ⟨pl.blk,pl.base + off,pl.fin - off,i.size⟩) (obj' := .cells arr2 e' (0,0)) hget rfl h1 hlock rfl (Nat.le_succ _) (.inl hfree) h2
             (fun _ _ _ h => by cases h;rfl) (fun _ _ _ h => by cases h;rfl)
             ⟨⟨rfl,(hs.rowE hrow h1 h2).trans hee,fun h => nomatch h⟩,rfl,hbound,hfl,pre ++ vs.take off,vs.drop off ++ ys,post.drop (n * i.size),by (simp only [arr2];rw [← List.append_assoc (pre ++ vs.take off),List.append_assoc pre (vs.take off),List.take_append_drop]),by simp;omega,by simp;omega,(fun h => nomatch h),((h8.drop off).append hys).mono (.refl _) (leP_upd (.inl hfree))⟩
            refine ⟨.slice (some ⟨pl.blk,pl.base + off,none⟩) (len + n) c,_,Z,_, ?_,.sl (off := 0) (upd_self ρ b (ver + 1) _) hc (fun _ => by simp;omega) hroom,q1,q2⟩
            rw [append_in hu hi hnu hn hfcn hroom]
            simp only [addr_add,Sem.run_bind]
            rw [hst,hset];rfl
           ·-- a new block
            have hs1 : Sim Z ρ H { w with drawn := w.drawn + 1 } := hs.of_heap rfl
            obtain ⟨-, -,ys1,hys1,hfc1⟩ := cellsFrom_run (P := P) hs1 hxr hcf
            have hfc1 := hfc1 n (Nat.le_refl _)
            rw [List.take_of_length_le (by rw [← hys1.1,hnl];exact Nat.le_refl _)] at hfc1
            have hy1l : ys1.length = n * i.size := by rw [← hys1.1,hnl]
            obtain ⟨zv,hzv,hzr⟩ := zeroT_run hzt { w with drawn := w.drawn + 1 } Z ρ
            have hzs : zv.cells.size = i.size := by rw [← Array.length_toList,← hzr.cells.1,hzl]
            have hload := run_loadCells_list (P := P) { w with drawn := w.drawn + 1 } ⟨pl.blk,pl.base + off,none⟩ (vs.drop off) (fun j x hj => by
             rw [addr_add,Nat.add_assoc,← h6]
             refine cell_at (w := { w with drawn := w.drawn + 1 }) h2 h5 ?_
             rwa [List.getElem?_drop] at hj)
            rw [hoff] at hload
            obtain ⟨cap2,rest,hcap2,hrl,hrun⟩ := append_out (P := P) (ts := []) (t := t) (u := u) (base := some ⟨pl.blk,pl.base + off,none⟩) (len := len) (c := c) (olds := vs.drop off) hu hi hnu hn (by simpa [Builtin.firstCells] using hload) hfc1 hzv hzs hroom hb hfits ty
            let pl' : Pl := ⟨w.heap.size,0,(vs.drop off ++ ys1 ++ rest).toArray.size,i.size⟩
            let w2 : World := { w with drawn := w.drawn + 1,heap := w.heap.push (.cells (vs.drop off ++ ys1 ++ rest).toArray e) }
            have hkeep : ∀ k,k < w.heap.size → k ≠ pl'.blk → w2.heap[k]? = w.heap[k]? := fun k hk _ => getElem?_push_lt' _ _ hk
            have hZn : Z w.heap.size = none := by
             cases hz : Z w.heap.size with
             | none => rfl
             | some x => have := hs.zok _ _ hz;simp at this
            have hfz := frozen_push w (.cells (vs.drop off ++ ys1 ++ rest).toArray e) (fun _ _ _ h => by cases h;rfl)
            have q1 : Sim Z (upd ρ b (ver + 1) pl') (H.put b (.cells (ver + 1) (Nat.max m (boundL new)) e i.size true (cs.drop off ++ new))) w2 :=
             hs.upd (o' := .cells (ver + 1) (Nat.max m (boundL new)) e i.size true (cs.drop off ++ new)) (pl' := pl') (Nat.le_of_lt (Heap.get_lt hget)) (fun o ho => by rw [hget] at ho;cases ho;exact ⟨rfl,Nat.le_succ _⟩) (.inl hfree) (obj' := .cells (vs.drop off ++ ys1 ++ rest).toArray e) (by simp [w2,pl']) hkeep hZn
              (fun d od pld _ hd hld hpd e => by have := hs.blk_lt hd hld hpd;simp [pl'] at e;omega)
              ⟨⟨rfl,rfl,fun h => nomatch h⟩,rfl,hbound,hfl,[],vs.drop off ++ ys1,rest,by simp,rfl,by simp [pl'];omega,(fun h => nomatch h),((h8.drop off).append hys1).mono (.refl _) (leP_upd (.inl hfree))⟩
            have q2 : Ext Z ρ H w Z (upd ρ b (ver + 1) pl') (H.put b (.cells (ver + 1) (Nat.max m (boundL new)) e i.size true (cs.drop off ++ new))) w2 :=
             Ext.upd (o' := .cells (ver + 1) (Nat.max m (boundL new)) e i.size true (cs.drop off ++ new)) (Nat.le_of_lt (Heap.get_lt hget)) (fun o ho => by rw [hget] at ho;cases ho;rfl) hlock (.inl hfree) hkeep (fun h => by simp [pl'] at h) (by simp [w2]) rfl rfl rfl (Nat.le_succ _) hfz
            refine ⟨_,w2,Z,_,hrun,.sl (off := 0) (upd_self ρ b (ver + 1) pl') (fun k hk => by cases hk) (fun _ => ?_) hcap2,q1,q2⟩
            have : len * i.size + n * i.size + (cap2 - (len + n)) * i.size = cap2 * i.size := by rw [← Nat.add_mul,← Nat.add_mul];congr 1;omega
            simp [pl'];omega
          ·cases h
      ·cases h
    ·cases h
   ·cases h
  ·cases h
 ·cases h
theorem copy_does (hs : Sim Z ρ H w) {ts : List TypeId} {args : List AV} {vals : List Value} {v : AV} {H' : Heap} (hl : RepL Z ρ args vals) (h : copyA P H ts args = some (v,H')) (ty : TypeId) :
  Does P Z ρ H w (Builtin.copy_ ts.toArray ty vals.toArray) v H' := by
 unfold copyA at h
 split at h
 ·rename_i t _ d x
  obtain ⟨dv,vs1,rfl,hdr,hl⟩ := hl.uncons
  obtain ⟨xv,vs2,rfl,hxr,hl⟩ := hl.uncons
  split at h
  ·rename_i e hu
   split at h
   ·rename_i s b ver off len cap hsz
    split at h
    ·rename_i n new hcf
     obtain ⟨hn,hnl,ys,hys,hfc⟩ := cellsFrom_run (P := P) hs hxr hcf
     split at h
     ·rename_i H2 hst
      simp at h;obtain ⟨rfl,rfl⟩ := h
      cases hdr with
      | sl hp hc hn' hle =>
       rename_i c pl
       obtain ⟨w',Z',ρ',k1,k2,k3⟩ := cells_does (P := P) hs hp (hys.take _) hst
       have hfc' := hfc (min n len) (Nat.min_le_left _ _)
       refine ⟨goInt (min n len : Nat),w',Z',ρ', ?_,.v rfl,k2,k3⟩
       have hmin : Nat.min n len = min n len := rfl
       simp [Builtin.copy_,underlying_run hu,hn,hmin,sizeT_run hsz,hfc',k1]
     ·cases h
    ·cases h
   ·rename_i s hsz
    split at h
    ·rename_i r hcf
     obtain ⟨n,new⟩ := r
     simp at h;obtain ⟨rfl,rfl⟩ := h
     obtain ⟨rfl, -⟩ := hdr.v_inv
     obtain ⟨hn,hnl,ys,hys,hfc⟩ := cellsFrom_run (P := P) hs hxr hcf
     have hfc' := hfc 0 (Nat.zero_le _)
     have hmin : Nat.min n 0 = 0 := Nat.min_zero n
     exact .same hs (x := goInt 0) (by simp [Builtin.copy_,underlying_run hu,hn,sizeT_run hsz,hfc']) (.v rfl)
    ·cases h
   ·cases h
  ·cases h
 ·cases h
end Go.Ev
namespace Go.Ev
variable {P : Program} {Z : Fzn} {ρ : Pls} {H : Heap} {w : World}
def RepE (Z : Fzn) (ρ : Pls) (es : List (AV × AV × Nat)) (ents : List MapEntry) : Prop :=
 ents.length = es.length ∧ ∀ (i : Nat) (k v : AV) (n : Nat) (e : MapEntry),es[i]? = some (k,v,n) → ents[i]? = some e → Rep Z ρ k e.key ∧ Rep Z ρ v e.val ∧ e.born = n
theorem RepE.cons_inv {x : AV × AV × Nat} {es : List (AV × AV × Nat)} {ents : List MapEntry} (h : RepE Z ρ (x :: es) ents) : ∃ e r,ents = e :: r ∧ Rep Z ρ x.1 e.key ∧ Rep Z ρ x.2.1 e.val ∧ RepE Z ρ es r := by
 obtain ⟨h1,h2⟩ := h
 cases ents with
 | nil => simp at h1
 | cons e r =>
  have h0 := h2 0 x.1 x.2.1 x.2.2 e rfl rfl
  exact ⟨e,r,rfl,h0.1,h0.2.1,by simpa using h1,fun i k v n e' he he' => h2 (i + 1) k v n e' (by simpa using he) (by simpa using he')⟩
def FoundIs (i0 : Nat) (es : List (AV × AV × Nat)) (ents : List MapEntry) (r : Option (Nat × AV)) (r' : Option (Nat × Value)) : Prop :=
 match r,r' with
 | none,none => True
 | some (i,v),some (j,x) => i = j ∧ ∃ p k n e,i = i0 + p ∧ es[p]? = some (k,v,n) ∧ ents[p]? = some e ∧ x = e.val
 | _,_ => False
theorem FoundIs.cons {i0 : Nat} {x : AV × AV × Nat} {es : List (AV × AV × Nat)} {e : MapEntry} {ents : List MapEntry} {r : Option (Nat × AV)} {r' : Option (Nat × Value)} (h : FoundIs (i0 + 1) es ents r r') : FoundIs i0 (x :: es) (e :: ents) r r' := by
 unfold FoundIs at h ⊢
 split at h
 ·trivial
 ·obtain ⟨h1,p,k,n,e',h2,h3,h4,h5⟩ := h
  exact ⟨h1,p + 1,k,n,e',by omega,by simpa using h3,by simpa using h4,h5⟩
 ·exact h.elim
theorem beq_bytes (a b : ByteArray) : (a == b) = decide (a = b) := by
 rw [show (a == b) = (a.data == b.data) from rfl,Bool.eq_iff_iff]
 simp only [beq_iff_eq,decide_eq_true_eq]
 cases a;cases b;simp
theorem bytesEq_beq (a b : ByteArray) : bytesEq a.data.toList b.data.toList = (a == b) := by
 rw [bytesEq_eq,beq_bytes,Bool.eq_iff_iff]
 simp only [beq_iff_eq,decide_eq_true_eq]
 cases a;cases b;simp [Array.toList_inj]
def plainKey (kd : TypeDesc) (x : Value) : Prop :=
 match kd,x with
 | .string,.string _ => True
 | .int j,.int j' _ => j = j'
 | .bool,.bool _ => True
 | _,_ => False
theorem plain_now {kd : TypeDesc} {kt : TypeId} {x : Value} (hp : plainKey kd x) {k' : AV} {u' : Value} {b : Bool} (h : keyEq P kt (.v x) k' = some b) (hr : Rep Z ρ k' u') : Instr.sameNow kd x u' = some b ∧ (b = true → ∀ n,Instr.sameBits n u' x = true) := by
 unfold plainKey at hp
 split at hp
 ·cases k' with
  | v y =>
   obtain ⟨rfl, -⟩ := hr.v_inv
   cases u' <;> simp only [keyEq] at h <;> first | (cases h;done) | skip
   rw [bytesEq_beq] at h
   simp only [Option.some.injEq] at h
   refine ⟨by simp [Instr.sameNow,h],fun hb n => ?_⟩
   subst hb
   rw [beq_bytes] at h
   simp only [decide_eq_true_eq] at h
   cases n <;> simp [Instr.sameBits,h,beq_bytes]
  | _ => simp [keyEq] at h
 ·subst hp
  cases k' with
  | v y =>
   obtain ⟨rfl, -⟩ := hr.v_inv
   cases u' <;> simp only [keyEq] at h <;> first | (cases h;done) | skip
   split at h
   ·rename_i e;subst e
    simp at h
    refine ⟨by simp [Instr.sameNow,h],fun hb n => ?_⟩
    subst hb
    simp at h
    cases n <;> simp [Instr.sameBits,h]
   ·cases h
  | _ => simp [keyEq] at h
 ·cases k' with
  | v y =>
   obtain ⟨rfl, -⟩ := hr.v_inv
   cases u' <;> simp only [keyEq] at h <;> first | (cases h;done) | skip
   simp at h
   refine ⟨by simp [Instr.sameNow,h],fun hb n => ?_⟩
   subst hb
   simp at h
   cases n <;> simp [Instr.sameBits,h]
  | _ => simp [keyEq] at h
 ·exact hp.elim
theorem plain_find {kd : TypeDesc} {kt : TypeId} {x : Value} (hp : plainKey kd x) : ∀ {es : List (AV × AV × Nat)} {ents : List MapEntry} {i0 : Nat} {r : Option (Nat × AV)},RepE Z ρ es ents →
  findKeyA P kt (.v x) es i0 = some r → ∃ r',Instr.findNow kd x ents i0 = some r' ∧ FoundIs i0 es ents r r'
 | [],ents,i0,r,hr,h => by
  have : ents = [] := List.length_eq_zero_iff.1 hr.1
  subst this
  simp [findKeyA] at h;subst h
  exact ⟨none,rfl,trivial⟩
 | (k',v,n) :: es,ents,i0,r,hr,h => by
  obtain ⟨e,ents,rfl,hk,hv,hr⟩ := hr.cons_inv
  unfold findKeyA at h
  split at h
  ·rename_i hq
   simp at h;subst h
   exact ⟨some (i0,e.val),by simp [Instr.findNow,(plain_now hp hq hk).1],rfl,0,k',n,e,rfl,rfl,rfl,rfl⟩
  ·rename_i hq
   obtain ⟨r',h1,h2⟩ := plain_find hp hr h
   exact ⟨r',by simp [Instr.findNow,(plain_now hp hq hk).1,h1],h2.cons⟩
  ·cases h
theorem asked_find {kt : TypeId} {cs : List AV} {u : Value} (hu : toValue (.agg cs) = some u) (w : World) : ∀ {es : List (AV × AV × Nat)} {ents : List MapEntry} {i0 : Nat} {r : Option (Nat × AV)},RepE Z ρ es ents →
  findKeyA P kt (.agg cs) es i0 = some r → ∃ r',(Instr.findAsking kt u ents i0).run P w = .ok r' w ∧ FoundIs i0 es ents r r'
 | [],ents,i0,r,hr,h => by
  have : ents = [] := List.length_eq_zero_iff.1 hr.1
  subst this
  simp [findKeyA] at h;subst h
  exact ⟨none,rfl,trivial⟩
 | (k',v,n) :: es,ents,i0,r,hr,h => by
  obtain ⟨e,ents,rfl,hk,hv,hr⟩ := hr.cons_inv
  have key : ∀ b,keyEq P kt (.agg cs) k' = some b → (Op.equal kt u e.key).run P w = .ok b w := by
   intro b hb
   unfold keyEq at hb
   split at hb <;> first | (cases ‹AV.agg _ = AV.v _›) | skip
   ·rename_i us ws he
    cases he
    rw [hu] at hb
    split at hb
    ·rename_i hx hy
     cases hx
     rw [toValue_rep hy hk]
     exact runPure_run hb w
    ·cases hb
   ·cases hb
  unfold findKeyA at h
  split at h
  ·rename_i hq
   simp at h;subst h
   exact ⟨some (i0,e.val),by simp [Instr.findAsking,key _ hq],rfl,0,k',n,e,rfl,rfl,rfl,rfl⟩
  ·rename_i hq
   obtain ⟨r',h1,h2⟩ := asked_find hu w hr h
   exact ⟨r',by simp [Instr.findAsking,key _ hq,h1],h2.cons⟩
  ·cases h
theorem key_ok {t kt e : TypeId} {k : AV} {u : Value} (h : mapKeyOk P t k = some (kt,e)) (hr : Rep Z ρ k u) :
  P.underlying t = some (.map kt e) ∧ bound k = 0 ∧ ∃ kd,P.underlying kt = some kd ∧ ((k = .v u ∧ plainKey kd u) ∨ (∃ cs,k = .agg cs ∧ toValue k = some u ∧ (∀ x y,Instr.sameNow kd x y = none) ∧ (runPure P (Instr.checkKey true 10000 kt u)).isSome ∧ (runPure P (Instr.checkKey false 10000 kt u)).isSome)) := by
 unfold mapKeyOk at h
 split at h
 ·rename_i kt' e' x hu
  obtain ⟨rfl, -⟩ := hr.v_inv
  split at h
  ·rename_i hk
   simp at h;obtain ⟨rfl,rfl⟩ := h
   exact ⟨hu,rfl,_,hk,.inl ⟨rfl,trivial⟩⟩
  ·rename_i hk
   split at h
   ·rename_i hj
    simp at h;obtain ⟨rfl,rfl⟩ := h
    exact ⟨hu,rfl,_,hk,.inl ⟨rfl,hj⟩⟩
   ·cases h
  ·rename_i hk
   simp at h;obtain ⟨rfl,rfl⟩ := h
   exact ⟨hu,rfl,_,hk,.inl ⟨rfl,trivial⟩⟩
  ·cases h
 ·rename_i kt' e' cs hu
  have hb : ∀ u1,toValue (.agg cs) = some u1 → bound (.agg cs) = 0 := by
   intro u1 h1
   simp only [toValue,Option.map_eq_some_iff] at h1
   obtain ⟨l,hl, -⟩ := h1
   have : ∀ {cs : List AV} {l : List Value},toAtoms cs = some l → boundL cs = 0 := by
    intro cs
    induction cs with
    | nil => intro _ _;rfl
    | cons c r ih =>
     intro l h
     cases c <;> simp [toAtoms] at h
     obtain ⟨m,hm, -⟩ := h
     simp [boundL,bound,ih hm]
   simp [bound,this hl]
  split at h
  ·rename_i u1 hk h1
   have := toValue_rep h1 hr
   subst this
   split at h
   ·rename_i q1 q2
    simp at h;obtain ⟨rfl,rfl⟩ := h
    exact ⟨hu,hb _ h1,_,hk,.inr ⟨cs,rfl,h1,fun x y => by simp [Instr.sameNow],by simp [q1],by simp [q2]⟩⟩
   ·cases h
  ·rename_i u1 hk h1
   have := toValue_rep h1 hr
   subst this
   split at h
   ·rename_i q1 q2
    simp at h;obtain ⟨rfl,rfl⟩ := h
    exact ⟨hu,hb _ h1,_,hk,.inr ⟨cs,rfl,h1,fun x y => by simp [Instr.sameNow],by simp [q1],by simp [q2]⟩⟩
   ·cases h
  ·cases h
 ·cases h
theorem checkKey_plain {kt : TypeId} {kd : TypeDesc} {u : Value} (hk : P.underlying kt = some kd) (hp : plainKey kd u) (b : Bool) (w : World) (n : Nat) : (Instr.checkKey b (n + 1) kt u).run P w = .ok () w := by
 unfold plainKey at hp
 split at hp
 ·simp [Instr.checkKey,underlying_run hk]
 ·simp [Instr.checkKey,underlying_run hk]
 ·simp [Instr.checkKey,underlying_run hk]
 ·exact hp.elim
theorem checkKey_run {t kt e : TypeId} {k : AV} {u : Value} (h : mapKeyOk P t k = some (kt,e)) (hr : Rep Z ρ k u) (b : Bool) (w : World) : (Instr.checkKey b 10000 kt u).run P w = .ok () w := by
 obtain ⟨-, -,kd,hk,⟨-,hp⟩ | ⟨-, -, -, -,h1,h2⟩⟩ := key_ok h hr
 ·exact checkKey_plain hk hp b w 9999
 ·cases b
  ·obtain ⟨a,ha⟩ := Option.isSome_iff_exists.1 h2
   exact runPure_run ha w
  ·obtain ⟨a,ha⟩ := Option.isSome_iff_exists.1 h1
   exact runPure_run ha w
theorem findKey_run {t kt e : TypeId} {k : AV} {u : Value} {es : List (AV × AV × Nat)} {ents : List MapEntry} {r : Option (Nat × AV)} (h : mapKeyOk P t k = some (kt,e)) (hr : Rep Z ρ k u) (he : RepE Z ρ es ents) (hf : findKeyA P kt k es 0 = some r) (w : World) :
  ∃ r',(Instr.findKey kt u ents).run P w = .ok r' w ∧ FoundIs 0 es ents r r' := by
 obtain ⟨-, -,kd,hk,⟨rfl,hp⟩ | ⟨cs,rfl,hu,hn, -, -⟩⟩ := key_ok h hr
 ·obtain ⟨r',h1,h2⟩ := plain_find hp he hf
  exact ⟨r',by simp [Instr.findKey,underlying_run hk,h1],h2⟩
 ·obtain ⟨r',h1,h2⟩ := asked_find hu w he hf
  refine ⟨r', ?_,h2⟩
  cases ents with
  | nil =>
   simp [Instr.findAsking] at h1;subst h1
   simp [Instr.findKey,underlying_run hk,Instr.findNow]
  | cons e0 ents => simp [Instr.findKey,underlying_run hk,Instr.findNow,hn,h1]
theorem lookup_does (hs : Sim Z ρ H w) {t : TypeId} {m k v : AV} {a u : Value} {ok : Bool} (hm : Rep Z ρ m a) (hk : Rep Z ρ k u) (h : lookupA P H t m k ok = some v) : Does P Z ρ H w (Instr.lookup t a u ok) v H := by
 unfold lookupA at h
 split at h
 ·cases h
 rename_i kt e hok
 obtain ⟨hu, -⟩ := key_ok hok hk
 split at h
 ·rename_i es z hes hz
  have hents : ∃ ents : Array MapEntry,RepE Z ρ es ents.toList ∧ ((a = .map none ∧ ents = #[]) ∨ ∃ r c,a = .map (some r) ∧ w.heap[r]? = some (.map ents c)) := by
   unfold mapOfA at hes
   split at hes
   ·simp at hes;subst hes
    obtain ⟨rfl, -⟩ := hm.v_inv
    exact ⟨#[],⟨rfl,fun i k v n e h => by simp at h⟩,.inl ⟨rfl,rfl⟩⟩
   ·split at hes
    ·rename_i hb
     simp at hes;subst hes
     obtain ⟨pl,ents,h1,h2,h3,h4,h5,h6⟩ := mapObj hs hb
     cases hm with
     | mp hp =>
      rw [h1] at hp;cases hp
      exact ⟨ents,⟨h5,h6⟩,.inr ⟨_,_,rfl,h2⟩⟩
    ·cases hes
   ·cases hes
  obtain ⟨ents,hre,hrun⟩ := hents
  obtain ⟨zv,hzv,hzr⟩ := zeroT_run hz w Z ρ
  have main : ∀ r,findKeyA P kt k es 0 = some r → ∃ r',FoundIs 0 es ents.toList r r' ∧ (Instr.lookup t a u ok).run P w = (do
    let (v,ok') ← match r' with
     | some (_,v) => pure (v,true)
     | none => pure (← zeroValue e,false)
    pure (if ok then .tuple #[v,.bool ok'] else v) : Sem Value).run P w := by
   intro r hr
   obtain ⟨r',h1,h2⟩ := findKey_run hok hk hre hr w
   refine ⟨r',h2, ?_⟩
   rcases hrun with ⟨rfl,rfl⟩ | ⟨q,c,rfl,hq⟩
   ·simp only [Instr.lookup,Sem.run_bind,underlying_run hu,Result.andThen_ok,Sem.run_pure,checkKey_run hok hk,h1]
    cases r' <;> rfl
   ·simp only [Instr.lookup,Sem.run_bind,underlying_run hu,Result.andThen_ok,run_getObj_map hq,Sem.run_pure,checkKey_run hok hk,h1]
    cases r' <;> rfl
  split at h
  ·cases h
  ·rename_i i x hf
   simp at h;subst h
   obtain ⟨r',h1,h2⟩ := main _ hf
   cases r' with
   | none => exact h1.elim
   | some jx =>
    obtain ⟨j,y⟩ := jx
    obtain ⟨-,p,k',n,e', -,h4,h5,rfl⟩ := h1
    obtain ⟨-,h6, -⟩ := hre.2 p k' x n e' h4 h5
    refine .same hs (x := if ok then .tuple #[e'.val,.bool true] else e'.val) (h2.trans (by simp)) ?_
    cases ok
    ·exact h6
    ·exact RepL.tup (.cons h6 (.cons (.v rfl) .nil))
  ·rename_i hf
   simp at h;subst h
   obtain ⟨r',h1,h2⟩ := main _ hf
   cases r' with
   | some jx => exact h1.elim
   | none =>
    refine .same hs (x := if ok then .tuple #[zv,.bool false] else zv) (h2.trans (by simp [hzv])) ?_
    cases ok
    ·exact hzr
    ·exact RepL.tup (.cons hzr (.cons (.v rfl) .nil))
 ·cases h
theorem run_setObj_map' {r : Nat} {ents : Array MapEntry} {c : Nat} (o : Obj) (h : w.heap[r]? = some (.map ents c)) : (setObj r o).run P w = .ok () { w with heap := w.heap.setIfInBounds r o } := by
 simp [setObj,Sem.run,h]
theorem setVal_get (k v : AV) : ∀ (i : Nat) (es : List (AV × AV × Nat)) (j : Nat),(setVal k v i es)[j]? = if j = i then (es[j]?).map (fun x => (k,v,x.2.2)) else es[j]?
 | i,[],j => by simp [setVal]
 | 0,(a,b,c) :: r,j => by cases j <;> simp [setVal]
 | i + 1,x :: r,j => by
  cases j with
  | zero => simp [setVal]
  | succ j => simp [setVal,setVal_get k v i r j]
theorem setVal_len (k v : AV) : ∀ (i : Nat) (es : List (AV × AV × Nat)),(setVal k v i es).length = es.length
 | i,[] => by simp [setVal]
 | 0,(a,b,c) :: r => by simp [setVal]
 | i + 1,x :: r => by simp [setVal,setVal_len k v i r]
theorem RepE.mono {Z' : Fzn} {ρ' : Pls} {es : List (AV × AV × Nat)} {ents : List MapEntry} (h : RepE Z ρ es ents) (hz : leZ Z Z') (hp : leP ρ ρ') : RepE Z' ρ' es ents :=
 ⟨h.1,fun i k v n e h1 h2 => let ⟨a,b,c⟩ := h.2 i k v n e h1 h2; ⟨a.mono hz hp,b.mono hz hp,c⟩⟩
theorem turnMap (hs : Sim Z ρ H w) {b m m' c c' : Nat} {es es' : List (AV × AV × Nat)} {pl : Pl} {ents ents' : Array MapEntry} (hb : H.get b = some (.map m es c)) (hp : ρ b 0 = some pl) (hw : w.heap[pl.blk]? = some (.map ents c)) (hlock : H.lock ≤ b)
  (hre : RepE Z ρ es' ents'.toList) (hbd : ∀ e ∈ es',bound e.1 = 0 ∧ bound e.2.1 ≤ m') :
  DoesU P Z ρ H w (setObj pl.blk (.map ents' c')) (H.put b (.map m' es' c')) := by
 have hle : leP ρ (upd ρ b 0 pl) := leP_upd (.inr hp)
 obtain ⟨q1,q2⟩ := hs.modify (o := .map m es c) (o' := .map m' es' c') (pl' := pl) (obj' := .map ents' c') hb rfl hp hlock rfl (Nat.le_refl _) (.inr hp) hw
  (fun _ _ _ h => by cases h) (fun _ _ _ h => by cases h) ⟨rfl,hbd,hre.1,(hre.mono (.refl _) hle).2⟩
 exact ⟨_,Z,_,run_setObj_map' _ hw,q1,q2⟩
theorem update_does (hs : Sim Z ρ H w) {t : TypeId} {m k v : AV} {a u x : Value} {H' : Heap} (hm : Rep Z ρ m a) (hk : Rep Z ρ k u) (hv : Rep Z ρ v x) (h : updateA P H t m k v = some H') : DoesU P Z ρ H w (Instr.mapUpdate t a u x) H' := by
 unfold updateA at h
 split at h
 ·rename_i kt e b hok
  obtain ⟨hu,hkb, -⟩ := key_ok hok hk
  split at h
  ·rename_i m0 es c hb
   obtain ⟨pl,ents,h1,h2,h3,h4,h5,h6⟩ := mapObj hs hb
   have hre : RepE Z ρ es ents.toList := ⟨h5,h6⟩
   cases hm with
   | mp hp =>
   rw [h1] at hp;cases hp
   split at h
   ·rename_i hlock
    split at h
    ·rename_i i v0 hf
     obtain ⟨r',q1,q2⟩ := findKey_run hok hk hre hf w
     cases r' with
     | none => exact q2.elim
     | some jx =>
     obtain ⟨j,y⟩ := jx
     obtain ⟨rfl,p,k1,n1,e1,hip,hesp,hentp,rfl⟩ := q2
     have : i = p := by omega
     subst this
     split at h
     ·rename_i k' v' n' hes
      rw [hesp] at hes;cases hes
      split at h
      ·rename_i hsame
       simp at h;subst h
       obtain ⟨g1,g2,g3⟩ := h6 _ _ _ _ _ hesp hentp
       have hbits : Instr.sameBits 10000 e1.key u = true := by
        obtain ⟨-, -,kd,hkd,⟨rfl,hpl⟩ | ⟨cs,rfl,hcs, -, -, -⟩⟩ := key_ok hok hk
        ·-- what is found is equal
         have : ∀ (es : List (AV × AV × Nat)) (ents : List MapEntry) (i0 j : Nat) (v0 : AV),RepE Z ρ es ents → findKeyA P kt (.v u) es i0 = some (some (j,v0)) → ∀ p e1,j = i0 + p → ents[p]? = some e1 → Instr.sameBits 10000 e1.key u = true := by
          intro es
          induction es with
          | nil => intro ents i0 j v0 _ hf;simp [findKeyA] at hf
          | cons x r ih =>
           intro ents i0 j v0 hr hf p e1 hj he1
           obtain ⟨k1,v1,n1⟩ := x
           obtain ⟨e,ents,rfl,hk1,hv1,hr⟩ := hr.cons_inv
           unfold findKeyA at hf
           split at hf
           ·rename_i hq
            simp at hf
            have : p = 0 := by omega
            subst this
            simp at he1;subst he1
            exact (plain_now hpl hq hk1).2 rfl 10000
           ·cases p with
            | zero =>
             -- the found one stands behind
             exfalso
             have : ∀ (es : List (AV × AV × Nat)) (i0 j : Nat) (v0 : AV),findKeyA P kt (.v u) es i0 = some (some (j,v0)) → i0 ≤ j := by
              intro es
              induction es with
              | nil => intro i0 j v0 hf;simp [findKeyA] at hf
              | cons x r ih =>
               intro i0 j v0 hf
               obtain ⟨k1,v1,n1⟩ := x
               unfold findKeyA at hf
               split at hf
               ·simp at hf;omega
               ·have := ih _ _ _ hf;omega
               ·cases hf
             have := this _ _ _ _ hf
             omega
            | succ p => exact ih ents (i0 + 1) j v0 hr hf p e1 (by omega) (by simpa using he1)
           ·cases hf
         exact this es ents.toList 0 i v0 hre hf i e1 (by omega) hentp
        ·cases k1 with
         | agg us =>
          simp only [sameKey] at hsame
          split at hsame
          ·rename_i q1 q2
           rw [toValue_rep q1 g1,toValue_rep q2 hk]
           exact hsame
          ·cases hsame
         | _ =>
          -- the found key is a struct,too
          exfalso
          have : ∀ (es : List (AV × AV × Nat)) (i0 j : Nat) (v0 : AV),findKeyA P kt (.agg cs) es i0 = some (some (j,v0)) → i0 ≤ j ∧ ∀ p x,j = i0 + p → es[p]? = some x → ∃ us,x.1 = .agg us := by
           intro es
           induction es with
           | nil => intro i0 j v0 hf;simp [findKeyA] at hf
           | cons x r ih =>
            intro i0 j v0 hf
            obtain ⟨k1,v1,n1⟩ := x
            unfold findKeyA at hf
            split at hf
            ·rename_i hq
             simp at hf
             refine ⟨by omega,fun p x hp hx => ?_⟩
             have : p = 0 := by omega
             subst this
             simp at hx;subst hx
             unfold keyEq at hq
             split at hq <;> first | (cases ‹AV.agg _ = AV.v _›) | skip
             ·exact ⟨_,rfl⟩
             ·cases hq
            ·have := ih _ _ _ hf
             refine ⟨by omega,fun p x hp hx => ?_⟩
             cases p with
             | zero => omega
             | succ p => exact this.2 p x (by omega) (by simpa using hx)
            ·cases hf
          obtain ⟨us,hus⟩ := (this _ _ _ _ hf).2 i _ (by omega) hesp
          cases hus
       have hstay : ∀ w,(Instr.keyThatStays e1.key u).run P w = .ok u w := fun w => by simp [Instr.keyThatStays,hbits]
       have hei : ents[i]? = some e1 := by rw [← Array.getElem?_toList];exact hentp
       obtain ⟨w',Z',ρ',t1,t2,t3⟩ := turnMap (P := P) hs (es' := setVal k v i es) (ents' := ents.modify i fun e => { e with key := u,val := x }) (m' := Nat.max m0 (bound v)) (c' := c) hb h1 h2 hlock
        ⟨by simp [setVal_len,h5],fun j kk vv n e hj he => by
         rw [setVal_get] at hj
         rw [Array.getElem?_toList,Array.getElem?_modify] at he
         by_cases hij : j = i
         ·subst hij
          simp [hesp,hei] at hj he
          obtain ⟨rfl,rfl,rfl⟩ := hj
          subst he
          exact ⟨hk,hv,g3⟩
         ·simp [hij] at hj
          simp [Ne.symm hij] at he
          exact h6 _ _ _ _ _ hj (by rw [Array.getElem?_toList];simpa using he)⟩
        (fun q hq => by
         obtain ⟨j,hj⟩ := List.getElem?_of_mem hq
         rw [setVal_get] at hj
         split at hj
         ·simp at hj
          obtain ⟨_,_,_, -,rfl⟩ := hj
          exact ⟨hkb,Nat.le_max_right _ _⟩
         ·have := h4 _ (List.mem_of_getElem? hj)
          exact ⟨this.1,Nat.le_trans this.2 (Nat.le_max_left _ _)⟩)
       refine ⟨w',Z',ρ', ?_,t2,t3⟩
       simp only [Instr.mapUpdate,Sem.run_bind,underlying_run hu,Result.andThen_ok,run_getObj_map h2,checkKey_run hok hk,q1,hei,Option.map_some,Option.getD_some,hstay,t1]
      ·cases h
     ·cases h
    ·rename_i hf
     obtain ⟨r',q1,q2⟩ := findKey_run hok hk hre hf w
     cases r' with
     | some jx => exact q2.elim
     | none =>
     simp at h;subst h
     obtain ⟨w',Z',ρ',t1,t2,t3⟩ := turnMap (P := P) hs (es' := es ++ [(k,v,c)]) (ents' := ents.push { key := u,val := x,born := c }) (m' := Nat.max m0 (bound v)) (c' := c + 1) hb h1 h2 hlock
      ⟨by simp;simpa using h5,fun j kk vv n e hj he => by
       have h5' : ents.size = es.length := by simpa using h5
       rw [Array.getElem?_toList,Array.getElem?_push] at he
       rw [List.getElem?_append] at hj
       split at hj
       ·rename_i hlt
        rw [if_neg (by omega)] at he
        exact h6 _ _ _ _ _ hj (by rw [Array.getElem?_toList];exact he)
       ·rename_i hlt
        have hjl : j = es.length := by
         have := (List.getElem?_eq_some_iff.1 hj).1
         simp at this
         omega
        subst hjl
        simp at hj
        rw [if_pos (by omega)] at he
        obtain ⟨rfl,rfl,rfl⟩ := hj
        cases he
        exact ⟨hk,hv,rfl⟩⟩
      (fun q hq => by
       rcases List.mem_append.1 hq with hq | hq
       ·have := h4 _ hq
        exact ⟨this.1,Nat.le_trans this.2 (Nat.le_max_left _ _)⟩
       ·simp at hq;subst hq
        exact ⟨hkb,Nat.le_max_right _ _⟩)
     refine ⟨w',Z',ρ', ?_,t2,t3⟩
     simp only [Instr.mapUpdate,Sem.run_bind,underlying_run hu,Result.andThen_ok,run_getObj_map h2,checkKey_run hok hk,q1,t1]
    ·cases h
   ·cases h
  ·cases h
 ·cases h
theorem delete_does (hs : Sim Z ρ H w) {ts : List TypeId} {args : List AV} {vals : List Value} {H' : Heap} (hl : RepL Z ρ args vals) (h : deleteA P H ts args = some H') (ty : TypeId) : Does P Z ρ H w (Builtin.delete_ ts.toArray ty vals.toArray) (.tup []) H' := by
 unfold deleteA at h
 split at h
 ·rename_i t _ m k _
  obtain ⟨a,vs1,rfl,hm,hl⟩ := hl.uncons
  obtain ⟨u,vs2,rfl,hk,hl⟩ := hl.uncons
  split at h
  ·rename_i kt e b hok
   obtain ⟨hu,hkb, -⟩ := key_ok hok hk
   split at h
   ·rename_i m0 es c hb
    obtain ⟨pl,ents,h1,h2,h3,h4,h5,h6⟩ := mapObj hs hb
    have hre : RepE Z ρ es ents.toList := ⟨h5,h6⟩
    cases hm with
    | mp hp =>
    rw [h1] at hp;cases hp
    split at h
    ·rename_i hlock
     split at h
     ·rename_i i v0 hf
      obtain ⟨r',q1,q2⟩ := findKey_run hok hk hre hf w
      cases r' with
      | none => exact q2.elim
      | some jx =>
      obtain ⟨j,y⟩ := jx
      obtain ⟨rfl,p,k1,n1,e1,hip,hesp,hentp,rfl⟩ := q2
      simp at h;subst h
      obtain ⟨w',Z',ρ',t1,t2,t3⟩ := turnMap (P := P) hs (es' := es.eraseIdx i) (ents' := ents.eraseIdxIfInBounds i) (m' := m0) (c' := c) hb h1 h2 hlock
       ⟨by simp [List.length_eraseIdx];simp at h5;simp [h5],fun j kk vv n e hj he => by
        have hto : (ents.eraseIdxIfInBounds i).toList = ents.toList.eraseIdx i := by simp
        rw [hto,List.getElem?_eraseIdx] at he
        rw [List.getElem?_eraseIdx] at hj
        split at hj
        ·rw [if_pos (by assumption)] at he;exact h6 _ _ _ _ _ hj he
        ·rw [if_neg (by assumption)] at he;exact h6 _ _ _ _ _ hj he⟩
       (fun q hq => h4 _ (List.mem_of_mem_eraseIdx hq))
      refine ⟨.tuple #[],w',Z',ρ', ?_,.tup (vs := []) rfl (fun i c v h => by simp at h),t2,t3⟩
      simp [Builtin.delete_,underlying_run hu,run_getObj_map h2,checkKey_run hok hk,q1,t1]
     ·rename_i hf
      obtain ⟨r',q1,q2⟩ := findKey_run hok hk hre hf w
      cases r' with
      | some jx => exact q2.elim
      | none =>
      simp at h;subst h
      obtain ⟨w',Z',ρ',t1,t2,t3⟩ := turnMap (P := P) hs (es' := es) (ents' := ents) (m' := m0) (c' := c) hb h1 h2 hlock hre h4
      refine ⟨.tuple #[],w',Z',ρ', ?_,.tup (vs := []) rfl (fun i c v h => by simp at h),t2,t3⟩
      simp [Builtin.delete_,underlying_run hu,run_getObj_map h2,checkKey_run hok hk,q1,t1]
     ·cases h
    ·cases h
   ·cases h
  ·cases h
 ·cases h
end Go.Ev
namespace Go.Ev
variable {P : Program} {Z : Fzn} {ρ : Pls} {H : Heap} {w : World}
def RepN (Z : Fzn) (ρ : Pls) (e : AV × AV × Nat) (x : MapEntry) : Prop := Rep Z ρ e.1 x.key ∧ Rep Z ρ e.2.1 x.val ∧ x.born = e.2.2
inductive Rel2 {α β : Type} (R : α → β → Prop) : List α → List β → Prop
 | nil : Rel2 R [] []
 | cons {a b l m} : R a b → Rel2 R l m → Rel2 R (a :: l) (b :: m)
theorem rel2_of {α β : Type} {R : α → β → Prop} : ∀ {l : List α} {m : List β},m.length = l.length → (∀ (i : Nat) (a : α) (b : β),l[i]? = some a → m[i]? = some b → R a b) → Rel2 R l m
 | [],[],_,_ => .nil
 | a :: l,b :: m,h,hr => .cons (hr 0 a b rfl rfl) (rel2_of (by simpa using h) fun i x y hx hy => hr (i + 1) x y (by simpa using hx) (by simpa using hy))
 | [],_ :: _,h,_ => by simp at h
 | _ :: _,[],h,_ => by simp at h
theorem Rel2.filter {α β : Type} {R : α → β → Prop} {p : α → Bool} {q : β → Bool} (hpq : ∀ a b,R a b → p a = q b) {l : List α} {m : List β} (h : Rel2 R l m) : Rel2 R (l.filter p) (m.filter q) := by
 induction h with
 | nil => exact .nil
 | @cons a b l m hab _ ih =>
  rw [List.filter_cons,List.filter_cons,hpq a b hab]
  split
  ·exact .cons hab ih
  ·exact ih
theorem Rel2.all {α β : Type} {R : α → β → Prop} {p : α → Bool} {q : β → Bool} (hpq : ∀ a b,R a b → p a = q b) {l : List α} {m : List β} (h : Rel2 R l m) : l.all p = m.all q := by
 induction h with
 | nil => rfl
 | cons hab _ ih => rw [List.all_cons,List.all_cons,hpq _ _ hab,ih]
theorem Rel2.find {α β : Type} {R : α → β → Prop} {p : α → Bool} {q : β → Bool} (hpq : ∀ a b,R a b → p a = q b) {l : List α} {m : List β} (h : Rel2 R l m) {a : α} (ha : l.find? p = some a) : ∃ b,m.find? q = some b ∧ R a b := by
 induction h with
 | nil => cases ha
 | @cons x y l m hab _ ih =>
  rw [List.find?_cons] at ha ⊢
  rw [← hpq x y hab]
  split at ha
  ·rename_i hp
   cases ha
   exact ⟨y,rfl,hab⟩
  ·rename_i hp
   exact ih ha
theorem Rel2.isEmpty {α β : Type} {R : α → β → Prop} {l : List α} {m : List β} (h : Rel2 R l m) : l.isEmpty = m.isEmpty := by cases h <;> rfl
theorem mapRel (hs : Sim Z ρ H w) {b m c : Nat} {es : List (AV × AV × Nat)} (h : H.get b = some (.map m es c)) : ∃ pl ents,ρ b 0 = some pl ∧ w.heap[pl.blk]? = some (.map ents c) ∧ Rel2 (RepN Z ρ) es ents.toList := by
 obtain ⟨pl,ents,h1,h2, -, -,h5,h6⟩ := mapObj hs h
 exact ⟨pl,ents,h1,h2,rel2_of h5 fun i e x he hx => h6 i e.1 e.2.1 e.2.2 x he hx⟩
theorem iterObj (hs : Sim Z ρ H w) {r m since last : Nat} {seen : List Nat} (h : H.get r = some (.iter m seen since last)) : ∃ pl pm seen',ρ r 0 = some pl ∧ pl.base = 0 ∧ w.heap[pl.blk]? = some (.mapIter (some pm.blk) since seen' last) ∧ seen'.toList = seen ∧ ρ m 0 = some pm := by
 obtain ⟨pl,obj,h1,h2,h3,h4⟩ := hs.objs r _ h rfl
 cases obj <;> simp only [RepO] at h3
 rename_i mm since' seen' last'
 cases mm with | none => exact False.elim h3 | some mk =>
 obtain ⟨g1,rfl,g3,rfl,pm,g5,rfl⟩ := h3
 exact ⟨pl,pm,seen',h1,g1,h2,g3,g5⟩
theorem run_getObj_iter {r : Nat} {m : Option Nat} {s l : Nat} {q : Array Nat} (h : w.heap[r]? = some (.mapIter m s q l)) : (getObj r).run P w = .ok (.mapIter m s q l) w := by
 simp [getObj,Sem.run,h]
theorem run_setObj_iter {k : Nat} {m : Option Nat} {s l : Nat} {q : Array Nat} (o : Obj) (h : w.heap[k]? = some (.mapIter m s q l)) : (setObj k o).run P w = .ok () { w with heap := w.heap.setIfInBounds k o } := by
 simp [setObj,Sem.run,h]
theorem run_newObj_any (o : Obj) : (newObj o).run P w = .ok w.heap.size { w with heap := w.heap.push o } := by
 simp [newObj,Sem.run]
theorem forced1 : (Question.mapNext 1).forced = true := rfl
theorem range_does (hs : Sim Z ρ H w) {slot : Nat} (hf : Free H slot) {t : TypeId} {x v : AV} {a : Value} {H' : Heap} (hx : Rep Z ρ x a) (h : rangeA P H slot t x = some (v,H')) : Does P Z ρ H w (Instr.range t a) v H' := by
 unfold rangeA at h
 split at h
 ·rename_i kt et b hu
  split at h
  ·rename_i m es clock hb
   simp only [Option.some.injEq,Prod.mk.injEq] at h
   obtain ⟨rfl,rfl⟩ := h
   cases hx with
   | @mp _ _ plb hp =>
   obtain ⟨pl,ents,h1,h2, -⟩ := mapRel hs hb
   rw [hp] at h1;cases h1
   obtain ⟨g2,g3⟩ := hs.alloc hf (o := .iter b [] clock clock) (obj := .mapIter (some plb.blk) clock #[] clock) (pl := ⟨w.heap.size,0,0,0⟩) rfl (fun _ _ _ h => by cases h) ⟨rfl,rfl,rfl,rfl,plb,leP_upd (.inl (hs.free hf.2.1 0)) _ _ _ hp,rfl⟩
   refine ⟨.pointer (some ⟨w.heap.size,0,none⟩),_,_,_, ?_, ?_,g2,g3⟩
   ·simp only [Instr.range,Sem.run_bind,underlying_run hu,Result.andThen_ok,run_getObj_map h2,Sem.run_pure,run_newObj_any]
   ·have := Rep.ptr (Z := Z) (k := 0) (upd_self ρ slot 0 ⟨w.heap.size,0,0,0⟩)
    exact this
  ·cases h
 ·rename_i s hu
  simp only [Option.some.injEq,Prod.mk.injEq] at h
  obtain ⟨rfl,rfl⟩ := h
  cases hx with
  | v _ =>
  obtain ⟨g2,g3⟩ := hs.alloc hf (o := .siter s 0) (obj := .stringIter s 0) (pl := ⟨w.heap.size,0,0,0⟩) rfl (fun _ _ _ h => by cases h) ⟨rfl,rfl,rfl⟩
  refine ⟨.pointer (some ⟨w.heap.size,0,none⟩),_,_,_, ?_, ?_,g2,g3⟩
  ·simp only [Instr.range,Sem.run_bind,underlying_run hu,Result.andThen_ok,Sem.run_pure,run_newObj_any]
  ·have := Rep.ptr (Z := Z) (k := 0) (upd_self ρ slot 0 ⟨w.heap.size,0,0,0⟩)
   exact this
 ·cases h
theorem ptr0_inv {r : Nat} {a : Value} {pl : Pl} (hx : Rep Z ρ (.ptr r 0 0) a) (hp : ρ r 0 = some pl) (h0 : pl.base = 0) : a = .pointer (some ⟨pl.blk,0,none⟩) := by
 cases hx with
 | ptr h => rw [hp] at h;cases h;rw [h0]
theorem siterObj (hs : Sim Z ρ H w) {r pos : Nat} {s : ByteArray} (h : H.get r = some (.siter s pos)) : ∃ pl,ρ r 0 = some pl ∧ pl.base = 0 ∧ w.heap[pl.blk]? = some (.stringIter s pos) := by
 obtain ⟨pl,obj,h1,h2,h3,h4⟩ := hs.objs r _ h rfl
 cases obj <;> simp only [RepO] at h3
 obtain ⟨g1,rfl,rfl⟩ := h3
 exact ⟨pl,h1,g1,h2⟩
theorem run_getObj_siter {r pos : Nat} {s : ByteArray} (h : w.heap[r]? = some (.stringIter s pos)) : (getObj r).run P w = .ok (.stringIter s pos) w := by
 simp [getObj,Sem.run,h]
theorem run_setObj_siter {k pos : Nat} {s : ByteArray} (o : Obj) (h : w.heap[k]? = some (.stringIter s pos)) : (setObj k o).run P w = .ok () { w with heap := w.heap.setIfInBounds k o } := by
 simp [setObj,Sem.run,h]
theorem decode_plain {s : ByteArray} {pos : Nat} {b : UInt8} (h : s.data[pos]? = some b) (hb : b.toNat < 128) : Utf8.decode s pos = (b.toNat,1) := by
 have hg : s.get! (pos + 0) = b := by
  show s.data[pos]! = b
  rw [getElem!_def,h]
 unfold Utf8.decode
 simp only [hg]
 rw [if_pos hb]
theorem nextS_does (hs : Sim Z ρ H w) {x v : AV} {a : Value} {H' : Heap} {ty : TypeId} (hx : Rep Z ρ x a) (h : nextSA H x = some (v,H')) : Does P Z ρ H w (Instr.next a true ty) v H' := by
 unfold nextSA at h
 split at h
 ·rename_i r
  split at h
  ·rename_i s pos hr
   split at h
   ·rename_i hlk
    have hlk : H.lock ≤ r := Nat.le_of_ble_eq_true hlk
    obtain ⟨pl,i1,i2,i3⟩ := siterObj hs hr
    obtain rfl := ptr0_inv hx i1 i2
    split at h
    ·rename_i b hb
     split at h
     ·rename_i hlt
      simp only [Option.some.injEq,Prod.mk.injEq] at h
      obtain ⟨rfl,rfl⟩ := h
      have hlt : b.toNat < 128 := by rw [Nat.blt_eq] at hlt;exact hlt
      have hps : pos < s.size := (Array.getElem?_eq_some_iff.1 hb).1
      have hup : upd ρ r 0 pl = ρ := by
       funext c d
       unfold upd
       split
       ·rename_i hcd;obtain ⟨rfl,rfl⟩ := hcd;exact i1.symm
       ·rfl
      obtain ⟨g2,g3⟩ := hs.modify (o' := .siter s (pos + 1)) (pl' := pl) (obj' := .stringIter s (pos + 1)) hr rfl i1 hlk rfl (Nat.le_refl _) (.inr i1) i3 (fun _ _ _ h => by cases h) (fun _ _ _ h => by cases h) ⟨i2,rfl,rfl⟩
      rw [show AObj.ver (.siter s (pos + 1)) = 0 from rfl,hup] at g2 g3
      refine ⟨.tuple #[.bool true,goInt pos,.int .i32 b.toNat],_,_,_, ?_, ?_,g2,g3⟩
      ·simp only [Instr.next,Sem.run_bind,run_getObj_siter i3,Result.andThen_ok,hps,if_true,decode_plain hb hlt,run_setObj_siter _ i3,Sem.run_pure]
      ·exact .tup (vs := [.bool true,goInt pos,.int .i32 b.toNat]) rfl fun i c y hc hy => by
        match i with
        | 0 => simp at hc hy;subst hc hy;exact .v rfl
        | 1 => simp at hc hy;subst hc hy;exact .v rfl
        | 2 => simp at hc hy;subst hc hy;exact .v rfl
        | i + 3 => simp at hc
     ·cases h
    ·rename_i hb
     simp only [Option.some.injEq,Prod.mk.injEq] at h
     obtain ⟨rfl,rfl⟩ := h
     have hps : ¬ pos < s.size := by
      intro hlt
      have := Array.getElem?_eq_getElem (xs := s.data) (i := pos) hlt
      rw [hb] at this;cases this
     refine .same hs (x := .tuple #[.bool false]) ?_ ?_
     ·simp only [Instr.next,Sem.run_bind,run_getObj_siter i3,Result.andThen_ok,hps,if_false,Sem.run_pure]
     ·exact .tup (vs := [.bool false]) rfl fun i c y hc hy => by
       match i with
       | 0 => simp at hc hy;subst hc hy;exact .v rfl
       | i + 1 => simp at hc
   ·cases h
  ·cases h
 ·cases h
theorem next_does (hs : Sim Z ρ H w) {x v : AV} {a : Value} {H' : Heap} {ty : TypeId} (hx : Rep Z ρ x a) (h : nextA H x = some (v,H')) : Does P Z ρ H w (Instr.next a false ty) v H' := by
 unfold nextA at h
 split at h
 ·rename_i r
  split at h
  ·rename_i b seen since last hr
   split at h
   ·rename_i m es clock hb
    split at h
    ·rename_i hc
     simp only [Bool.and_eq_true,Bool.not_eq_true'] at hc
     obtain ⟨hlk,hc⟩ := hc
     have hlk : H.lock ≤ r := Nat.le_of_ble_eq_true hlk
     obtain ⟨pl,pm,seen',i1,i2,i3,rfl,i5⟩ := iterObj hs hr
     obtain ⟨plm,ents,m1,m2,m3⟩ := mapRel hs hb
     rw [i5] at m1;cases m1
     obtain rfl := ptr0_inv hx i1 i2
     have hall : (es.all fun e => Nat.ble last e.2.2) = ents.all fun e => decide (e.born ≥ last) := by
      rw [m3.all (q := fun e => decide (e.born ≥ last)) (fun e y hy => by
       rw [hy.2.2,Bool.eq_iff_iff];simp [Nat.ble_eq]),← Array.all_toList]
     have hem : es.isEmpty = ents.isEmpty := by rw [m3.isEmpty,Array.isEmpty_toList]
     have hes : (seen'.toList).isEmpty = seen'.isEmpty := Array.isEmpty_toList
     have hcond : (!seen'.isEmpty && !ents.isEmpty && ents.all fun e => decide (e.born ≥ last)) = false := by rw [← hall,← hem,← hes];exact hc
     have hfil := m3.filter (p := fun e => !(seen'.toList.contains e.2.2)) (q := fun e => !(seen'.contains e.born)) (fun e y hy => by rw [hy.2.2,Array.contains_toList])
     have hft : (ents.filter fun e => !seen'.contains e.born).toList = ents.toList.filter fun e => !(seen'.contains e.born) := Array.toList_filter
     split at h
     ·rename_i hnil
      simp only [Option.some.injEq,Prod.mk.injEq] at h
      obtain ⟨rfl,rfl⟩ := h
      rw [hnil] at hfil
      have hE : (ents.filter fun e => !seen'.contains e.born) = #[] := by
       apply Array.toList_inj.1
       rw [hft]
       generalize ents.toList.filter _ = q at hfil
       cases hfil;rfl
      refine .same hs (x := .tuple #[.bool false]) ?_ ?_
      ·simp only [Instr.next,Sem.run_bind,run_getObj_iter i3,Result.andThen_ok,run_getObj_map m2,hcond,Bool.false_eq_true,if_false,hE]
       simp [forced1]
      ·exact .tup (vs := [.bool false]) rfl fun i c y hc hy => by
        match i with
        | 0 => simp at hc hy;subst hc hy;exact .v rfl
        | i + 1 => simp at hc
     ·rename_i k u n hone
      split at h
      ·rename_i hlt
       simp only [Option.some.injEq,Prod.mk.injEq] at h
       obtain ⟨rfl,rfl⟩ := h
       rw [hone] at hfil
       obtain ⟨e,hE,hk,hu,hn⟩ : ∃ e,(ents.filter fun e => !seen'.contains e.born) = #[e] ∧ Rep Z ρ k e.key ∧ Rep Z ρ u e.val ∧ e.born = n := by
        generalize hq : ents.toList.filter _ = q at hfil
        cases hfil with
        | cons hab ht =>
         cases ht
         rename_i e
         exact ⟨e,by apply Array.toList_inj.1;rw [hft,hq],hab.1,hab.2.1,hab.2.2⟩
       subst hn
       have hlt : e.born < since := by rw [Nat.blt_eq] at hlt;exact hlt
       have hup : upd ρ r 0 pl = ρ := by
        funext c d
        unfold upd
        split
        ·rename_i hcd;obtain ⟨rfl,rfl⟩ := hcd;exact i1.symm
        ·rfl
       obtain ⟨g2,g3⟩ := hs.modify (o' := .iter b (seen'.toList ++ [e.born]) since clock) (pl' := pl) (obj' := .mapIter (some pm.blk) since (seen'.push e.born) clock) hr rfl i1 hlk rfl (Nat.le_refl _) (.inr i1) i3 (fun _ _ _ h => by cases h) (fun _ _ _ h => by cases h)
        ⟨i2,rfl,by simp,rfl,pm,by rw [show AObj.ver (.iter b (seen'.toList ++ [e.born]) since clock) = 0 from rfl,hup];exact i5,rfl⟩
       rw [show AObj.ver (.iter b (seen'.toList ++ [e.born]) since clock) = 0 from rfl,hup] at g2 g3
       refine ⟨.tuple #[.bool true,e.key,e.val],_,_,_, ?_, ?_,g2,g3⟩
       ·simp only [Instr.next,Sem.run_bind,run_getObj_iter i3,Result.andThen_ok,run_getObj_map m2,hcond,Bool.false_eq_true,if_false,hE]
        simp [forced1,hlt,Nat.not_le.2 hlt,run_setObj_iter _ i3]
       ·exact .tup (vs := [.bool true,e.key,e.val]) rfl fun i c y hc hy => by
         match i with
         | 0 => simp at hc hy;subst hc hy;exact .v rfl
         | 1 => simp at hc hy;subst hc hy;exact hk
         | 2 => simp at hc hy;subst hc hy;exact hu
         | i + 3 => simp at hc
      ·cases h
     ·cases h
    ·cases h
   ·cases h
  ·cases h
 ·cases h
theorem entry_does (hs : Sim Z ρ H w) {x v : AV} {a : Value} (hx : Rep Z ρ x a) (h : entryA H x = some v) : Does P Z ρ H w (Instr.entry a) v H := by
 unfold entryA at h
 split at h
 ·rename_i r
  split at h
  ·rename_i b seen since last hr
   split at h
   ·rename_i m es clock s hb hlast
    split at h
    ·rename_i hcl
     subst hcl
     split at h
     ·rename_i k u n hfind
      simp only [Option.some.injEq] at h
      subst h
      obtain ⟨pl,pm,seen',i1,i2,i3,rfl,i5⟩ := iterObj hs hr
      obtain ⟨plm,ents,m1,m2,m3⟩ := mapRel hs hb
      rw [i5] at m1;cases m1
      obtain rfl := ptr0_inv hx i1 i2
      obtain ⟨e,he,hk,hu, -⟩ := m3.find (q := fun e => e.born == s) (fun e y hy => by rw [hy.2.2]) hfind
      have he' : (ents.find? fun e => e.born == s) = some e := by rw [← Array.find?_toList];exact he
      have hb' : seen'.back? = some s := by rw [← Array.getLast?_toList];exact hlast
      refine .same hs (x := .tuple #[e.key,e.val]) ?_ ?_
      ·simp only [Instr.entry,Sem.run_bind,run_getObj_iter i3,Result.andThen_ok,run_getObj_map m2,hb']
       simp [he']
      ·exact .tup (vs := [e.key,e.val]) rfl fun i c y hc hy => by
        match i with
        | 0 => simp at hc hy;subst hc hy;exact hk
        | 1 => simp at hc hy;subst hc hy;exact hu
        | i + 2 => simp at hc
     ·cases h
    ·cases h
   ·cases h
  ·cases h
 ·cases h
end Go.Ev
namespace Go.Ev
variable {P : Program} {Z : Fzn} {ρ : Pls} {H : Heap} {w : World}
theorem bytesV_some : ∀ {xs : List AV} {l : List UInt8},bytesV xs = some l → xs = l.map fun b => .v (.int .u8 b.toNat)
 | [],l,h => by simp [bytesV] at h;subst h;rfl
 | x :: r,l,h => by
  unfold bytesV at h
  split at h
  ·rename_i h';cases h'
  ·rename_i n r' h'
   simp only [List.cons.injEq] at h'
   obtain ⟨rfl,rfl⟩ := h'
   split at h
   ·rename_i hn
    split at h
    ·rename_i l' hl
     simp only [Option.some.injEq] at h
     subst h
     rw [bytesV_some hl]
     have : ((n.toNat.toUInt8).toNat : Int) = n := by
      rw [Nat.toUInt8,UInt8.toNat_ofNat'];omega
     rw [List.map_cons,this]
    ·cases h
   ·cases h
  ·cases h
theorem bytes_cells (l : List UInt8) : (l.map fun b => AV.v (.int .u8 b.toNat)).flatMap AV.cells = l.map fun b => AV.v (.int .u8 b.toNat) := by
 induction l with
 | nil => rfl
 | cons a r ih => simp only [List.map_cons,List.flatMap_cons,ih];rfl
theorem bytes_rep {ρ : Pls} {l : List UInt8} {vs : List Value} (h : RepL Z ρ (l.map fun b => AV.v (.int .u8 b.toNat)) vs) : vs = l.map fun b => Value.int .u8 b.toNat := by
 refine List.ext_getElem? fun i => ?_
 rw [List.getElem?_map]
 cases hl : l[i]? with
 | none =>
  rw [List.getElem?_eq_none]; · rfl
  ·rw [← h.1,List.length_map];exact List.getElem?_eq_none_iff.1 hl
 | some b =>
  have hc : (l.map fun b => AV.v (.int .u8 b.toNat))[i]? = some (.v (.int .u8 b.toNat)) := by rw [List.getElem?_map,hl];rfl
  obtain ⟨x,hx,hr⟩ := h.get hc
  rw [hx,hr.v_inv.1];rfl
theorem run_bytesToString {a : Addr} {c : Nat} (l : List UInt8) (hload : (loadCells a l.length).run P w = .ok (l.map fun b => Value.int .u8 b.toNat).toArray w) : (Conv.bytesToString (.slice (some a) l.length c)).run P w = .ok (.string ⟨l.toArray⟩) w := by
 unfold Conv.bytesToString
 simp only [Sem.run_bind,hload,Result.andThen_ok]
 rw [← Array.forIn_toList]
 have key : ∀ (m : List UInt8) (s : ByteArray),(forIn (m.map fun b => Value.int .u8 b.toNat) s (fun c r => (match c with | .int .u8 n => pure (ForInStep.yield (r.push (UInt8.ofNat n.toNat))) | _ => (do stuck "bytesToString: byte expected";pure (ForInStep.yield r))) : Value → ByteArray → Sem (ForInStep ByteArray))).run P w = .ok ⟨s.data ++ m.toArray⟩ w := by
  intro m
  induction m with
  | nil => intro s;simp
  | cons b r ih =>
   intro s
   simp only [List.map_cons,List.forIn_cons,pure_bind]
   rw [ih]
   congr 1
   apply ByteArray.ext
   simp [ByteArray.push]
 refine Eq.trans (congrArg (fun r => Result.andThen r fun a w' => (pure (Value.string a) : Sem Value).run P w') (key l ByteArray.empty)) ?_
 simp
theorem vsBytes (hs : Sim Z ρ H w) {sz : Nat} {xs : List AV} {cap : Option Nat} {y : Value} (hy : Rep Z ρ (.vs sz xs cap) y) {b : UInt8} {l : List UInt8} (hb : bytesV xs = some (b :: l)) :
  ∃ a c,y = .slice (some a) (b :: l).length c ∧ (Conv.bytesToString (.slice (some a) (b :: l).length c)).run P w = .ok (.string ⟨(b :: l).toArray⟩) w := by
 have hxs := bytesV_some hb
 cases hy with
 | vs hz ha hsz hl' hh hcap hle =>
  rename_i c blk arr e fz pre vs post
  have hlen : xs.length = (b :: l).length := by rw [hxs,List.length_map]
  rw [hlen]
  refine ⟨_,c,rfl,run_bytesToString (b :: l) ?_⟩
  rw [hxs,bytes_cells] at hl' hh
  have hvs := bytes_rep (Z := Z) (ρ := noPls) (l := b :: l) (vs := vs) ⟨hl',hh⟩
  have hload := run_loadCells_list (P := P) w ⟨blk,pre.length,none⟩ vs (fun j x hj => by
   rw [addr_add]
   exact cell_at (hs.zok _ _ hz) ha hj)
  rw [hvs,List.length_map] at hload
  exact hload
 | vs0 => simp [bytesV] at hb
theorem freeze_heap (w : World) (a : Addr) (n k : Nat) (hk : k ≠ a.block) : (w.freeze a n).heap[k]? = w.heap[k]? := by
 unfold World.freeze
 split
 ·rfl
 ·simp [Array.getElem?_modify,Ne.symm hk]
theorem freeze_size (w : World) (a : Addr) (n : Nat) : (w.freeze a n).heap.size = w.heap.size := by
 unfold World.freeze
 split
 ·rfl
 ·simp
theorem freeze_rest (w : World) (a : Addr) (n : Nat) : (w.freeze a n).os = w.os ∧ (w.freeze a n).output = w.output ∧ (w.freeze a n).tape = w.tape ∧ (w.freeze a n).drawn = w.drawn := by
 unfold World.freeze
 split <;> exact ⟨rfl,rfl,rfl,rfl⟩
theorem Sim.killF (hs : Sim Z ρ H w) {b : Nat} {o : AObj} {pl : Pl} (hb : H.get b = some o) (hl : o.live = true) (hp : ρ b o.ver = some pl) (hlock : H.lock ≤ b) {w' : World}
  (hk : ∀ k,k ≠ pl.blk → w'.heap[k]? = w.heap[k]?) (hz : w'.heap.size = w.heap.size) (hr : w'.os = w.os ∧ w'.output = w.output ∧ w'.tape = w.tape ∧ w'.drawn = w.drawn) :
  Sim Z ρ (H.put b .dead) w' ∧ Ext Z ρ H w Z ρ (H.put b .dead) w' := by
 obtain ⟨q1,q2⟩ := hs.kill hb hl hlock
 have hsz := Nat.le_of_lt (Heap.get_lt hb)
 have hZ : Z pl.blk = none := by
  obtain ⟨pl1,obj1,h1,h2,h3,h4⟩ := hs.objs b o hb hl
  rw [hp] at h1;cases h1;exact h4
 have hown : Own ρ H pl.blk := ⟨b,o,pl,hlock,hb,hl,hp,rfl⟩
 refine ⟨⟨fun c x hc hx => ?_,q1.inj,fun k x hk' => ?_,q1.fresh,q1.lk,q1.lg⟩,⟨q2.z,q2.p,fun k _ ho => hk k fun e => ho (by rw [e];exact hown),q2.own,by rw [hz];exact Nat.le_refl _,hr.1,hr.2.1,hr.2.2.1,fun _ => by rw [hr.2.2.2];exact Nat.le_refl _,fun a _ ho => frozen_same (hk _ fun e => ho (by rw [e];exact hown)),q2.lock,q2.old,q2.hsz,q2.zf,q2.pold,q2.dd⟩⟩
 ·obtain ⟨pl1,obj1,h1,h2,h3,h4⟩ := q1.objs c x hc hx
  refine ⟨pl1,obj1,h1,(hk _ fun e => ?_).trans h2,h3,h4⟩
  rw [H.get_put b _ hsz] at hc
  split at hc
  ·cases hc;simp [AObj.live] at hx
  ·rename_i hne
   exact hne (hs.inj c b x o pl1 pl hc hx hb hl h1 hp e)
 ·have h := hs.zok k x hk'
  rw [hk k fun e => by rw [e,hZ] at hk';cases hk'];exact h
theorem sliceData_does (hs : Sim Z ρ H w) {args : List AV} {vals : List Value} {v : AV} (hl : RepL Z ρ args vals) (h : sliceDataA args = some v) (ts : Array TypeId) (ty : TypeId) : Does P Z ρ H w (Builtin.unsafeSliceData_ ts ty vals.toArray) v H := by
 unfold sliceDataA at h
 split at h
 ·obtain ⟨x,vs,rfl,hx,hl⟩ := hl.uncons
  have : vs = [] := List.length_eq_zero_iff.1 hl.1.symm
  subst this
  obtain ⟨rfl, -⟩ := hx.v_inv
  simp only [Option.some.injEq] at h
  subst h
  exact .same hs (x := .pointer none) (Lib.run_unsafeSliceData_nil w ts ty 0 0) (.v rfl)
 ·rename_i b ver off len cap
  split at h
  ·rename_i hlen
   simp only [Option.some.injEq] at h
   subst h
   obtain ⟨x,vs,rfl,hx,hl⟩ := hl.uncons
   have : vs = [] := List.length_eq_zero_iff.1 hl.1.symm
   subst this
   cases hx with
   | sl hp hc hn hle =>
    rename_i c pl
    exact .same hs (x := .pointer (some ⟨pl.blk,pl.base + off,none⟩)) (Lib.run_unsafeSliceData_row w ts ty _ _ _ (by omega)) (.ptr hp)
  ·cases h
 ·cases h
theorem liesAt_off {e : TypeId} (hc : P.cellsOf e = 1) (count off n : Nat) (hn : off + n ≤ count) : liesAt P P.depth e count off e n = true := by
 have hd : P.depth = (2 * (P.types.size + Made.depth) + 1) + 1 := rfl
 rw [hd]
 simp only [liesAt,Bool.or_eq_true]
 left
 rw [hd]
 simp [rowAt,hc,hn,sameLayout,Nat.mod_one]
theorem unsafeStr_does (hs : Sim Z ρ H w) {ts : List TypeId} {args : List AV} {vals : List Value} {v : AV} {H' : Heap} (hl : RepL Z ρ args vals) (h : unsafeStrA P H ts args = some (v,H')) (ty : TypeId) :
  Does P Z ρ H w (Builtin.unsafeString_ ts.toArray ty vals.toArray) v H' := by
 unfold unsafeStrA at h
 split at h
 ·rename_i pt it n
  split at h
  ·rename_i hn
   subst hn
   simp only [Option.some.injEq,Prod.mk.injEq] at h
   obtain ⟨rfl,rfl⟩ := h
   obtain ⟨x,vs,rfl,hx,hl⟩ := hl.uncons
   obtain ⟨y,vs,rfl,hy,hl⟩ := hl.uncons
   have : vs = [] := List.length_eq_zero_iff.1 hl.1.symm
   subst this
   obtain ⟨rfl, -⟩ := hx.v_inv
   obtain ⟨rfl, -⟩ := hy.v_inv
   exact .same hs (x := .string .empty) (Lib.run_unsafeString_none w pt it ty none) (.v rfl)
  ·cases h
 ·rename_i pt it b ver k n
  split at h
  ·rename_i e m e' sz g cs hu hrow
   split at h
   ·rename_i hc
    obtain ⟨rfl,hlock,hn0,hn1,hle,hcell⟩ := hc
    split at h
    ·rename_i l hb
     simp only [Option.some.injEq,Prod.mk.injEq] at h
     obtain ⟨rfl,rfl⟩ := h
     obtain ⟨x,vs,rfl,hx,hl⟩ := hl.uncons
     obtain ⟨y,vs,rfl,hy,hl⟩ := hl.uncons
     have : vs = [] := List.length_eq_zero_iff.1 hl.1.symm
     subst this
     obtain ⟨rfl, -⟩ := hy.v_inv
     obtain ⟨pl,arr,e1,h1,h2,h3,h3b,h3c,h4,pre,us,post,h5,h6,h7,h7b,h8⟩ := hs.row hrow
     obtain rfl := hs.rowE hrow h1 h2
     cases hx with
     | ptr hp =>
     rename_i pl'
     rw [h1] at hp;cases hp
     have hbs := bytesV_some hb
     have hrl : RepL Z ρ ((cs.drop k).take n.toNat) ((us.drop k).take n.toNat) := (h8.drop k).take n.toNat
     rw [hbs] at hrl
     have hus := bytes_rep hrl
     have hll : l.length = n.toNat := by
      have := congrArg List.length hbs
      rw [List.length_take,List.length_drop,List.length_map] at this;omega
     have hcl : ∀ j z,l[j]? = some z → w.cell? ((⟨pl.blk,pl.base + k,none⟩ : Addr).add j) = some (.int .u8 z.toNat) := by
      intro j z hj
      rw [addr_add,← h6,Nat.add_assoc]
      refine cell_at h2 h5 ?_
      have : ((us.drop k).take n.toNat)[j]? = some (.int .u8 z.toNat) := by rw [hus,List.getElem?_map,hj];rfl
      rw [List.getElem?_take] at this
      split at this
      ·rwa [List.getElem?_drop] at this
      ·cases this
     have hlb := Lib.run_loadBytes (P := P) w l ⟨pl.blk,pl.base + k,none⟩ .empty hcl
     rw [hll] at hlb
     have hsz : arr.size = pre.length + us.length + post.length := by rw [← Array.length_toList,h5];simp;omega
     have hlies := liesAt_off (P := P) hcell (arr.size / P.cellsOf e1) (pl.base + k) n.toNat (by rw [hcell,Nat.div_one,hsz,← h8.1,← h6];omega)
     have hsh : w.shape? pl.blk = some (e1,arr.size) := by simp [World.shape?,h2]
     have hmax : IntKind.i64.max = 9223372036854775807 := rfl
     obtain ⟨q1,q2⟩ := hs.killF (w' := w.freeze ⟨pl.blk,pl.base + k,none⟩ n.toNat) (Heap.row_get hrow) rfl h1 hlock (fun j hj => freeze_heap w _ _ j hj) (freeze_size w _ _) (freeze_rest w _ _)
     refine ⟨.string ⟨l.toArray⟩,_,Z,ρ, ?_,.v rfl,q1,q2⟩
     have a1 : ¬ n < 0 := by omega
     have a2 : ¬ 9223372036854775807 < n := by omega
     have a3 : n ≠ 0 := by omega
     have hdef : Builtin.unsafeString_ #[pt,it] ty #[.pointer (some ⟨pl.blk,pl.base + k,none⟩),.int .i64 n] =
       (do
        let n ← asInt (.int .i64 n)
        if n < 0 then runtimePanic (.error "unsafe.String: len out of range")
        if n > IntKind.i64.max then unsupported (.unsafePointer "String: a length above the largest int")
        if n = 0 then pure (.string .empty)
        else if ← variablesAt ⟨pl.blk,pl.base + k,none⟩ (← elemOf pt) n.toNat then do
         let s ← loadBytes ⟨pl.blk,pl.base + k,none⟩ .empty n.toNat
         freeze ⟨pl.blk,pl.base + k,none⟩ n.toNat
         pure (.string s)
        else unsupported (.unsafePointer "String: not so many bytes at ptr")) := rfl
     rw [show [pt,it].toArray = #[pt,it] from rfl,show [Value.pointer (some ⟨pl.blk,pl.base + k,none⟩),.int .i64 n].toArray = #[.pointer (some ⟨pl.blk,pl.base + k,none⟩),.int .i64 n] from rfl,hdef]
     have hun : P.underlying pt = some (.pointer e1) := hu
     simp [asInt,asIntOf,hmax,a1,a2,a3,variablesAt,hsh,elemOf,run_underlying hun,hlies,hlb]
    ·cases h
   ·cases h
  ·cases h
 ·cases h
end Go.Ev
namespace Go.Ev
variable {P : Program} {Z : Fzn} {ρ : Pls} {H : Heap} {w : World}
structure SimA (Z : Fzn) (ρ : Pls) (A : AAct) (a : Act) : Prop where
 size : a.tmps.size = A.size
 tmps : ∀ t v,assoc t A.tmps = some v → ∃ x,a.tmps[t]? = some x ∧ Rep Z ρ v x
 marks : a.defers.length = A.marks.length ∧ ∀ (i b : Nat) (d : Deferred),A.marks[i]? = some b → a.defers[i]? = some d → ∃ pl,ρ b 0 = some pl ∧ d = { target := .collected pl.blk,args := #[] }
theorem SimA.mono {Z' : Fzn} {ρ' : Pls} {A : AAct} {a : Act} (h : SimA Z ρ A a) (hz : leZ Z Z') (hp : leP ρ ρ') : SimA Z' ρ' A a :=
 ⟨h.size,fun t v ht => let ⟨x,h1,h2⟩ := h.tmps t v ht; ⟨x,h1,h2.mono hz hp⟩,h.marks.1,fun i b d hb hd => let ⟨pl,h1,h2⟩ := h.marks.2 i b d hb hd; ⟨pl,hp _ _ _ h1,h2⟩⟩
theorem assoc_set (t d : Tmp) (v : AV) : ∀ l : List (Tmp × AV),assoc t (setAssoc d v l) = if t = d then some v else assoc t l
 | [] => by
  simp only [setAssoc,assoc]
  by_cases h : t = d
  ·subst h;simp
  ·rw [if_neg h]
   cases hb : Nat.beq d t with
   | true => exact absurd (Nat.eq_of_beq_eq_true hb).symm h
   | false => simp
 | (k,x) :: r => by
  simp only [setAssoc]
  by_cases hk : Nat.beq k d = true
  ·rw [if_pos hk]
   have := Nat.eq_of_beq_eq_true hk
   subst this
   simp only [assoc]
   by_cases h : t = k
   ·subst h;simp
   ·rw [if_neg h]
    cases hb : Nat.beq k t with
    | true => exact absurd (Nat.eq_of_beq_eq_true hb).symm h
    | false => simp
  ·rw [if_neg hk]
   simp only [assoc]
   rw [assoc_set t d v r]
   by_cases h : t = d
   ·subst h;rw [if_neg hk,if_pos rfl,if_pos rfl]
   ·rw [if_neg h,if_neg h]
theorem undef_rep : Rep Z ρ undefA undef := .tup (vs := []) rfl fun i c v h => by simp at h
theorem SimA.put {A : AAct} {a : Act} (h : SimA Z ρ A a) (dst : Option Tmp) {v : AV} {x : Value} (hr : Rep Z ρ v x) : SimA Z ρ (A.put dst v) (a.put dst x) := by
 cases dst with
 | none => exact h
 | some d =>
  simp only [AAct.put,Act.put]
  split
  ·rename_i hd
   refine ⟨by simpa using h.size,fun t u ht => ?_,h.marks⟩
   simp only [assoc_set] at ht
   split at ht
   ·rename_i e;subst e
    simp at ht;subst ht
    exact ⟨x,by simp [h.size,hd],hr⟩
   ·rename_i e
    obtain ⟨y,h1,h2⟩ := h.tmps t u ht
    exact ⟨y,by simp [Array.getElem?_setIfInBounds_ne (Ne.symm e),h1],h2⟩
  ·rename_i hd
   have : a.tmps.setIfInBounds d x = a.tmps := by
    apply Array.setIfInBounds_eq_of_size_le
    rw [h.size];exact Nat.le_of_not_lt hd
   rw [this]
   exact h
theorem SimA.eval {A : AAct} {a : Act} (h : SimA Z ρ A a) {o : Operand} {v : AV} (he : A.eval o = some v) : Rep Z ρ v (a.eval o) := by
 cases o with
 | tmp t =>
  obtain ⟨x,h1,h2⟩ := h.tmps t v he
  simpa [Act.eval,Array.getD_eq_getD_getElem?,h1] using h2
 | const x => exact ofValue_rep he
 | global g => cases he
 | func f =>
  simp [AAct.eval] at he;subst he
  exact .fn (us := []) (ws := []) rfl rfl (fun i c v h => by simp at h) (fun i c v h => by simp at h)
theorem SimA.evals {A : AAct} {a : Act} (h : SimA Z ρ A a) : ∀ {l : List Operand} {vs : List AV},evals A l = some vs → RepL Z ρ vs (l.map a.eval)
 | [],vs,he => by simp [Ev.evals] at he;subst he;exact .nil
 | o :: r,vs,he => by
  simp only [Ev.evals] at he
  split at he
  ·rename_i v ws h1 h2
   simp at he;subst he
   exact .cons (h.eval h1) (h.evals h2)
  ·cases he
theorem SimA.parts {A : AAct} {a : Act} (h : SimA Z ρ A a) : ∀ {l : List (Nat × Operand)} {ps : List (Nat × AV)},evalParts A l = some ps → Parts Z ρ ps (l.map fun p => (p.1,a.eval p.2))
 | [],ps,he => by
  simp [evalParts] at he;subst he
  exact ⟨rfl,fun i p q h => by simp at h⟩
 | (k,o) :: r,ps,he => by
  simp only [evalParts] at he
  split at he
  ·rename_i v ws h1 h2
   simp at he;subst he
   have ih := h.parts h2
   refine ⟨by simpa using ih.1,fun i p q hp hq => ?_⟩
   cases i with
   | zero => simp at hp hq;subst hp;subst hq;exact ⟨rfl,h.eval h1⟩
   | succ i => exact ih.2 i p q (by simpa using hp) (by simpa using hq)
  ·cases he
theorem wantedA_eq {ops : Array Oper} {A : AAct} {a : Act} (h : SimA Z ρ A a) {o : Oper} {b : Bool} (hw : wantedA ops A o = some b) : Region.wanted o (yielded ops a.tmps) = b := by
 unfold wantedA at hw
 unfold Region.wanted
 split at hw
 ·rename_i hg
  simp at hw;subst hw
  simp [hg]
 ·rename_i j want hg
  split at hw
  ·rename_i y hy
   simp at hw;subst hw
   have : yielded ops a.tmps j = y := by
    unfold yieldedA at hy
    unfold yielded
    split at hy
    ·rename_i d hd
     rw [hd]
     split at hy
     ·rename_i b' hb
      simp at hy;subst hy
      obtain ⟨x,h1,h2⟩ := h.tmps _ _ hb
      obtain ⟨rfl, -⟩ := h2.v_inv
      simp [h1]
     ·rename_i hb
      simp at hy;subst hy
      obtain ⟨x,h1,h2⟩ := h.tmps _ _ hb
      obtain ⟨vs,rfl, -⟩ := h2.tup_inv
      simp [h1]
     ·cases hy
    ·rename_i hd
     rw [hd]
     simp at hy;subst hy
     rfl
   simp [hg,this]
  ·cases hw
end Go.Ev
