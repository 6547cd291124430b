/- What the proof of this claim stands on, part 3: an evaluator of the model, proved right, and what it answers for functions of the program. -/
import Derived.Test.YthmpmakgacnelaaGreatDoorPk01
import Derived.Lib.Bytealg
import Derived.ChangeReads
import Derived.ChangeOld
import Derived.ChangeArms
import Derived.RowKit3
import Derived.WalkKit
import Derived.ProofKit
import Derived.OpenShut
import Derived.KernelRfl
import Derived.Lib.Overlaps
import Derived.Shelf.Strings.OnBuilder
import Derived.Test.YthmpmakgacnelaaGreatDoorProg
/- Loops, functions, iterators. -/
namespace Go.Ev
section
variable {C : Cfg} {me : FuncId} {rd : Option Nat}

/-! ### loops -/
def goP (o : Out) (K : Post) : Prop := match o with | .go e a H => AtK K e a H | _ => False
def Lp (C : Cfg) (me : FuncId) (rd : Option Nat) (ks : List Tmp) (c : Code) (a : AAct) (H : Heap) (K : Post) : Prop := bindO (lim C (.loop me rd ks c a H)) fun o => goP o K
@[congr] theorem Lp_congr {ks ks' : List Tmp} {c : Code} {a a' : AAct} {H H' : Heap} {K : Post} (hk : ks = ks') (ha : a = a') (hH : H = H') : Lp C me rd ks c a H K = Lp C me rd ks' c a' H' K := by rw [hk, ha, hH]
@[go_sem ↓] theorem wp_loopE (c : Code) (a : AAct) (H : Heap) (K : Post) : Wp C me rd (.loop c) a H K = Lp C me rd (a.tmps.map (·.1)) c a H K := by
  show bindO (match lim C (.loop me rd (a.tmps.map (·.1)) c a H) with | some (.go e a' H') => some (e, a', H') | _ => none) _ = bindO _ _
  cases lim C (.loop me rd (a.tmps.map (·.1)) c a H) with
  | none => rfl
  | some o => cases o <;> rfl
def trimK (n : Nat) (K : AAct → Heap → Prop) (a : AAct) (H : Heap) : Prop := K a (H.trim n (a.tmps.map (·.2)) a.marks)
def loopK (C : Cfg) (me : FuncId) (rd : Option Nat) (ks : List Tmp) (c : Code) (n : Nat) (K : Post) : Post := fun e a H =>
  match e with
  | .normal => Lp C me rd ks c (a.only ks) (H.trim n ((a.only ks).tmps.map (·.2)) (a.only ks).marks) K
  | .exit i => AtK K (.exit i) (a.only ks) (H.trim n ((a.only ks).tmps.map (·.2)) (a.only ks).marks)
  | .ret => AtK K .ret a H
@[go_sem ↓] theorem loopK_normal (ks : List Tmp) (c : Code) (n : Nat) (K : Post) (a : AAct) (H : Heap) : AtK (loopK C me rd ks c n K) .normal a H = Lp C me rd ks c (a.only ks) (H.trim n ((a.only ks).tmps.map (·.2)) (a.only ks).marks) K := rfl
@[go_sem ↓] theorem loopK_exit (ks : List Tmp) (c : Code) (n i : Nat) (K : Post) (a : AAct) (H : Heap) : AtK (loopK C me rd ks c n K) (.exit i) a H = AtK K (.exit i) (a.only ks) (H.trim n ((a.only ks).tmps.map (·.2)) (a.only ks).marks) := rfl
@[go_sem ↓] theorem loopK_ret (ks : List Tmp) (c : Code) (n : Nat) (K : Post) (a : AAct) (H : Heap) : AtK (loopK C me rd ks c n K) .ret a H = AtK K .ret a H := rfl

theorem lim_eq (t : Task) : lim C t = taskA C (lim C) t := by
  cases h : taskA C (lim C) t with
  | some x => exact lim_step.2 h
  | none =>
    cases h' : lim C t with
    | none => rfl
    | some x => rw [lim_step.1 h'] at h; cases h

theorem Lp_step (ks : List Tmp) (c : Code) (a : AAct) (H : Heap) (K : Post) : Lp C me rd ks c a H K = Wp C me rd c a H (loopK C me rd ks c H.size K) := by
  unfold Lp
  rw [lim_eq]
  unfold Wp
  simp only [taskA]
  rcases codeA C (lim C) me rd c a H with _ | ⟨e, a', H'⟩
  · rfl
  · cases e <;> rfl

@[go_sem] theorem only_mk (s : Nat) (l : List (Tmp × AV)) (m : List Nat) (ks : List Tmp) : (AAct.mk s l m).only ks = ⟨s, ks.filterMap fun k => (assoc k l).map fun v => (k, v), m⟩ := rfl

/-! ### memory that is as it was -/
theorem trim_size (H : Heap) (vs : List AV) (ms : List Nat) : H.trim H.size vs ms = H := by
  unfold Heap.trim
  have : H.objs.take H.size = H.objs := List.take_length
  split
  · rw [this]
  · rfl
theorem settle_size (H : Heap) : settleH H.size H = H := by
  unfold settleH
  have h : H.objs.take H.size = H.objs := List.take_length
  split
  · rw [h]
  · rfl
@[go_sem] theorem trim_same (H : Heap) (vs : List AV) (ms : List Nat) : H.trim H.size vs ms = H := trim_size H vs ms
@[go_sem] theorem settle_same (H : Heap) : settleH H.size H = H := settle_size H

/-! ### functions -/
def Fn' (C : Cfg) (f : FuncId) (args : List AV) (H : Heap) (K : PostO) : Prop := bindO (lim C (.call f args H)) fun o => retP o K
def finK (C : Cfg) (rs : List ResultVar) (K : PostO) : Post := fun e a H =>
  match e with
  | .exit _ => False
  | _ => bindO (killAll a.marks H) fun H2 => bindO (resultsA C a H2 rs) fun vs => AtO K (oneOf vs) H2
@[go_sem ↓] theorem finK_exit (rs : List ResultVar) (K : PostO) (i : Nat) (a : AAct) (H : Heap) : AtK (finK C rs K) (.exit i) a H = False := rfl
@[go_sem ↓] theorem finK_ret (rs : List ResultVar) (K : PostO) (a : AAct) (H : Heap) : AtK (finK C rs K) .ret a H = bindO (killAll a.marks H) fun H2 => bindO (resultsA C a H2 rs) fun vs => AtO K (oneOf vs) H2 := rfl
@[go_sem ↓] theorem finK_normal (rs : List ResultVar) (K : PostO) (a : AAct) (H : Heap) : AtK (finK C rs K) .normal a H = bindO (killAll a.marks H) fun H2 => bindO (resultsA C a H2 rs) fun vs => AtO K (oneOf vs) H2 := rfl
theorem fn_step {f : FuncId} {args : List AV} {H : Heap} {K : PostO} {fn : Func} (hf : C.P.funcs[f]? = some fn) {c : Code} (hc : fn.body = some c) (hlay : C.lay f = none := by rfl) :
    Fn' C f args H K = Wp C f none c ⟨args.length + (fn.ntmps - args.length), number 0 args, []⟩ H (finK C fn.results.toList K) := by
  unfold Fn'
  rw [lim_eq]
  unfold Wp
  simp only [taskA, hlay, hf, hc]
  rcases codeA C (lim C) f none c ⟨args.length + (fn.ntmps - args.length), number 0 args, []⟩ H with _ | ⟨e, a', H'⟩
  · rfl
  · cases e with
    | exit i => rfl
    | normal =>
      simp only [bindO_some, finK]
      rcases killAll a'.marks H' with _ | H2
      · rfl
      · simp only [bindO_some]; cases resultsA C a' H2 fn.results.toList <;> rfl
    | ret =>
      simp only [bindO_some, finK]
      rcases killAll a'.marks H' with _ | H2
      · rfl
      · simp only [bindO_some]; cases resultsA C a' H2 fn.results.toList <;> rfl
@[go_sem] theorem kill_nil (H : Heap) : killAll [] H = some H := rfl
@[go_sem] theorem results_nil (a : AAct) (H : Heap) : resultsA C a H [] = some [] := rfl
@[go_sem] theorem results_tmp (s : Nat) (l : List (Tmp × AV)) (m : List Nat) (H : Heap) (t : Tmp) (r : List ResultVar) : resultsA C ⟨s, l, m⟩ H (.tmp t :: r) = consO (assoc t l) (resultsA C ⟨s, l, m⟩ H r) := rfl
@[go_sem] theorem results_cell (s : Nat) (l : List (Tmp × AV)) (m : List Nat) (H : Heap) (t : Tmp) (ty : TypeId) (r : List ResultVar) : resultsA C ⟨s, l, m⟩ H (.cell t ty :: r) = consO ((assoc t l).bind (loadA C.P H ty)) (resultsA C ⟨s, l, m⟩ H r) := rfl
@[go_sem] theorem oneOf_one (v : AV) : oneOf [v] = v := rfl
@[go_sem] theorem oneOf_two (v w : AV) (r : List AV) : oneOf (v :: w :: r) = .tup (v :: w :: r) := rfl
@[go_sem] theorem oneOf_nil : oneOf [] = .tup [] := rfl
@[go_sem] theorem number_nil (n : Nat) : number n [] = [] := rfl
@[go_sem] theorem number_cons (n : Nat) (x : AV) (r : List AV) : number n (x :: r) = (n, x) :: number (n + 1) r := rfl

/-- what a function answers on arguments that lead to no object, in memory of its own -/
def ansK (v : AV) : PostO := fun x H => freezeV { H with lock := 0 } 1000000 x = some v
@[go_sem] theorem ansK_at (v x : AV) (l : List (Option AObj)) (k : Nat) : AtO (ansK v) x ⟨l, k⟩ = (freezeV ⟨l, 0⟩ 1000000 x = some v) := rfl
def Ans (C : Cfg) (f : FuncId) (args : List AV) (v : AV) : Prop :=
  Fn' C f args { objs := [], lock := 0 } (ansK v)
theorem Ans.iff {f : FuncId} {args : List AV} {v : AV} : Ans C f args v ↔ ∃ x H, lim C (.call f args { objs := [], lock := 0 }) = some (.ret x H) ∧ freezeV { H with lock := 0 } 1000000 x = some v := by
  unfold Ans Fn' ansK
  rw [bindO_iff]
  constructor
  · rintro ⟨o, h1, h2⟩
    cases o with
    | ret x H => exact ⟨x, H, h1, h2⟩
    | go => exact h2.elim
  · rintro ⟨x, H, h1, h2⟩; exact ⟨_, h1, h2⟩
theorem Ans.call {f : FuncId} {args : List AV} {v : AV} (h : Ans C f args v) {d : Option Tmp} (hx : C.ext f = none) (hp : C.pure me f d = true) (hb : boundL args = 0) (H : Heap) (hh : C.exh f = none := by rfl) : callA C (lim C) me f d args H = some (v, H) := by
  obtain ⟨x, H', h1, h2⟩ := Ans.iff.1 h
  have hk : callKind C me f d args = 1 := by unfold callKind; rw [hp, hb]; rfl
  unfold callA standA standH; rw [hx]; simp only; rw [hh]; simp only
  unfold callB; rw [hk]; simp only [h1, h2, Option.map_some]

/-! ### slices that nothing turns -/
def SlOf (sz : Nat) (xs : List AV) (x : AV) : Prop := (x = .v (.slice none 0 0) ∧ xs = []) ∨ ∃ cap, x = .vs sz xs cap
def slLen (x : AV) : Option AV := match x with | .v (.slice none 0 0) => some (.v (.int .i64 0)) | .vs _ xs _ => some (.v (.int .i64 xs.length)) | .sl _ _ _ len _ => some (.v (.int .i64 len)) | _ => none
theorem len_sl {P : Program} {t e : TypeId} (h : P.underlying t = some (.slice e)) (H : Heap) (x : AV) : lenA P H [t] [x] = slLen x := len_slice h H x []
def slIdx (s : Nat) (x ix : AV) : Option AV :=
  match ix with
  | .v (.int _ i) =>
    match x with
    | .sl b v off len _ => if 0 ≤ i ∧ i < (len : Int) then some (.ptr b v (off + i.toNat * s)) else none
    | .vs sz xs _ => if 0 ≤ i ∧ i < (xs.length : Int) ∧ sz = s then (xs[i.toNat]?).map fun y => .ro y 0 else none
    | _ => none
  | _ => none
theorem idx_sl {P : Program} {t e : TypeId} {s : Nat} (h : P.underlying t = some (.slice e)) (hs : sizeT P e = some s) (x ix : AV) : indexAddrA P t x ix = slIdx s x ix := by
  unfold indexAddrA slIdx; rw [h]
  rcases ix with v | _ | _ | _ | _ | _ | _ | _ | _ | _ | _ <;> try rfl
  cases v <;> try rfl
  simp only; rw [hs]
  cases x <;> rfl
theorem SlOf.len {sz : Nat} {xs : List AV} {x : AV} (h : SlOf sz xs x) : slLen x = some (.v (.int .i64 (xs.length : Nat))) := by
  rcases h with ⟨rfl, rfl⟩ | ⟨cap, rfl⟩ <;> rfl
theorem SlOf.idx {sz : Nat} {xs : List AV} {x y : AV} (h : SlOf sz xs x) {j : Nat} (hy : xs[j]? = some y) (k : IntKind) : slIdx sz x (.v (.int k (j : Nat))) = some (.ro y 0) := by
  rcases h with ⟨rfl, rfl⟩ | ⟨cap, rfl⟩
  · simp at hy
  · have := (List.getElem?_eq_some_iff.1 hy).1
    unfold slIdx; simp only [Int.toNat_natCast, hy, Option.map_some]
    rw [if_pos ⟨by omega, by omega, trivial⟩]
theorem SlOf.bound {sz : Nat} {xs : List AV} {x : AV} (h : SlOf sz xs x) : bound x = 0 := by
  rcases h with ⟨rfl, rfl⟩ | ⟨cap, rfl⟩ <;> rfl
theorem SlOf.flat {sz : Nat} {xs : List AV} {x : AV} (h : SlOf sz xs x) : x.flat = true := by
  rcases h with ⟨rfl, rfl⟩ | ⟨cap, rfl⟩ <;> rfl
theorem SlOf.cells {sz : Nat} {xs : List AV} {x : AV} (h : SlOf sz xs x) : x.cells = [x] := by
  rcases h with ⟨rfl, rfl⟩ | ⟨cap, rfl⟩ <;> rfl
/-- building a slice of a literal -/
def bsFin (mt : Bool) (e n : Nat) (H : Heap) (slot len : Nat) (cs : List AV) : Option (AV × Heap) :=
  if cs.all AV.flat = true then (if mt = true ∨ boundL cs ≠ 0 then some (.sl slot 0 0 len (some len), H.put slot (.cells 0 (boundL cs) e n false cs)) else some (.vs n (chunk n len cs) (some len), H)) else none
theorem buildSl_eq {P : Program} {t e n : Nat} {z : AV} (hu : P.underlying t = some (.slice e)) (hs : sizeT P e = some n) (hz : zeroT P e = some z) (hn : 0 < n) (hl : z.cells.length = n) (mt : Bool) (H : Heap) (slot len : Nat) (parts : List (Nat × AV)) :
    buildSliceA P mt H slot t len parts = if len * n ≤ 65536 then (fillA (fun i => some (i * n, n)) (repeatCells z.cells len) parts).bind (bsFin mt e n H slot len) else none := by
  unfold buildSliceA
  rw [hu]; simp only; rw [hs, hz]; simp only [hn, hl, and_true]
  split
  · cases fillA (fun i => some (i * n, n)) (repeatCells z.cells len) parts with
    | none => rfl
    | some cs =>
      simp only [Option.bind_some, bsFin]
      cases hf : cs.all AV.flat
      · rfl
      · simp only [Bool.true_eq_false, if_false, if_true]
        have : Nat.beq (boundL cs) 0 = decide (boundL cs = 0) := by
          cases boundL cs <;> rfl
        rw [this]
        cases mt <;> by_cases hb : boundL cs = 0 <;> simp [hb]
  · rfl
@[go_sem] theorem fillA_nil (place : Nat → Option (Nat × Nat)) (cells : List AV) : fillA place cells [] = some cells := rfl
def fill1 (place : Nat → Option (Nat × Nat)) (cells : List AV) (v : AV) (rest : List (Nat × AV)) (p : Option (Nat × Nat)) : Option (List AV) :=
  match p with
  | none => none
  | some (off, size) => if v.cells.length = size ∧ off + size ≤ cells.length then fillA place (splice off v.cells cells) rest else none
@[go_sem] theorem fillA_cons (place : Nat → Option (Nat × Nat)) (cells : List AV) (i : Nat) (v : AV) (rest : List (Nat × AV)) : fillA place cells ((i, v) :: rest) = fill1 place cells v rest (place i) := by
  unfold fill1; simp only [fillA]
  cases place i <;> rfl
@[go_sem] theorem fill1_some (place : Nat → Option (Nat × Nat)) (cells : List AV) (v : AV) (rest : List (Nat × AV)) (off size : Nat) : fill1 place cells v rest (some (off, size)) = if v.cells.length = size ∧ off + size ≤ cells.length then fillA place (splice off v.cells cells) rest else none := rfl
theorem wrap_succ (j : Nat) (h : j + 1 < 2 ^ 63) : IntKind.i64.wrap ((j : Int) + 1) = ((j + 1 : Nat) : Int) := by
  rw [wrap_in _ (by omega) (by omega)]; omega
end
end Go.Ev
/- Functions that stand for themselves: what is known of them. -/
namespace Go.Ev

theorem cmp_bytes : ∀ (a b : List UInt8), Lib.compareBytes a b = if bytesLt a b then -1 else if bytesLt b a then 1 else 0
  | [], [] => by simp [Lib.compareBytes, bytesLt]
  | [], _ :: _ => by simp [Lib.compareBytes, bytesLt]
  | _ :: _, [] => by simp [Lib.compareBytes, bytesLt]
  | x :: a, y :: b => by
    have ih := cmp_bytes a b
    unfold Lib.compareBytes bytesLt
    simp only [UInt8.lt_iff_toNat_lt]
    by_cases h1 : x.toNat < y.toNat
    · have e1 : Nat.blt x.toNat y.toNat = true := Nat.ble_eq_true_of_le h1
      simp [h1, e1]
    · have e1 : Nat.blt x.toNat y.toNat = false := by
        cases hb : Nat.blt x.toNat y.toNat
        · rfl
        · exact absurd (Nat.le_of_ble_eq_true hb) h1
      by_cases h2 : y.toNat < x.toNat
      · have e2 : Nat.blt y.toNat x.toNat = true := Nat.ble_eq_true_of_le h2
        have e3 : (x.toNat == y.toNat) = false := by simp; omega
        simp [h1, h2, e1, e2, e3]
      · have e2 : Nat.blt y.toNat x.toNat = false := by
          cases hb : Nat.blt y.toNat x.toNat
          · rfl
          · exact absurd (Nat.le_of_ble_eq_true hb) h2
        have e3 : x.toNat = y.toNat := by omega
        simp [e3, ih]

theorem ext_cmp {P : Program} {f : FuncId} {fn : Func} (hf : P.funcs[f]? = some fn) (hb : fn.body = none) (hn : (fn.name == "runtime.NumGoroutine") = false) (h1 : (Extern.findNext fn).isNone = true) (h2 : Extern.find fn = some Extern.BytealgCompare.compare)
    {args : List AV} {v : AV} (h : cmpStr args = some v) (Z : Fzn) (ρ : Pls) (H : Heap) (w : World) (vals : List Value) (hs : Sim Z ρ H w) (hl : RepL Z ρ args vals) : FnMeets P f vals w (After Z ρ H w v H) := by
  unfold cmpStr at h
  split at h
  · rename_i a b
    obtain ⟨v1, ws, rfl, hv1, hl⟩ := hl.uncons
    obtain ⟨v2, ws, rfl, hv2, hl⟩ := hl.uncons
    have : ws = [] := by have := hl.1; exact List.length_eq_zero_iff.1 this.symm
    subst this
    obtain ⟨rfl, -⟩ := hv1.v_inv
    obtain ⟨rfl, -⟩ := hv2.v_inv
    simp only [Option.some.injEq] at h
    subst h
    refine Or.inl ⟨.int .i64 (Lib.compareBytes a.data.toList b.data.toList), w, ?_, Z, ρ, ?_, hs, Ext.refl _ _ _ _⟩
    · have hfn : Extern.findNext fn = none := Option.isNone_iff_eq_none.1 h1
      have := Lib.run_compareString (P := P) a b w
      have hn' : ¬ fn.name = "runtime.NumGoroutine" := by
        intro e; rw [e] at hn; simp at hn
      simp [callFunc, hf, hn', hb, hfn, h2, this]
    · rw [cmp_bytes]; exact .v rfl
  · cases h

/-- what a function with code answers on closed arguments, it may stand for -/
theorem ext_of_ans {C : Cfg} (hgo : NoGo C.P) (hm : C.P.follows .mixedOrders = true) (hext : ExtOK C) {f : FuncId} {args : List AV} {v : AV} (h : Ans C f args v) (hb : boundL args = 0)
    (Z : Fzn) (ρ : Pls) (H : Heap) (w : World) (vals : List Value) (hs : Sim Z ρ H w) (hl : RepL Z ρ args vals) : FnMeets C.P f vals w (After Z ρ H w v H) := by
  obtain ⟨x, H', h1, h2⟩ := Ans.iff.1 h
  obtain ⟨n, hn⟩ := lim_iff.1 h1
  have hrec : RecOK C.P (evT C n) := (ev_sound hgo hext (draw_ok hm hext) n).1
  let D : Cfg := { C with pure := fun _ _ _ => true }
  have hk : callKind D f f none args = 1 := by unfold callKind; rw [hb]; rfl
  have hB : callB D (evT C n) f f none args H = some (v, H) := by
    unfold callB; rw [hk]; simp only [hn, h2, Option.map_some]
  obtain ⟨hbody, hc⟩ := callB_sound (C := D) hrec hs hl hB
  exact Or.inr ⟨hbody.run _ _, hc⟩

/-- more functions that stand for themselves -/
def moreExt (e : FuncId → Option (List AV → Option AV)) (f : FuncId) (g : List AV → Option AV) : FuncId → Option (List AV → Option AV) := fun f' => if Nat.beq f' f then some g else e f'
theorem extOK_more {C C' : Cfg} (hP : C'.P = C.P) {f : FuncId} {g : List AV → Option AV} (hg : ∀ args v, g args = some v → ∀ (Z : Fzn) (ρ : Pls) (H : Heap) (w : World) (vals : List Value), Sim Z ρ H w → RepL Z ρ args vals → FnMeets C.P f vals w (After Z ρ H w v H))
    (hext : ExtOK C) (he : C'.ext = moreExt C.ext f g) (hlay : C'.lay = C.lay := by rfl) (hexh : C'.exh = C.exh := by rfl) : ExtOK C' := by
  refine ⟨fun f' g' hf' args v hv Z ρ H w vals hs hl => ?_, fun f' g' hf' => by rw [hP]; rw [hlay] at hf'; exact hext.lay f' g' hf', fun f' g' hf' => by rw [hP]; rw [hexh] at hf'; exact hext.exh f' g' hf'⟩
  rw [hP]
  rw [he] at hf'
  unfold moreExt at hf'
  split at hf'
  · rename_i hb
    have := Nat.eq_of_beq_eq_true hb
    subst this
    simp only [Option.some.injEq] at hf'
    subst hf'
    exact hg args v hv Z ρ H w vals hs hl
  · exact hext.ext f' g' hf' args v hv Z ρ H w vals hs hl

/-! ### answers that are told by heart -/
def eqV : Value → Value → Bool
  | .int k n, .int k' n' => decide (k = k') && decide (n = n')
  | .bool a, .bool b => a == b
  | .string a, .string b => bytesEq a.data.toList b.data.toList
  | .slice none 0 0, .slice none 0 0 => true
  | _, _ => false
theorem eqV_eq {x y : Value} (h : eqV x y = true) : x = y := by
  unfold eqV at h
  split at h
  · simp at h; rw [h.1, h.2]
  · simp at h; rw [h]
  · rw [bytesEq_iff, decide_eq_true_eq, ← str_ext] at h; rw [h]
  · rfl
  · cases h
def listEq (f : AV → AV → Bool) : List AV → List AV → Bool
  | [], [] => true
  | x :: r, y :: s => f x y && listEq f r s
  | _, _ => false
theorem listEq_eq {f : AV → AV → Bool} (hf : ∀ x y, f x y = true → x = y) : ∀ {l m : List AV}, listEq f l m = true → l = m
  | [], [], _ => rfl
  | [], _ :: _, h => by simp [listEq] at h
  | _ :: _, [], h => by simp [listEq] at h
  | x :: r, y :: s, h => by
    simp only [listEq, Bool.and_eq_true] at h
    rw [hf _ _ h.1, listEq_eq hf h.2]
def capEq : Option Nat → Option Nat → Bool
  | none, none => true
  | some k, some k' => Nat.beq k k'
  | _, _ => false
theorem capEq_eq {c c' : Option Nat} (h : capEq c c' = true) : c = c' := by
  unfold capEq at h
  split at h
  · rfl
  · rw [Nat.eq_of_beq_eq_true h]
  · cases h
def eqStep (rec : AV → AV → Bool) (x y : AV) : Bool :=
  match x, y with
  | .v x, .v y => eqV x y
  | .agg a, .agg b => listEq rec a b
  | .vs s a c, .vs s' a' c' => Nat.beq s s' && listEq rec a a' && capEq c c'
  | _, _ => false
def eqA (n : Nat) : AV → AV → Bool := Nat.rec (fun _ _ => false) (fun _ rec => eqStep rec) n
theorem eqA_eq : ∀ (n : Nat) (x y : AV), eqA n x y = true → x = y
  | 0, _, _, h => by cases h
  | n + 1, x, y, h => by
    have h' : eqStep (eqA n) x y = true := h
    unfold eqStep at h'
    split at h'
    · rw [eqV_eq h']
    · rw [listEq_eq (eqA_eq n) h']
    · simp only [Bool.and_eq_true] at h'
      obtain ⟨⟨h1, h2⟩, h3⟩ := h'
      rw [Nat.eq_of_beq_eq_true h1, listEq_eq (eqA_eq n) h2, capEq_eq h3]
    · cases h'
/-- the answer at these arguments -/
def atArgs (K : List AV) (R : AV) : List AV → Option AV := fun args => if listEq (eqA 30) args K then some R else none
theorem atArgs_some {K : List AV} {R : AV} {args : List AV} {v : AV} (h : atArgs K R args = some v) : args = K ∧ v = R := by
  unfold atArgs at h
  split at h
  · rename_i hq
    exact ⟨listEq_eq (eqA_eq 30) hq, by simpa using h.symm⟩
  · cases h
end Go.Ev
/- From what a statement says of its arguments to values of the evaluator, and back. -/
namespace Go.Ev

/-- the fields lie one behind the other, from k on up to the end -/
def tiled (P : Program) : Nat → List Field → Nat → Bool
  | k, [], e => k == e
  | k, f :: r, e => f.offset == k && tiled P (k + P.cellsOf f.type) r e

/-- types of plain data, by depth -/
def plainT (P : Program) : Nat → TypeId → Bool
  | 0, _ => false
  | n + 1, t =>
    match P.underlying t with
    | some .bool => true
    | some (.int _) => true
    | some .string => true
    | some (.slice e) => decide (0 < P.cellsOf e) && plainT P n e
    | some (.struct fs) => tiled P 0 fs.toList (P.cellsOf t) && fs.toList.all fun f => plainT P n f.type
    | _ => false

/-- an element of a slice, of its cells -/
def elemOf (cs : List AV) : AV := match cs with | [c] => c | cs => .agg cs

/-- what plain data is -/
def Plain (P : Program) : Nat → TypeId → List AV → Prop
  | 0, _, _ => False
  | n + 1, t, cs =>
    match P.underlying t with
    | some .bool => ∃ b, cs = [.v (.bool b)]
    | some (.int k) => ∃ m, cs = [.v (.int k m)] ∧ (Lit.int k m).wf = true
    | some .string => ∃ s, cs = [.v (.string s)] ∧ s.size ≤ maxLen
    | some (.slice e) => ∃ x xs, cs = [x] ∧ SlOf (P.cellsOf e) xs x ∧ xs.length ≤ maxLen ∧ ∀ y ∈ xs, ∃ c, y = elemOf c ∧ c.length = P.cellsOf e ∧ Plain P n e c
    | some (.struct fs) => cs.length = P.cellsOf t ∧ ∀ f ∈ fs.toList, Plain P n f.type ((cs.drop f.offset).take (P.cellsOf f.type))
    | _ => False

theorem elem_cells {cs : List AV} (h : ∀ c ∈ cs, c.flat = true) : (elemOf cs).cells = cs := by
  unfold elemOf
  split
  · rename_i c
    have := h c (by simp)
    cases c <;> simp_all [AV.cells, AV.flat]
  · rfl

theorem exists_list {α : Type} {Q : Nat → α → Prop} : ∀ (n : Nat), (∀ i, i < n → ∃ y, Q i y) → ∃ l : List α, l.length = n ∧ ∀ i y, l[i]? = some y → Q i y
  | 0, _ => ⟨[], rfl, fun i y h => by simp at h⟩
  | n + 1, h => by
    obtain ⟨l, hl, hq⟩ := exists_list n fun i hi => h i (by omega)
    obtain ⟨y, hy⟩ := h n (by omega)
    refine ⟨l ++ [y], by simp [hl], fun i z hz => ?_⟩
    by_cases hi : i < l.length
    · rw [List.getElem?_append_left hi] at hz; exact hq i z hz
    · have hlt := (List.getElem?_eq_some_iff.1 hz).1
      simp at hlt
      have : i = l.length := by omega
      subst this
      simp at hz; subst hz; rw [hl]; exact hy

theorem tile_rep {Z : Fzn} {ρ : Pls} {P : Program} {Q : Field → List AV → Prop} : ∀ (fs : List Field) (k e : Nat) (cs : List Value), tiled P k fs e = true → cs.length = e →
    (∀ f ∈ fs, ∃ a, RepL Z ρ a ((cs.drop f.offset).take (P.cellsOf f.type)) ∧ Q f a ∧ ∀ c ∈ a, c.flat = true) →
    k ≤ e → ∃ A, RepL Z ρ A (cs.drop k) ∧ (∀ c ∈ A, c.flat = true) ∧ ∀ f ∈ fs, k ≤ f.offset ∧ f.offset + P.cellsOf f.type ≤ e ∧ Q f ((A.drop (f.offset - k)).take (P.cellsOf f.type))
  | [], k, e, cs, ht, hl, _, _ => by
    have : k = e := by simpa [tiled] using ht
    subst this
    refine ⟨[], ?_, by simp, by simp⟩
    rw [List.drop_of_length_le (by omega)]; exact RepL.nil
  | f :: r, k, e, cs, ht, hl, hf, hk => by
    simp only [tiled, Bool.and_eq_true, beq_iff_eq] at ht
    obtain ⟨ho, ht⟩ := ht
    have hle : ∀ (fs : List Field) (k : Nat), tiled P k fs e = true → k ≤ e := by
      intro fs
      induction fs with
      | nil => intro k h; have : k = e := by simpa [tiled] using h
               omega
      | cons g s ih => intro k h; simp only [tiled, Bool.and_eq_true] at h; have := ih _ h.2; omega
    have hle' := hle _ _ ht
    obtain ⟨A, hA, hAf, hAq⟩ := tile_rep r (k + P.cellsOf f.type) e cs ht hl (fun g hg => hf g (List.mem_cons_of_mem _ hg)) hle'
    obtain ⟨a, ha, hq, haf⟩ := hf f List.mem_cons_self
    have hal : a.length = P.cellsOf f.type := by rw [ha.1]; simp; omega
    refine ⟨a ++ A, ?_, ?_, ?_⟩
    · have : cs.drop k = (cs.drop f.offset).take (P.cellsOf f.type) ++ cs.drop (k + P.cellsOf f.type) := by
        rw [ho, ← List.drop_drop]; exact (List.take_append_drop _ _).symm
      rw [this]; exact ha.append hA
    · intro c hc
      rcases List.mem_append.1 hc with h | h
      · exact haf c h
      · exact hAf c h
    · intro g hg
      rcases List.mem_cons.1 hg with rfl | hg
      · refine ⟨by omega, by omega, ?_⟩
        rw [ho, Nat.sub_self, List.drop_zero, List.take_append_of_le_length (by omega), List.take_of_length_le (by omega)]
        exact hq
      · obtain ⟨h1, h2, h3⟩ := hAq g hg
        refine ⟨by omega, h2, ?_⟩
        have : (a ++ A).drop (g.offset - k) = A.drop (g.offset - (k + P.cellsOf f.type)) := by
          rw [List.drop_append, List.drop_of_length_le (by omega), List.nil_append, hal]; congr 1; omega
        rw [this]; exact h3

section
variable {HH : Type} {enc : TypeId × Value → HH} {P : Program} {w : World}

theorem cells_at {a : Addr} {n : Nat} {cs : List Value} (h : w.cells? 0 a n = some cs) (hn : 0 < n) : a.spot = none ∧ ∃ arr e fr, w.heap[a.block]? = some (.cells arr e fr) ∧ cs.length = n ∧ ∀ j, j < n → arr[a.off + j]? = cs[j]? := by
  obtain ⟨_, hl, hc⟩ := World.cells?_some h
  have h0 := hc 0 hn
  obtain ⟨c0, hc0⟩ : ∃ c0, cs[0]? = some c0 := ⟨cs[0]'(by omega), List.getElem?_eq_getElem _⟩
  have hsp : a.spot = none := by
    have := World.cell?_spot (h0.trans hc0)
    simpa [Addr.add] using this
  have hcell := h0.trans hc0
  have hb : ∀ j, (a.add j).block = a.block := by intro j; unfold Addr.add; split <;> rfl
  have hs : ∀ j, (a.add j).spot = none := by
    intro j; unfold Addr.add; split
    · exact hsp
    · rfl
  have ho : ∀ j, (a.add j).off = a.off + j := by
    intro j; unfold Addr.add; split
    · rename_i hj; subst hj; rfl
    · rfl
  refine ⟨hsp, ?_⟩
  unfold World.cell? at hcell
  rw [hb] at hcell
  split at hcell
  · rename_i arr e fr hh
    refine ⟨arr, e, fr, hh, hl, fun j hj => ?_⟩
    have := hc j hj
    unfold World.cell? at this
    rw [hb, hh] at this
    simp only [hs, ho, Option.isSome_none, Bool.false_eq_true, if_false] at this
    exact this
  · cases hcell

theorem plain_rep : ∀ (N t fuel : Nat) (cs : List Value) (x : DataW HH × List MemPlace), plainT P N t = true → DataW.trod enc P w 0 (fun _ => true) true fuel t cs = some x →
    ∃ A, RepL (allZ w) noPls A cs ∧ Plain P N t A ∧ ∀ c ∈ A, c.flat = true
  | 0, _, _, _, _, hp, _ => by simp [plainT] at hp
  | N + 1, t, fuel, cs, x, hp, h => by
    unfold plainT at hp
    cases hu : P.underlying t with
    | none => rw [hu] at hp; simp at hp
    | some u =>
      rw [hu] at hp
      cases u <;> simp only [Bool.false_eq_true] at hp
      case bool =>
        obtain ⟨b, rfl, -⟩ := DataW.trod_bool hu h
        exact ⟨[.v (.bool b)], RepL.cons (.v rfl) RepL.nil, by unfold Plain; rw [hu]; exact ⟨b, rfl⟩, by simp [AV.flat]⟩
      case int k =>
        obtain ⟨n, rfl, -, hw⟩ := DataW.trod_int hu h
        exact ⟨[.v (.int k n)], RepL.cons (.v rfl) RepL.nil, by unfold Plain; rw [hu]; exact ⟨n, rfl, hw⟩, by simp [AV.flat]⟩
      case string =>
        obtain ⟨n, rfl, -, hw⟩ := DataW.trod_string hu h
        exact ⟨[.v (.string n)], RepL.cons (.v rfl) RepL.nil, by unfold Plain; rw [hu]; exact ⟨n, rfl, hw⟩, by simp [AV.flat]⟩
      case struct fs =>
        rw [Bool.and_eq_true, List.all_eq_true] at hp
        obtain ⟨xs, n, -, -, hl, hlen, hf⟩ := DataW.trod_struct hu h
        have hall : ∀ f ∈ fs.toList, ∃ a, RepL (allZ w) noPls a ((cs.drop f.offset).take (P.cellsOf f.type)) ∧ Plain P N f.type a ∧ ∀ c ∈ a, c.flat = true := by
          intro f hfm
          obtain ⟨i, hi⟩ := List.getElem?_of_mem hfm
          have hi' : fs[i]? = some f := by simpa using hi
          have hxi := hf i f hi'
          have hlt : i < xs.length := by
            rw [hlen]
            have := (List.getElem?_eq_some_iff.1 hi).1
            simpa using this
          rw [List.getElem?_eq_getElem hlt] at hxi
          exact plain_rep N f.type n _ _ (hp.2 f hfm) hxi
        obtain ⟨A, hA, hAf, hAq⟩ := tile_rep fs.toList 0 (P.cellsOf t) cs hp.1 hl hall (Nat.zero_le _)
        rw [List.drop_zero] at hA
        refine ⟨A, hA, ?_, hAf⟩
        unfold Plain; rw [hu]
        refine ⟨by rw [hA.1]; exact hl, fun f hf => ?_⟩
        have := (hAq f hf).2.2
        rwa [Nat.sub_zero] at this
      case slice e =>
        simp only [Bool.and_eq_true, decide_eq_true_eq] at hp
        rcases DataW.trod_slice hu h with ⟨rfl, -⟩ | ⟨a, len, cap, elems, rest, n, -, rfl, -, -, hlc, hcm, hel, hget, -, -⟩
        · refine ⟨[.v (.slice none 0 0)], RepL.cons (.v rfl) RepL.nil, ?_, by simp [AV.flat]⟩
          unfold Plain; rw [hu]
          exact ⟨_, [], rfl, Or.inl ⟨rfl, rfl⟩, Nat.zero_le _, by simp⟩
        · have hone : ∀ i, i < len → ∃ y : AV, ∃ A ci, w.cells? 0 (a.add (i * P.cellsOf e)) (P.cellsOf e) = some ci ∧ RepL (allZ w) noPls A ci ∧ Plain P N e A ∧ (∀ c ∈ A, c.flat = true) ∧ y = elemOf A := by
            intro i hi
            have := hget i hi
            rw [List.getElem?_eq_getElem (by omega), Option.bind_eq_some_iff] at this
            obtain ⟨ci, hc1, hc2⟩ := this
            obtain ⟨A, h1, h2, h3⟩ := plain_rep N e n ci _ hp.2 hc2
            exact ⟨_, A, ci, hc1, h1, h2, h3, rfl⟩
          obtain ⟨xs, hxl, hxq⟩ := exists_list len hone
          have hsz : ∀ y ∈ xs, y.cells.length = P.cellsOf e := by
            intro y hy
            obtain ⟨i, hi⟩ := List.getElem?_of_mem hy
            obtain ⟨A, ci, h1, h2, h3, h4, rfl⟩ := hxq i y hi
            rw [elem_cells h4, h2.1]
            exact (World.cells?_some h1).2.1
          have hplain : Plain P (N + 1) t [.vs (P.cellsOf e) xs (some cap)] := by
            unfold Plain; rw [hu]
            refine ⟨_, xs, rfl, Or.inr ⟨_, rfl⟩, by omega, fun y hy => ?_⟩
            obtain ⟨i, hi⟩ := List.getElem?_of_mem hy
            obtain ⟨A, ci, h1, h2, h3, h4, rfl⟩ := hxq i y hi
            exact ⟨A, rfl, by rw [h2.1]; exact (World.cells?_some h1).2.1, h3⟩
          by_cases h0 : len = 0
          · subst h0
            have : xs = [] := List.length_eq_zero_iff.1 hxl
            subst this
            exact ⟨_, RepL.cons (.vs0 (by simp)) RepL.nil, hplain, by simp [AV.flat]⟩
          · -- the block
            have hpos := hp.1
            obtain ⟨y0, hy0⟩ : ∃ y, xs[0]? = some y := ⟨xs[0]'(by omega), List.getElem?_eq_getElem _⟩
            obtain ⟨A0, c0, hc0, -⟩ := hxq 0 y0 hy0
            obtain ⟨hsp0, arr, et, fr, hh, -, -⟩ := cells_at hc0 hpos
            have hb : ∀ j, (a.add j).block = a.block := by intro j; unfold Addr.add; split <;> rfl
            have ho : ∀ j, (a.add j).off = a.off + j := by
              intro j; unfold Addr.add; split
              · rename_i hj; subst hj; rfl
              · rfl
            rw [hb] at hh
            have hsp : a.spot = none := by simpa [Addr.add] using hsp0
            have hall : ∀ i j, i < len → j < P.cellsOf e → ∃ A ci, xs[i]? = some (elemOf A) ∧ (∀ c ∈ A, c.flat = true) ∧ RepL (allZ w) noPls A ci ∧ ci.length = P.cellsOf e ∧ arr[a.off + i * P.cellsOf e + j]? = ci[j]? := by
              intro i j hi hj
              obtain ⟨y, hy⟩ : ∃ y, xs[i]? = some y := ⟨xs[i]'(by omega), List.getElem?_eq_getElem _⟩
              obtain ⟨A, ci, h1, h2, h3, h4, rfl⟩ := hxq i y hy
              obtain ⟨-, arr', et', fr', hh', hl', hg⟩ := cells_at h1 hpos
              rw [hb, hh] at hh'
              obtain ⟨rfl, rfl, rfl⟩ : arr = arr' ∧ et = et' ∧ fr = fr' := by simpa using hh'
              have := hg j hj
              rw [ho] at this
              exact ⟨A, ci, hy, h4, h2, hl', this⟩
            have hfl : (xs.flatMap AV.cells).length = len * P.cellsOf e := by rw [flat_len hsz, hxl]
            have hfit : a.off + len * P.cellsOf e ≤ arr.size := by
              obtain ⟨A, ci, -, -, -, hl', hg⟩ := hall (len - 1) (P.cellsOf e - 1) (by omega) (by omega)
              rw [List.getElem?_eq_getElem (by omega)] at hg
              have := (Array.getElem?_eq_some_iff.1 hg).1
              have e1 : (len - 1) * P.cellsOf e + P.cellsOf e = len * P.cellsOf e := by
                have : len = (len - 1) + 1 := by omega
                conv => rhs; rw [this, Nat.succ_mul]
              omega
            refine ⟨[.vs (P.cellsOf e) xs (some cap)], RepL.cons ?_ RepL.nil, hplain, by simp [AV.flat]⟩
            have hval : (Value.slice (some a) len cap) = .slice (some ⟨a.block, (arr.toList.take a.off).length, none⟩) xs.length cap := by
              have : (arr.toList.take a.off).length = a.off := by simp; omega
              rw [this, hxl]; cases a; simp_all
            rw [hval]
            refine .vs (vs := (arr.toList.drop a.off).take (len * P.cellsOf e)) (post := (arr.toList.drop a.off).drop (len * P.cellsOf e)) (pre := arr.toList.take a.off) (e := et) (fz := fr) (arr := arr) hh ?_ hsz ?_ ?_ (by simp) (by omega)
            · rw [List.append_assoc, List.take_append_drop, List.take_append_drop]
            · rw [hfl]; simp; omega
            · intro i c v hc hv
              have hi := (List.getElem?_eq_some_iff.1 hc).1
              rw [hfl] at hi
              have hq : i / P.cellsOf e < len := Nat.div_lt_of_lt_mul (by rw [Nat.mul_comm]; exact hi)
              have hr : i % P.cellsOf e < P.cellsOf e := Nat.mod_lt _ hpos
              have hdm : i / P.cellsOf e * P.cellsOf e + i % P.cellsOf e = i := by rw [Nat.mul_comm]; exact Nat.div_add_mod _ _
              obtain ⟨A, ci, hx, hA, hR, hl', hg⟩ := hall _ _ hq hr
              have hfa := (flat_at hsz hx).1
              rw [elem_cells hA] at hfa
              have hcA : A[i % P.cellsOf e]? = some c := by
                rw [← hfa, List.getElem?_take, if_pos hr, List.getElem?_drop, hdm]; exact hc
              have hvA : ci[i % P.cellsOf e]? = some v := by
                rw [← hg]
                rw [List.getElem?_take, if_pos hi, List.getElem?_drop] at hv
                rw [show a.off + i / P.cellsOf e * P.cellsOf e + i % P.cellsOf e = a.off + i by omega]
                simpa using hv
              exact hR.2 _ _ _ hcA hvA

/-- what is not looked at of spare places -/
theorem plain_spare {base : Nat} {sp : Nat → Bool} : ∀ (N t fuel : Nat) (cs : List Value) (x : DataW HH × List MemPlace), plainT P N t = true → DataW.trod enc P w base (fun _ => true) true fuel t cs = some x →
    (∀ p ∈ x.2, sp p.block = true) → DataW.trod enc P w base sp true fuel t cs = some x
  | 0, _, _, _, _, hp, _, _ => by simp [plainT] at hp
  | N + 1, t, fuel, cs, x, hp, h, hs => by
    unfold plainT at hp
    cases fuel with
    | zero => simp [DataW.trod] at h
    | succ n =>
      cases hu : P.underlying t with
      | none => rw [hu] at hp; simp at hp
      | some u =>
        rw [hu] at hp
        cases u <;> simp only [Bool.false_eq_true] at hp
        case bool => obtain ⟨b, rfl, rfl⟩ := DataW.trod_bool hu h; rw [DataW.trod_step]; unfold DataW.trodStep; rw [hu]
        case int k => obtain ⟨m, rfl, rfl, hw⟩ := DataW.trod_int hu h; rw [DataW.trod_step]; unfold DataW.trodStep; rw [hu]; simp [hw]
        case string => obtain ⟨m, rfl, rfl, hw⟩ := DataW.trod_string hu h; rw [DataW.trod_step]; unfold DataW.trodStep; rw [hu]; simp [hw]
        case struct fs =>
          rw [Bool.and_eq_true, List.all_eq_true] at hp
          rw [DataW.trod_step] at h ⊢
          unfold DataW.trodStep at h ⊢
          rw [hu] at h ⊢
          simp only at h ⊢
          split at h
          · rename_i hl
            rw [if_pos hl]
            simp only [Option.map_eq_some_iff] at h ⊢
            obtain ⟨xs, hxs, rfl⟩ := h
            refine ⟨xs, mapM_carry hxs fun f y hf hy hfy => plain_spare N f.type n _ y (hp.2 f hf) hfy fun p hpm => hs p ?_, rfl⟩
            exact List.mem_flatMap.2 ⟨y, hy, hpm⟩
          · cases h
        case slice e =>
          simp only [Bool.and_eq_true, decide_eq_true_eq] at hp
          have h0 := h
          rw [DataW.trod_step] at h ⊢
          unfold DataW.trodStep at h ⊢
          rw [hu] at h ⊢
          rcases DataW.trod_slice hu h0 with ⟨rfl, rfl⟩ | ⟨a, len, cap, elems, rest, n', hn', rfl, rfl, -, hlc, hcm, hel, hget, hrest, -⟩
          · rfl
          · simp only at h ⊢
            split at h
            · rename_i hc
              rw [if_pos hc]
              simp only [if_true, Option.bind_eq_some_iff, Option.map_eq_some_iff] at h ⊢
              obtain ⟨es, hes, rs, hrs, heq⟩ := h
              have hin : ∀ y, y ∈ es ++ rs → ∀ p ∈ y.2, sp p.block = true := by
                intro y hy p hpm
                refine hs p ?_
                have := congrArg Prod.snd heq
                simp only at this
                rw [← this]
                exact List.mem_append_right _ (List.mem_flatMap.2 ⟨y, hy, hpm⟩)
              refine ⟨es, mapM_carry hes fun i y _ hy hfy => ?_, rs, ?_, heq⟩
              · obtain ⟨ci, h1, h2⟩ := Option.bind_eq_some_iff.1 hfy
                rw [h1]
                exact plain_spare N e n ci y hp.2 h2 (hin y (List.mem_append_left _ hy))
              · have hrl : rs.length = cap - len := by
                  have := mapM_some_length hrs
                  simpa using this
                by_cases hz : cap - len = 0
                · have : rs = [] := List.length_eq_zero_iff.1 (by omega)
                  subst this
                  split
                  · rw [hz] at hrs ⊢; exact hrs
                  · rfl
                · have hsp : sp a.block = true := by
                    have hel' : es.length = len := by
                      have := mapM_some_length hes
                      simpa using this
                    have := congrArg Prod.snd heq
                    simp only at this
                    have hm : MemPlace.cell a.block (a.off + 0) ∈ MemPlace.row a ((elems.length + rest.length) * P.cellsOf e) ++ (elems ++ rest).flatMap (·.2) := by
                      rw [← this]
                      refine List.mem_append_left _ (MemPlace.mem_row.2 ⟨0, ?_, rfl⟩)
                      exact Nat.mul_pos (by omega) hp.1
                    exact hs _ hm
                  rw [if_pos hsp]
                  refine mapM_carry hrs fun i y _ hy hfy => ?_
                  obtain ⟨ci, h1, h2⟩ := Option.bind_eq_some_iff.1 hfy
                  rw [h1]
                  exact plain_spare N e n ci y hp.2 h2 (hin y (List.mem_append_right _ hy))
            · cases h
end
end Go.Ev
/- A law: what the evaluator answers on all plain data is what the statement says. -/
namespace Go.Ev
open Go.ChangeShapes Go.WideShapes Go.ChangeAt Go.RowKit

/-- an argument of a type of plain data -/
def Arg (P : Program) (N : Nat) (t : TypeId) (x : AV) : Prop :=
  match P.underlying t with
  | some (.struct _) => ∃ A, x = .agg A ∧ Plain P N t A
  | _ => Plain P N t [x]

inductive ArgsOf (P : Program) (N : Nat) : List TypeId → List AV → Prop
  | nil : ArgsOf P N [] []
  | cons {t : TypeId} {ts : List TypeId} {x : AV} {xs : List AV} (h : Arg P N t x) (hs : ArgsOf P N ts xs) : ArgsOf P N (t :: ts) (x :: xs)

section
variable {HH : Type} {enc : TypeId × Value → HH} {P : Program} {w : World}

theorem arg_rep {N base : Nat} {t : TypeId} {v : Value} {d : DataW HH} {ps : List MemPlace} (hp : plainT P N t = true) (hok : Value.okWide P w .any base t v) (h : DataW.Trod enc P w 0 (fun _ => true) true t v d ps) :
    ∃ x, Rep (allZ w) noPls x v ∧ Arg P N t x := by
  obtain ⟨fuel, h⟩ := h
  obtain ⟨A, hA, hpl, hfl⟩ := plain_rep N t fuel _ _ hp h
  cases N with
  | zero => simp [plainT] at hp
  | succ N =>
    have one : ∀ (hv : v.cells.toList = [v]), (∃ c, A = [c]) → (∀ fs, P.underlying t ≠ some (.struct fs)) → ∃ x, Rep (allZ w) noPls x v ∧ Arg P (N + 1) t x := by
      rintro hv ⟨c, rfl⟩ hns
      rw [hv] at hA
      obtain ⟨v', ws, e, hr, -⟩ := hA.uncons
      cases e
      refine ⟨c, hr, ?_⟩
      unfold Arg
      split
      · rename_i fs hu; exact absurd hu (hns fs)
      · exact hpl
    unfold plainT at hp
    unfold Value.okWide at hok
    have hpl' := hpl
    unfold Plain at hpl'
    cases hu : P.underlying t with
    | none => rw [hu] at hp; simp at hp
    | some u =>
      rw [hu] at hp hok hpl'
      cases u <;> simp only [Bool.false_eq_true] at hp hok hpl'
      case bool =>
        obtain ⟨b, rfl⟩ := hpl'
        refine one ?_ ⟨_, rfl⟩ (by simp [hu])
        unfold Cell.okWide Cell.ok at hok; rw [hu] at hok
        cases v <;> first | rfl | simp at hok
      case int k =>
        obtain ⟨m, rfl, -⟩ := hpl'
        refine one ?_ ⟨_, rfl⟩ (by simp [hu])
        unfold Cell.okWide Cell.ok at hok; rw [hu] at hok
        cases v <;> first | rfl | simp at hok
      case string =>
        obtain ⟨m, rfl, -⟩ := hpl'
        refine one ?_ ⟨_, rfl⟩ (by simp [hu])
        unfold Cell.okWide Cell.ok at hok; rw [hu] at hok
        cases v <;> first | rfl | simp at hok
      case slice e =>
        obtain ⟨x, xs, rfl, -⟩ := hpl'
        refine one ?_ ⟨_, rfl⟩ (by simp [hu])
        unfold Cell.okWide Cell.ok at hok; rw [hu] at hok
        cases v <;> first | rfl | simp at hok
      case struct fs =>
        obtain ⟨cs, rfl, -, -⟩ := hok
        refine ⟨.agg A, ?_, ?_⟩
        · have := hA.agg
          simpa [Value.cells] using this
        · unfold Arg; rw [hu]; exact ⟨A, rfl, hpl⟩

theorem args_rep {N base : Nat} : ∀ {ts : List TypeId} {vs : List Value} {ds : List (DataW HH)} {ps : List MemPlace}, ts.all (plainT P N) = true → (∀ (j : Nat) t v, ts[j]? = some t → vs[j]? = some v → Value.okWide P w .any base t v) →
    DataW.TrodAll enc P w 0 (fun _ => true) true ts vs ds ps → ∃ xs, RepL (allZ w) noPls xs vs ∧ ArgsOf P N ts xs
  | [], vs, ds, ps, _, _, h => by
    cases vs <;> cases ds <;> simp [DataW.TrodAll] at h
    exact ⟨[], RepL.nil, .nil⟩
  | t :: ts, vs, ds, ps, hp, hok, h => by
    obtain ⟨v, vs', d, ds', p, q, rfl, rfl, rfl, h1, h2⟩ := trodAll_cons h
    simp only [List.all_cons, Bool.and_eq_true] at hp
    obtain ⟨x, hx, hax⟩ := arg_rep hp.1 (hok 0 t v rfl rfl) h1
    obtain ⟨xs, hxs, haxs⟩ := args_rep hp.2 (fun j t' v' ht hv => hok (j + 1) t' v' (by simpa using ht) (by simpa using hv)) h2
    exact ⟨x :: xs, RepL.cons hx hxs, .cons hax haxs⟩

theorem trod_after {w' : World} (hh : ∀ k, k < w.heap.size → w'.heap[k]? = w.heap[k]?) {N : Nat} {sp : Nat → Bool} : ∀ {ts : List TypeId} {vs : List Value} {ds : List (DataW HH)} {ps : List MemPlace}, ts.all (plainT P N) = true →
    DataW.TrodAll enc P w 0 (fun _ => true) true ts vs ds ps → (∀ p ∈ ps, sp p.block = true) → DataW.TrodAll enc P w' 0 sp true ts vs ds ps
  | [], vs, ds, ps, _, h, _ => by
    cases vs <;> cases ds <;> simp [DataW.TrodAll] at h ⊢
    exact h
  | t :: ts, vs, ds, ps, hp, h, hs => by
    obtain ⟨v, vs', d, ds', p, q, rfl, rfl, rfl, ⟨fuel, h1⟩, h2⟩ := trodAll_cons h
    simp only [List.all_cons, Bool.and_eq_true] at hp
    refine ⟨p, q, ⟨fuel, ?_⟩, trod_after hh hp.2 h2 fun p hp => hs p (List.mem_append_right _ hp), rfl⟩
    have hlt := DataW.trod_lt _ _ _ _ h1
    refine plain_spare N t fuel _ _ hp.1 (DataW.trod_carry _ _ _ _ h1 fun p hp => ?_) fun p hp => hs p (List.mem_append_left _ hp)
    have := hlt p hp
    cases p with
    | cell b off =>
      have hb : b < w.heap.size := this
      simp only [World.sameAt, World.cell?, hh b hb]
    | map b =>
      have hb : b < w.heap.size := this
      simp only [World.sameAt, hh b hb]

theorem trodAll_len {b : Nat} {sp : Nat → Bool} {hd : Bool} : ∀ {ts : List TypeId} {vs : List Value} {ds : List (DataW HH)} {ps : List MemPlace}, DataW.TrodAll enc P w b sp hd ts vs ds ps → ds.length = ts.length
  | [], vs, ds, ps, h => by cases vs <;> cases ds <;> simp [DataW.TrodAll] at h ⊢
  | t :: ts, vs, ds, ps, h => by
    obtain ⟨v, vs', d, ds', p, q, rfl, rfl, rfl, h1, h2⟩ := trodAll_cons h
    simp [trodAll_len h2]

theorem kept_of {w' : World} (hos : w'.os = w.os) (hout : w'.output = w.output) (hh : ∀ k, k < w.heap.size → w'.heap[k]? = w.heap[k]?) : w.keptBut w' (fun _ => False) := by
  refine ⟨hos, hout, fun i hi => ?_⟩
  rw [hh i hi]
  cases h : w.heap[i]? with
  | none => simp
  | some o => cases o <;> simp

/-- what the call leaves as it was: only what was there need not be frozen anew -/
theorem post_of_old {f : Func} {s : ChangeSpec} {apart fresh handsOn again : Bool} {W W' : World} {args : Array Value} {v : Value} {ds gs : List (DataW HH)} {before pa pv : List MemPlace}
    (hW : DataW.Whole enc P f.params.toList s.vars apart W args.toList ds gs before)
    (hres : ∀ (b : Nat) (sp : Nat → Bool) (hd : Bool), DataW.TrodAll enc P W' b sp hd f.resultTypes.toList (v.resultList f.resultTypes.size) (s.fn HH (ds ++ gs)).results [])
    (hargs : ∀ sp : Nat → Bool, (∀ p ∈ before, sp p.block = true) → DataW.TrodAll enc P W' 0 sp true f.params.toList args.toList (s.fn HH (ds ++ gs)).args pa)
    (hvars : ∀ sp : Nat → Bool, (∀ p ∈ before, sp p.block = true) → DataW.TrodVars enc P W' sp s.vars (s.fn HH (ds ++ gs)).vars pv)
    (hps : before = pa ++ pv) (hk : W.keptBut W' (· ∈ before)) (hfz : ∀ a : Addr, a.block < W.heap.size → W'.frozen? a = W.frozen? a)
    (hok : ∀ (j : Nat) (t : TypeId) (r : Value), f.resultTypes[j]? = some t → (v.resultList f.resultTypes.size)[j]? = some r → Value.okWide P W' .any 0 t r) :
    s.post enc P f apart fresh handsOn again W args v W' := by
  have hold : ∀ p ∈ before, (fun b => decide (b < W.heap.size)) p.block = true := fun p hp => by simpa using hW.lt p hp
  have hlt := hW.lt
  refine ⟨ds, gs, before, [], pa, pv, hW, hres _ _ _, hargs _ hold, hvars _ hold, World.keptBut_mono (fun p hp => ⟨hp, ?_⟩) hk, fun _ => ?_⟩
  · rw [hps, List.mem_append] at hp
    exact Or.inr hp
  · obtain ⟨_, _, _, _, _, hz, hn⟩ := hW
    refine ⟨hok, _, _, ([] ++ pa) ++ pv, ⟨[] ++ pa, pv, trodAll_append (hargs _ (fun _ _ => rfl)) (hres _ _ _), hvars _ (fun _ _ => rfl), rfl, ?_, ?_⟩, ?_⟩
    · intro b off hp
      have hp' : MemPlace.cell b off ∈ before := by rw [hps]; simpa using hp
      rw [hfz ⟨b, off, none⟩ (hlt _ hp')]
      exact hz b off hp'
    · intro ha
      have := hn ha
      rw [hps] at this
      simpa using this
    · intro p hp _
      rw [hps]
      simpa using hp

/-- a law of plain data -/
theorem law_contract {C : Cfg} (hP : C.P = P) (hgo : NoGo P) (hm : P.follows .mixedOrders = true) (hext : ExtOK C) {f : FuncId} {fn : Func} {s : ChangeSpec} {N : Nat} {apart fresh handsOn again : Bool} {tb : TypeId}
    (hpl : fn.params.toList.all (plainT P N) = true) (hvars : s.vars = []) (hspec : ∀ ds : List (DataW HH), ds.length = fn.params.size → s.fn HH ds = { results := [.lit (.bool true)], args := ds })
    (hrt : fn.resultTypes = #[tb]) (htb : P.underlying tb = some .bool)
    (hlaw : ∀ xs, ArgsOf P N fn.params.toList xs → ∃ H', lim C (.call f xs { objs := [], lock := 0 }) = some (.ret (.v (.bool true)) H'))
    {W : World} {base : Nat} {args : Array Value} {ds gs : List (DataW HH)} {before : List MemPlace}
    (hval : ∀ (j : Nat) t v, fn.params[j]? = some t → args[j]? = some v → Value.okWide P W .any base t v)
    (hW : DataW.Whole enc P fn.params.toList s.vars apart W args.toList ds gs before) (hg : laidOk (allZ W) := by intro p hp; cases hp) :
    Calls P f args W fun e W' => ∃ v, e = .returned v ∧ s.post enc P fn apart fresh handsOn again W args v W' := by
  subst hP
  have hW' := hW
  obtain ⟨p, q, hA, hV, rfl, hfz, hnd⟩ := hW
  have hV' := hV
  rw [hvars] at hV'
  obtain ⟨rfl, rfl⟩ := trodVars_none hV'
  obtain ⟨xs, hxs, hax⟩ := args_rep hpl (fun j t v ht hv => hval j t v (by simpa using ht) (by simpa using hv)) hA
  obtain ⟨H', hl⟩ := hlaw xs hax
  have hc := top_calls hg hgo hm hext hl hxs
  have hlen : ds.length = fn.params.size := by have := trodAll_len hA; simpa using this
  have hsf : s.fn HH (ds ++ []) = { results := [.lit (.bool true)], args := ds } := by rw [List.append_nil]; exact hspec ds hlen
  refine Calls.mono' hc ?_
  rintro e W' ⟨rfl, hh, hsz, hos, hout, -, hfr⟩
  refine ⟨_, rfl, post_of_old (pa := p) (pv := []) hW' ?_ ?_ ?_ rfl (World.keptBut_mono (fun _ h => h.elim) (kept_of hos hout hh)) hfr ?_⟩
  · intro b sp hd
    rw [hsf, hrt]
    exact trodAll_mk1 (shut_bool htb true)
  · intro sp hsp
    rw [hsf]
    exact trod_after hh hpl hA fun x hx => hsp x (List.mem_append_left _ hx)
  · intro sp hsp
    rw [hsf, hvars]
    rfl
  · exact ok_one hrt rfl (okWide_bool_mk htb true)
end
end Go.Ev
/- Closed evaluations, in pieces that are told once. -/
namespace Go.Ev

/-- a call on closed arguments, and what it answers -/
structure Tell where
  f : Nat
  K : List AV
  R : AV

def tabHas : List Tell → Nat → Bool
  | [], _ => false
  | t :: r, f => Nat.beq t.f f || tabHas r f
def tabFn : List Tell → Nat → List AV → Option AV
  | [], _, _ => none
  | t :: r, f, args => if Nat.beq t.f f && listEq (eqA 30) args t.K then some t.R else tabFn r f args
def tabExt (e : FuncId → Option (List AV → Option AV)) (T : List Tell) : FuncId → Option (List AV → Option AV) := fun f => if tabHas T f then some (tabFn T f) else e f
def Cfg.more (C : Cfg) (e : FuncId → Option (List AV → Option AV)) : Cfg := { C with ext := e }

/-- a call that looks at memory, and what it answers -/
structure TellH where
  f : Nat
  K : List AV
  G : List (Option AObj)
  R : AV

def eqEnt : List (AV × AV × Nat) → List (AV × AV × Nat) → Bool
  | [], [] => true
  | (a, b, n) :: r, (a', b', n') :: s => eqQ 30 a a' && eqQ 30 b b' && Nat.beq n n' && eqEnt r s
  | _, _ => false
def sameX : Option AObj → Option AObj → Bool
  | none, none => true
  | some .dead, some .dead => true
  | some .dfr, some .dfr => true
  | some (.cells v m e sz g cs), some (.cells v' m' e' sz' g' cs') => Nat.beq v v' && Nat.beq m m' && Nat.beq e e' && Nat.beq sz sz' && (g == g') && eqLQ (eqQ 30) cs cs'
  | some (.map m es c), some (.map m' es' c') => Nat.beq m m' && eqEnt es es' && Nat.beq c c'
  | _, _ => false
def sameL : List (Option AObj) → List (Option AObj) → Bool
  | [], [] => true
  | x :: r, y :: s => sameX x y && sameL r s
  | _, _ => false
theorem eqEnt_eq : ∀ {l m : List (AV × AV × Nat)}, eqEnt l m = true → l = m
  | [], [], _ => rfl
  | [], _ :: _, h => by cases h
  | _ :: _, [], h => by cases h
  | (a, b, n) :: r, (a', b', n') :: s, h => by
    simp only [eqEnt, Bool.and_eq_true] at h
    obtain ⟨⟨⟨h1, h2⟩, h3⟩, h4⟩ := h
    rw [eqQ_eq 30 _ _ h1, eqQ_eq 30 _ _ h2, Nat.eq_of_beq_eq_true h3, eqEnt_eq h4]
theorem sameX_eq {x y : Option AObj} (h : sameX x y = true) : x = y := by
  unfold sameX at h
  split at h
  · rfl
  · rfl
  · rfl
  · simp only [Bool.and_eq_true, beq_iff_eq] at h
    obtain ⟨⟨⟨⟨⟨h1, h2⟩, h3⟩, h4⟩, h5⟩, h6⟩ := h
    rw [Nat.eq_of_beq_eq_true h1, Nat.eq_of_beq_eq_true h2, Nat.eq_of_beq_eq_true h3, Nat.eq_of_beq_eq_true h4, h5, eqLQ_eq (eqQ_eq 30) h6]
  · simp only [Bool.and_eq_true] at h
    obtain ⟨⟨h1, h2⟩, h3⟩ := h
    rw [Nat.eq_of_beq_eq_true h1, eqEnt_eq h2, Nat.eq_of_beq_eq_true h3]
  · cases h
theorem sameL_eq : ∀ {l m : List (Option AObj)}, sameL l m = true → l = m
  | [], [], _ => rfl
  | [], _ :: _, h => by cases h
  | _ :: _, [], h => by cases h
  | x :: r, y :: s, h => by
    simp only [sameL, Bool.and_eq_true] at h
    rw [sameX_eq h.1, sameL_eq h.2]
def tabHHas : List TellH → Nat → Bool
  | [], _ => false
  | t :: r, f => Nat.beq t.f f || tabHHas r f
def tabH : List TellH → Nat → List AV → Heap → Option AV
  | [], _, _, _ => none
  | t :: r, f, args, H => if Nat.beq t.f f && (eqLQ (eqQ 30) args t.K && sameL H.objs t.G) then some t.R else tabH r f args H
def atom1 : AV → Bool
  | .v _ => true
  | _ => false
def atom1b : AV → Bool
  | .v _ => true
  | .agg cs => cs.all atom1
  | _ => false
/-- a value that leads to no memory -/
def atomR : AV → Bool
  | .v _ => true
  | .tup cs => cs.all atom1b
  | .agg cs => cs.all atom1b
  | _ => false
/-- a call on arguments that lie in memory: what it answers if nothing of that memory is turned -/
def borH (T : List Tell) (f : Nat) (args : List AV) (H : Heap) : Option AV :=
  match freezeL { H with lock := 0 } 100000 args with
  | some l => match tabFn T f l with | some R => if atomR R then some R else none | none => none
  | none => none
def tabX (T : List Tell) (TH : List TellH) (f : Nat) (args : List AV) (H : Heap) : Option AV := match tabH TH f args H with | some v => some v | none => borH T f args H
def tabExh (e : FuncId → Option (List AV → Heap → Option AV)) (T : List Tell) (TH : List TellH) : FuncId → Option (List AV → Heap → Option AV) := fun f => if tabHHas TH f || tabHas T f then some (tabX T TH f) else e f
def Cfg.more2 (C : Cfg) (e : FuncId → Option (List AV → Option AV)) (x : FuncId → Option (List AV → Heap → Option AV)) : Cfg := { C with ext := e, exh := x }
def ansH (n : Nat) (o : Option Out) : Option AV := match o with | some (.ret v H) => freezeV { H with lock := n } 1000000 v | _ => none

/-- what is told of a call is so -/
def GoodC (C : Cfg) (t : Tell) : Prop := (∃ e x, ExtOK (C.more2 e x) ∧ Ans (C.more2 e x) t.f t.K t.R) ∧ boundL t.K = 0
def GoodH (C : Cfg) (t : TellH) : Prop := (∃ e x, ExtOK (C.more2 e x) ∧ ∃ n, ansH t.G.length (evT (C.more2 e x) n (.call t.f t.K { objs := t.G, lock := t.G.length })) = some t.R) ∧ (Nat.beq (boundL t.K) 0 || t.K.any isYld) = false
def AllG (C : Cfg) : List Tell → Prop
  | [] => True
  | t :: r => GoodC C t ∧ AllG C r
def AllH (C : Cfg) : List TellH → Prop
  | [] => True
  | t :: r => GoodH C t ∧ AllH C r

theorem tabFn_some {C : Cfg} : ∀ {T : List Tell} {f : Nat} {args : List AV} {v : AV}, AllG C T → tabFn T f args = some v → ∃ t, GoodC C t ∧ t.f = f ∧ args = t.K ∧ v = t.R
  | [], _, _, _, _, h => by cases h
  | t :: r, f, args, v, hT, h => by
    unfold tabFn at h
    split at h
    · rename_i hq
      simp only [Bool.and_eq_true] at hq
      exact ⟨t, hT.1, Nat.eq_of_beq_eq_true hq.1, listEq_eq (eqA_eq 30) hq.2, by simpa using h.symm⟩
    · exact tabFn_some hT.2 h
theorem tabH_some {C : Cfg} : ∀ {T : List TellH} {f : Nat} {args : List AV} {H : Heap} {v : AV}, AllH C T → tabH T f args H = some v → ∃ t, GoodH C t ∧ t.f = f ∧ args = t.K ∧ H.objs = t.G ∧ v = t.R
  | [], _, _, _, _, _, h => by cases h
  | t :: r, f, args, H, v, hT, h => by
    unfold tabH at h
    split at h
    · rename_i hq
      simp only [Bool.and_eq_true] at hq
      exact ⟨t, hT.1, Nat.eq_of_beq_eq_true hq.1, eqLQ_eq (eqQ_eq 30) hq.2.1, sameL_eq hq.2.2, by simpa using h.symm⟩
    · exact tabH_some hT.2 h

theorem atom1_rep {Z Z' : Fzn} {ρ ρ' : Pls} {x : AV} {v : Value} (h : Rep Z ρ x v) (ha : atom1 x = true) : Rep Z' ρ' x v := by
  cases h with
  | v h => exact .v h
  | _ => cases ha
theorem atom1b_rep {Z Z' : Fzn} {ρ ρ' : Pls} {x : AV} {v : Value} (h : Rep Z ρ x v) (ha : atom1b x = true) : Rep Z' ρ' x v := by
  cases h with
  | v h => exact .v h
  | agg hl h => exact .agg hl fun i c v hc hv => atom1_rep (h i c v hc hv) (List.all_eq_true.1 (show List.all _ atom1 = true from ha) c (List.mem_of_getElem? hc))
  | _ => cases ha
theorem atomR_rep {Z Z' : Fzn} {ρ ρ' : Pls} {x : AV} {v : Value} (h : Rep Z ρ x v) (ha : atomR x = true) : Rep Z' ρ' x v := by
  cases h with
  | v h => exact .v h
  | agg hl h => exact .agg hl fun i c v hc hv => atom1b_rep (h i c v hc hv) (List.all_eq_true.1 (show List.all _ atom1b = true from ha) c (List.mem_of_getElem? hc))
  | tup hl h => exact .tup hl fun i c v hc hv => atom1b_rep (h i c v hc hv) (List.all_eq_true.1 (show List.all _ atom1b = true from ha) c (List.mem_of_getElem? hc))
  | _ => cases ha

/-- what a run from memory that is all frozen leaves, of a world that stands for more -/
theorem back_frozen {Z : Fzn} {ρ : Pls} {H : Heap} {w : World} (hs : Sim Z ρ H w) {R : AV} (hR : atomR R = true) {x : Value} {w' : World} (h : After (allZ w) noPls { objs := [], lock := 0 } w R { objs := [], lock := 0 } x w') : After Z ρ H w R H x w' := by
  obtain ⟨Z', ρ', h1, h2, h3⟩ := h
  have hsame : ∀ k, k < w.heap.size → w'.heap[k]? = w.heap[k]? := fun k hk => h3.frame k hk (start_own w k)
  refine ⟨Z, ρ, atomR_rep h1 hR, ⟨fun b o hb hl => ?_, hs.inj, fun k o hk => ?_, hs.fresh, hs.lk, hs.lg⟩, ⟨.refl _, .refl _, fun k hk _ => hsame k hk, fun _ _ h => h, h3.size, h3.os, h3.output, h3.tape, h3.drawn, h3.fz, rfl, fun _ _ => rfl, Nat.le_refl _, fun _ _ _ => rfl, fun _ _ _ => rfl, fun _ _ h _ => ⟨h, fun _ => rfl⟩⟩⟩
  · obtain ⟨pl, obj, q1, q2, q3, q4⟩ := hs.objs b o hb hl
    exact ⟨pl, obj, q1, (hsame _ (Array.getElem?_eq_some_iff.1 q2).1).trans q2, q3, q4⟩
  · have := hs.zok k o hk
    exact (hsame _ (Array.getElem?_eq_some_iff.1 this).1).trans this

theorem extOK_tab {C : Cfg} (hgo : NoGo C.P) (hm : C.P.follows .mixedOrders = true) (h0 : ExtOK C) {T : List Tell} (hT : AllG C T) {TH : List TellH} (hH : AllH C TH) : ExtOK (C.more2 (tabExt C.ext T) (tabExh C.exh T TH)) := by
  refine ⟨fun f g hf args v hv Z ρ H w vals hs hl => ?_, h0.lay, fun f g hf args v H hv Z ρ w vals hs hl => ?_⟩
  · have hf' : (if tabHas T f then some (tabFn T f) else C.ext f) = some g := hf
    split at hf'
    · simp only [Option.some.injEq] at hf'
      subst hf'
      obtain ⟨t, ⟨⟨e, x, he, ha⟩, hb⟩, rfl, rfl, rfl⟩ := tabFn_some hT hv
      exact ext_of_ans (C := C.more2 e x) hgo hm he ha hb Z ρ H w vals hs hl
    · exact h0.ext f g hf' args v hv Z ρ H w vals hs hl
  · have hf' : (if tabHHas TH f || tabHas T f then some (tabX T TH f) else C.exh f) = some g := hf
    split at hf'
    · simp only [Option.some.injEq] at hf'
      subst hf'
      unfold tabX at hv
      split at hv
      case h_2 =>
        unfold borH at hv
        split at hv
        · rename_i l hfz
          split at hv
          · rename_i R hR
            split at hv
            · rename_i hat
              simp only [Option.some.injEq] at hv
              subst hv
              have hlz : RepL (allZ w) noPls l vals := (freeze_rep (ρ := noPls) (Z1 := Z) (Z2 := allZ w) (ρ1 := ρ) (H1 := { H with lock := 0 }) (w1 := w) ⟨hs.objs, hs.inj, hs.zok, hs.fresh, Nat.zero_le _, hs.lg⟩ (fun k o hk => hs.zok k o hk) (fun b o pl _ _ _ _ => rfl) (fun b v p hb _ => absurd hb (Nat.not_lt_zero _)) 100000).2 _ _ _ hfz hl
              obtain ⟨t, ⟨⟨e, x, he, ha⟩, hb⟩, rfl, rfl, rfl⟩ := tabFn_some hT hR
              have hm1 := ext_of_ans (C := C.more2 e x) hgo hm he ha hb (allZ w) noPls { objs := [], lock := 0 } w vals (start_sim w (hs.lg.mono fun k o hk => hs.zok k o hk)) hlz
              rcases hm1 with ⟨y, w', h1, h2⟩ | ⟨h1, h2⟩
              · exact Or.inl ⟨y, w', h1, back_frozen hs hat h2⟩
              · exact Or.inr ⟨h1, Calls.mono' h2 fun en w' he => by
                  obtain ⟨y, rfl, h3⟩ := he
                  exact ⟨y, rfl, back_frozen hs hat h3⟩⟩
            · cases hv
          · cases hv
        · cases hv
      rename_i v2 hv2
      simp only [Option.some.injEq] at hv
      subst hv
      obtain ⟨t, ⟨⟨e, x, he, n, ha⟩, hb⟩, rfl, rfl, hG, rfl⟩ := tabH_some hH hv2
      have hrec : RecOK C.P (evT (C.more2 e x) n) := (ev_sound (C := C.more2 e x) hgo he (draw_ok hm he) n).1
      let D : Cfg := { C.more2 e x with pure := fun _ _ _ => true }
      have hk : callKind D t.f t.f none t.K = 2 := by
        simp only [Bool.or_eq_false_iff] at hb
        unfold callKind
        simp only [hb.1, hb.2, Bool.false_eq_true, if_false, if_true, D]
      have hB : callB D (evT (C.more2 e x) n) t.f t.f none t.K H = some (t.R, H) := by
        unfold callB; rw [hk]
        have h1 : ({ H with lock := H.size } : Heap) = { objs := t.G, lock := t.G.length } := by
          obtain ⟨objs, lock⟩ := H
          simp only at hG
          subst hG
          rfl
        have h2 : H.size = t.G.length := by unfold Heap.size; rw [hG]
        simp only
        rw [h1, h2]
        unfold ansH at ha
        split at ha
        · rename_i v1 H1 h3
          rw [h3]
          simp only [ha, Option.map_some]
        · cases ha
      obtain ⟨hbody, hc⟩ := callB_sound (C := D) hrec hs hl hB
      exact Or.inr ⟨hbody.run _ _, hc⟩
    · exact h0.exh f g hf' args v H hv Z ρ w vals hs hl

def ansC (o : Option Out) : Option AV := match o with | some (.ret v H) => freezeV { H with lock := 0 } 1000000 v | _ => none
theorem ans_of_evC {C : Cfg} {n : Nat} {f : FuncId} {args : List AV} {v : AV} (h : ansC (evT C n (.call f args { objs := [], lock := 0 })) = some v) : Ans C f args v := by
  refine Ans.iff.2 ?_
  cases ho : evT C n (.call f args { objs := [], lock := 0 }) with
  | none => rw [ho] at h; cases h
  | some o =>
    rw [ho] at h
    cases o with
    | go => cases h
    | ret x H => exact ⟨x, H, lim_iff.2 ⟨n, ho⟩, h⟩

theorem goodC {C : Cfg} (hgo : NoGo C.P) (hm : C.P.follows .mixedOrders = true) (h0 : ExtOK C) {t : Tell} (T : List Tell) (hT : AllG C T) (TH : List TellH) (hH : AllH C TH) (n : Nat)
    (h : ansC (evT (C.more2 (tabExt C.ext T) (tabExh C.exh T TH)) n (.call t.f t.K { objs := [], lock := 0 })) = some t.R) (hb : boundL t.K = 0) : GoodC C t :=
  ⟨⟨_, _, extOK_tab hgo hm h0 hT hH, ans_of_evC h⟩, hb⟩
theorem goodH {C : Cfg} (hgo : NoGo C.P) (hm : C.P.follows .mixedOrders = true) (h0 : ExtOK C) {t : TellH} (T : List Tell) (hT : AllG C T) (TH : List TellH) (hH : AllH C TH) (n : Nat)
    (h : ansH t.G.length (evT (C.more2 (tabExt C.ext T) (tabExh C.exh T TH)) n (.call t.f t.K { objs := t.G, lock := t.G.length })) = some t.R) (hb : (Nat.beq (boundL t.K) 0 || t.K.any isYld) = false) : GoodH C t :=
  ⟨⟨_, _, extOK_tab hgo hm h0 hT hH, n, h⟩, hb⟩
theorem freeze_toV {H : Heap} {K : Nat} {x : AV} {y : Value} (h : freezeV H K x = some (.v y)) : x = .v y := by
  cases K with
  | zero => cases h
  | succ K =>
    unfold freezeV at h
    cases x with
    | v z => simpa using h
    | ro z k => simp at h
    | vs s l c => simp at h
    | agg l => simp only [Option.map_eq_some_iff] at h; obtain ⟨_, _, h⟩ := h; cases h
    | tup l => simp only [Option.map_eq_some_iff] at h; obtain ⟨_, _, h⟩ := h; cases h
    | ifc t z => simp only [Option.map_eq_some_iff] at h; obtain ⟨_, _, h⟩ := h; cases h
    | mp b => simp only at h; split at h <;> simp at h
    | yld b => simp only at h; split at h <;> simp at h
    | fn f a b => simp only at h; split at h <;> simp at h
    | ptr b v k =>
      simp only at h
      split at h
      · simp at h
      · split at h
        · split at h
          · split at h <;> simp at h
          · simp at h
        · simp at h
    | sl b v off len c =>
      simp only at h
      split at h
      · simp at h
      · split at h
        · split at h
          · split at h
            · simp at h
            · split at h
              · split at h <;> simp at h
              · simp at h
          · simp at h
        · simp at h
theorem Ans.limT {C : Cfg} {f : FuncId} {args : List AV} (h : Ans C f args (.v (.bool true))) : ∃ H', Go.Ev.lim C (.call f args { objs := [], lock := 0 }) = some (.ret (.v (.bool true)) H') := by
  obtain ⟨x, H, h1, h2⟩ := Ans.iff.1 h
  rw [freeze_toV h2] at h1
  exact ⟨H, h1⟩

/-- a law without arguments -/
theorem closed_law {C : Cfg} {f : FuncId} (h : GoodC C ⟨f, [], .v (.bool true)⟩) : ∃ e x, ExtOK (C.more2 e x) ∧ ∀ P N xs, ArgsOf P N [] xs → ∃ H', Go.Ev.lim (C.more2 e x) (.call f xs { objs := [], lock := 0 }) = some (.ret (.v (.bool true)) H') := by
  obtain ⟨⟨e, x, he, ha⟩, -⟩ := h
  refine ⟨e, x, he, fun P N xs hx => ?_⟩
  cases hx
  exact ha.limT
end Go.Ev
/- Do two slices lie in one memory: what stands for it. -/
namespace Go.Ev

def lapsA (args : List AV) (H : Heap) : Option AV :=
  match args with
  | [x, .sl b ver _ _ _] =>
    match H.get b with
    | some (.cells v _ _ _ _ _) =>
      if v = ver then
        match x with
        | .vs sz _ _ => if sz = 0 then none else some (.v (.bool false))
        | .sl b' ver' _ _ _ =>
          match H.get b' with
          | some (.cells v' _ _ _ _ _) => if v' = ver' then (if b' = b then none else some (.v (.bool false))) else none
          | _ => none
        | _ => none
      else none
    | _ => none
  | _ => none

theorem run_laps {P : Program} (w : World) (tS tR e : TypeId) (ht : P.underlying tS = some (.slice e)) (size : Nat) (hz : ∀ w, (Go.sizeOf e).run P w = .ok size w)
    (a b : Addr) (la ca lb cb : Nat) (hne : a.block ≠ b.block) {arrA arrB : Array Value} {eA eB : TypeId} {fzA : Nat × Nat}
    (hA : w.heap[a.block]? = some (.cells arrA eA fzA)) (hB : w.heap[b.block]? = some (.cells arrB eB (0, 0))) (hn : la = 0 ∨ arrA.size ≠ 0 ∨ fzA = (0, 0)) :
    (Extern.SlicesOverlaps.overlaps #[tS, tS] #[tR] #[.slice (some a) la ca, .slice (some b) lb cb]).run P w = .ok (.bool false) w := by
  have hnb : (a.block != b.block) = true := by simpa using hne
  have hnb' : (a.block == b.block) = false := by simpa using hne
  change Sem.run P (α := Value) (do
    let some t := (#[tS, tS] : Array TypeId)[0]? | stuck "slices.overlaps: no parameter types"
    let .slice elem ← underlying t | stuck "slices.overlaps: slice type expected"
    let size ← sizeOf elem
    match (some a : Option Addr), (some b : Option Addr) with
    | some a, some b =>
      if la = 0 ∨ lb = 0 ∨ size = 0 then pure (Value.bool false)
      else if a.block != b.block && (← frozen a) && (← frozen b) then unsupported .addressObserved
      else do
        if a.block != b.block then do
          noView a; noView b
          if ← mayBeOne a b then return Value.bool ((← choose (.extern "sameAddr.stringBytes" 2)) == 1)
        pure (Value.bool (a.block == b.block && a.off < b.off + lb * size && b.off < a.off + la * size))
    | _, _ => pure (Value.bool false)) w = _
  have hsa : w.shape? a.block = some (eA, arrA.size) := by simp [World.shape?, hA]
  have hsb : w.shape? b.block = some (eB, arrB.size) := by simp [World.shape?, hB]
  have hfb : ∀ o, w.frozen? { block := b.block, off := o } = false := fun o => by simp [World.frozen?, hB]
  have hfb' : w.frozen? b = false := by simp [World.frozen?, hB]
  by_cases h0 : la = 0 ∨ lb = 0 ∨ size = 0
  · simp [run_underlying ht, hz, h0]
  · have hn' : arrA.size ≠ 0 ∨ fzA = (0, 0) := by
      rcases hn with h | h
      · exact absurd (Or.inl h) h0
      · exact h
    rcases hn' with hk | hk
    · cases hka : arrA.size with
      | zero => exact absurd hka hk
      | succ n =>
        rw [hka] at hsa
        generalize hfa : w.frozen? a = fa
        generalize hfe : w.frozen? { block := a.block, off := n + 1 } = fe
        cases fa <;> cases fe <;> simp [run_underlying ht, hz, h0, hnb, hnb', frozen, noView, viewAt, mayBeOne, stringish, shape, Sem.run, hsa, hsb, hfa, hfe, hfb, hfb']
    · subst hk
      have hfa : ∀ o, w.frozen? { block := a.block, off := o } = false := fun o => by simp [World.frozen?, hA]
      have hfa' : w.frozen? a = false := by simp [World.frozen?, hA]
      simp [run_underlying ht, hz, h0, hnb, hnb', frozen, noView, viewAt, mayBeOne, stringish, shape, Sem.run, hsa, hsb, hfa, hfa', hfb, hfb']

theorem run_laps0 {P : Program} (w : World) (tS tR e : TypeId) (ht : P.underlying tS = some (.slice e)) (size : Nat) (hz : ∀ w, (Go.sizeOf e).run P w = .ok size w) (a b : Addr) (ca lb cb : Nat) :
    (Extern.SlicesOverlaps.overlaps #[tS, tS] #[tR] #[.slice (some a) 0 ca, .slice (some b) lb cb]).run P w = .ok (.bool false) w := by
  change Sem.run P (α := Value) (do
    let some t := (#[tS, tS] : Array TypeId)[0]? | stuck "slices.overlaps: no parameter types"
    let .slice elem ← underlying t | stuck "slices.overlaps: slice type expected"
    let size ← sizeOf elem
    match (some a : Option Addr), (some b : Option Addr) with
    | some a, some b =>
      if (0 : Nat) = 0 ∨ lb = 0 ∨ size = 0 then pure (Value.bool false)
      else if a.block != b.block && (← frozen a) && (← frozen b) then unsupported .addressObserved
      else do
        if a.block != b.block then do
          noView a; noView b
          if ← mayBeOne a b then return Value.bool ((← choose (.extern "sameAddr.stringBytes" 2)) == 1)
        pure (Value.bool (a.block == b.block && a.off < b.off + lb * size && b.off < a.off + 0 * size))
    | _, _ => pure (Value.bool false)) w = _
  simp [run_underlying ht, hz]

theorem exh_laps {P : Program} {f : FuncId} {fn : Func} (hf : P.funcs[f]? = some fn) (hb : fn.body = none) (hn : (fn.name == "runtime.NumGoroutine") = false) (h1 : (Extern.findNext fn).isNone = true)
    {tS tR e : TypeId} (h2 : Extern.find fn = some (Extern.SlicesOverlaps.overlaps #[tS, tS] #[tR])) (ht : P.underlying tS = some (.slice e)) {size : Nat} (hz : ∀ w, (Go.sizeOf e).run P w = .ok size w)
    {args : List AV} {v : AV} {H : Heap} (h : lapsA args H = some v) (Z : Fzn) (ρ : Pls) (w : World) (vals : List Value) (hs : Sim Z ρ H w) (hl : RepL Z ρ args vals) : FnMeets P f vals w (After Z ρ H w v H) := by
  have hrow : ∀ {b : Nat} {v m : Nat} {t : TypeId} {sz : Nat} {g : Bool} {cs : List AV} {pl : Pl}, H.get b = some (.cells v m t sz g cs) → ρ b v = some pl → ∃ arr e, w.heap[pl.blk]? = some (.cells arr e (0, 0)) ∧ Z pl.blk = none := by
    intro b v m t sz g cs pl hg hp
    obtain ⟨pl', obj, q1, q2, q3, q4⟩ := hs.objs b _ hg rfl
    simp only [AObj.ver] at q1
    rw [hp] at q1; cases q1
    cases obj <;> simp only [RepO] at q3
    obtain ⟨rfl, -⟩ := q3
    exact ⟨_, _, q2, q4⟩
  have key : ∀ (a b : Addr) (la ca lb cb : Nat), vals = [.slice (some a) la ca, .slice (some b) lb cb] → a.block ≠ b.block → (∃ arrA eA fzA, w.heap[a.block]? = some (.cells arrA eA fzA) ∧ (la = 0 ∨ arrA.size ≠ 0 ∨ fzA = (0, 0))) →
      (∃ arrB eB, w.heap[b.block]? = some (.cells arrB eB (0, 0))) → FnMeets P f vals w (After Z ρ H w (.v (.bool false)) H) := by
    rintro a b la ca lb cb rfl hne ⟨arrA, eA, fzA, hA, hna⟩ ⟨arrB, eB, hB⟩
    refine Or.inl ⟨.bool false, w, ?_, Z, ρ, .v rfl, hs, Ext.refl _ _ _ _⟩
    have hfn : Extern.findNext fn = none := Option.isNone_iff_eq_none.1 h1
    have := run_laps (P := P) w tS tR e ht size hz a b la ca lb cb hne hA hB hna
    have hn' : ¬ fn.name = "runtime.NumGoroutine" := by
      intro e; rw [e] at hn; simp at hn
    simp [callFunc, hf, hn', hb, hfn, h2, this]
  unfold lapsA at h
  split at h
  · rename_i x b ver off len cap
    obtain ⟨v1, ws, rfl, hv1, hl⟩ := hl.uncons
    obtain ⟨v2, ws, rfl, hv2, hl⟩ := hl.uncons
    have : ws = [] := by have := hl.1; exact List.length_eq_zero_iff.1 this.symm
    subst this
    split at h
    · rename_i vr m t sz g cs hg
      split at h
      · rename_i hver
        subst hver
        cases hv2 with
        | sl hp hc hcn hle =>
        obtain ⟨arrB, eB, hB, hZ⟩ := hrow hg hp
        split at h
        · rename_i sz xs cap1
          split at h
          · cases h
          · rename_i hsz
            simp only [Option.some.injEq] at h; subst h
            cases hv1 with
            | vs hz' ha hs' hl' h' hc' hle' =>
              refine key _ _ _ _ _ _ rfl ?_ ?_ ⟨_, _, hB⟩
              · intro hE
                simp only at hE
                rw [hE, hZ] at hz'; cases hz'
              · refine ⟨_, _, _, hs.zok _ _ hz', ?_⟩
                by_cases hx : xs.length = 0
                · exact .inl hx
                · right; left
                  intro h0
                  have hlen := congrArg List.length ha
                  simp only [Array.length_toList, h0, List.length_append] at hlen
                  cases xs with
                  | nil => exact hx rfl
                  | cons y ys =>
                    have hy := hs' y (by simp)
                    simp only [List.flatMap_cons, List.length_append] at hl'
                    omega
            | vs0 hc' =>
              rename_i a
              refine Or.inl ⟨.bool false, w, ?_, Z, ρ, .v rfl, hs, Ext.refl _ _ _ _⟩
              have hfn : Extern.findNext fn = none := Option.isNone_iff_eq_none.1 h1
              have : ∀ b ca cb lb, (Extern.SlicesOverlaps.overlaps #[tS, tS] #[tR] #[.slice (some a) 0 ca, .slice (some b) lb cb]).run P w = .ok (.bool false) w := fun b ca cb lb => run_laps0 w tS tR e ht size hz a b ca lb cb
              have hn' : ¬ fn.name = "runtime.NumGoroutine" := by
                intro e; rw [e] at hn; simp at hn
              simp [callFunc, hf, hn', hb, hfn, h2, this]
        · rename_i b' ver' off' len' cap'
          split at h
          · rename_i vr' m' t' sz' g' cs' hg'
            split at h
            · rename_i hver'
              subst hver'
              split at h
              · cases h
              · rename_i hbb
                simp only [Option.some.injEq] at h; subst h
                cases hv1 with
                | sl hp' hc' hcn' hle' =>
                obtain ⟨arrA, eA, hA, hZ'⟩ := hrow hg' hp'
                refine key _ _ _ _ _ _ rfl ?_ ⟨_, _, _, hA, .inr (.inr rfl)⟩ ⟨_, _, hB⟩
                intro hE
                exact hbb (hs.inj b' b _ _ _ _ hg' rfl hg rfl (by simpa [AObj.ver] using hp') (by simpa [AObj.ver] using hp) hE)
            · cases h
          · cases h
        · cases h
      · cases h
    · cases h
  · cases h

theorem extOK_laps {C C' : Cfg} (hP : C'.P = C.P) {f : FuncId} (hg : ∀ args v H, lapsA args H = some v → ∀ (Z : Fzn) (ρ : Pls) (w : World) (vals : List Value), Sim Z ρ H w → RepL Z ρ args vals → FnMeets C.P f vals w (After Z ρ H w v H))
    (hext : ExtOK C) (he : C'.ext = C.ext := by rfl) (hlay : C'.lay = C.lay := by rfl) (hexh : C'.exh = fun f' => if Nat.beq f' f then some lapsA else C.exh f') : ExtOK C' := by
  refine ⟨fun f' g' hf' => by rw [hP]; rw [he] at hf'; exact hext.ext f' g' hf', fun f' g' hf' => by rw [hP]; rw [hlay] at hf'; exact hext.lay f' g' hf', fun f' g' hf' args v H hv Z ρ w vals hs hl => ?_⟩
  rw [hP]
  rw [hexh] at hf'
  simp only at hf'
  split at hf'
  · rename_i hb
    have := Nat.eq_of_beq_eq_true hb
    subst this
    simp only [Option.some.injEq] at hf'
    subst hf'
    exact hg args v H hv Z ρ w vals hs hl
  · exact hext.exh f' g' hf' args v H hv Z ρ w vals hs hl
end Go.Ev
/- A function of Go's library that stands for itself: internal/bytealg.IndexByteString. -/
namespace Go.Ev

/-! ### the first byte of a kind -/
def idxB (c : Nat) : Int → List UInt8 → Int
  | _, [] => -1
  | i, b :: r => if Nat.beq b.toNat c then i else idxB c (i + 1) r
theorem idxB_eq (c : UInt8) : ∀ (l : List UInt8) (i : Int), idxB c.toNat i l = if Lib.indexByte l c = -1 then -1 else Lib.indexByte l c + i
  | [], i => by simp [idxB, Lib.indexByte]
  | b :: l, i => by
    unfold idxB Lib.indexByte
    by_cases h : b = c
    · subst h
      have h1 : Nat.beq b.toNat b.toNat = true := Nat.beq_refl _
      simp
    · have h1 : Nat.beq b.toNat c.toNat = false := by
        cases hb : Nat.beq b.toNat c.toNat
        · rfl
        · exact absurd (UInt8.toNat_inj.1 (Nat.eq_of_beq_eq_true hb)) h
      have hge := Lib.indexByte_ge l c
      rw [h1, idxB_eq c l (i + 1)]
      simp only [Bool.false_eq_true, if_false, beq_iff_eq, h]
      by_cases h2 : Lib.indexByte l c = -1
      · simp [h2]
      · simp only [h2, if_false]
        rw [if_neg (by omega)]; omega
def idxStr : List AV → Option AV
  | [.v (.string s), .v (.int .u8 c)] => if 0 ≤ c ∧ c < 256 then some (.v (.int .i64 (idxB c.toNat 0 s.data.toList))) else none
  | _ => none
theorem ext_idx {P : Program} {f : FuncId} {fn : Func} (hf : P.funcs[f]? = some fn) (hb : fn.body = none) (hn : (fn.name == "runtime.NumGoroutine") = false) (h1 : (Extern.findNext fn).isNone = true) (h2 : Extern.find fn = some Extern.BytealgIndexByte.indexByte)
    {args : List AV} {v : AV} (h : idxStr args = some v) (Z : Fzn) (ρ : Pls) (H : Heap) (w : World) (vals : List Value) (hs : Sim Z ρ H w) (hl : RepL Z ρ args vals) : FnMeets P f vals w (After Z ρ H w v H) := by
  unfold idxStr at h
  split at h
  · rename_i s c
    split at h
    · rename_i hc
      obtain ⟨v1, ws, rfl, hv1, hl⟩ := hl.uncons
      obtain ⟨v2, ws, rfl, hv2, hl⟩ := hl.uncons
      have : ws = [] := List.length_eq_zero_iff.1 hl.1.symm
      subst this
      obtain ⟨rfl, -⟩ := hv1.v_inv
      obtain ⟨rfl, -⟩ := hv2.v_inv
      simp only [Option.some.injEq] at h
      subst h
      refine Or.inl ⟨.int .i64 (Lib.indexByte s.data.toList c.toNat.toUInt8), w, ?_, Z, ρ, ?_, hs, Ext.refl _ _ _ _⟩
      · have hfn : Extern.findNext fn = none := Option.isNone_iff_eq_none.1 h1
        have := Lib.run_indexByteString (P := P) s c w
        have hn' : ¬ fn.name = "runtime.NumGoroutine" := by
          intro e; rw [e] at hn; simp at hn
        simp [callFunc, hf, hn', hb, hfn, h2, this]
      · have hcn : c.toNat.toUInt8.toNat = c.toNat := by
          have : c.toNat < 256 := by omega
          simp [Nat.toUInt8, Nat.mod_eq_of_lt this]
        have := idxB_eq c.toNat.toUInt8 s.data.toList 0
        rw [hcn] at this
        have e : idxB c.toNat 0 s.data.toList = Lib.indexByte s.data.toList c.toNat.toUInt8 := by
          rw [this]; split
          · rename_i h; exact h.symm
          · omega
        rw [e]; exact .v rfl
    · cases h
  · cases h
end Go.Ev
/- A function of Go's library that stands for itself: strings.Join. -/
namespace Go.Ev
open Go.Proofs Go.Shelf Go.RowKit

theorem Sim.below {Z : Fzn} {ρ : Pls} {H : Heap} {w w' : World} (hs : Sim Z ρ H w) (hb : Below w.heap.size w w') : Sim Z ρ H w' :=
  ⟨fun b o h hl => let ⟨pl, obj, h1, h2, h3, h4⟩ := hs.objs b o h hl; ⟨pl, obj, h1, (hb.block _ (Array.getElem?_eq_some_iff.1 h2).1).trans h2, h3, h4⟩, hs.inj,
    fun k o hk => (hb.block k (Array.getElem?_eq_some_iff.1 (hs.zok k o hk)).1).trans (hs.zok k o hk), hs.fresh, hs.lk, hs.lg⟩
theorem Ext.below {Z : Fzn} {ρ : Pls} {H : Heap} {w w' : World} (hb : Below w.heap.size w w') : Ext Z ρ H w Z ρ H w' :=
  ⟨.refl _, .refl _, fun k hk _ => hb.block k hk, fun _ _ h => h, hb.size, hb.os, hb.output, hb.tape, (fun s => nomatch (show true = false from s)), fun _ ha => hb.frozen ha, rfl, fun _ _ => rfl, Nat.le_refl _, fun _ _ _ => rfl, fun _ _ _ => rfl, fun _ _ h _ => ⟨h, fun _ => rfl⟩⟩

/-! ### strings.Join -/
def strsOf : List AV → Option (List ByteArray)
  | [] => some []
  | .v (.string s) :: r => match strsOf r with | some l => some (s :: l) | none => none
  | _ => none
def joinStr : List AV → Option AV
  | [.v (.slice none 0 0), .v (.string _)] => some (.v (.string ⟨#[]⟩))
  | [.vs _ xs _, .v (.string sep)] =>
    match strsOf xs with
    | some l => if l.length ≤ 100000 ∧ (Lib.join (l.map (·.data.toList)) sep.data.toList).length ≤ 100000 then some (.v (.string ⟨(Lib.join (l.map (·.data.toList)) sep.data.toList).toArray⟩)) else none
    | none => none
  | _ => none
theorem strsOf_some : ∀ {xs : List AV} {l : List ByteArray}, strsOf xs = some l → xs = l.map fun s => .v (.string s)
  | [], l, h => by simp [strsOf] at h; subst h; rfl
  | x :: r, l, h => by
    unfold strsOf at h
    split at h
    · rename_i h'; cases h'
    · rename_i s r' h'
      simp only [List.cons.injEq] at h'
      obtain ⟨rfl, rfl⟩ := h'
      split at h
      · rename_i l' hl
        simp only [Option.some.injEq] at h
        subst h
        rw [strsOf_some hl]; rfl
      · cases h
    · cases h
theorem flat_strs : ∀ l : List ByteArray, (l.map fun s => AV.v (.string s)).flatMap AV.cells = l.map fun s => AV.v (.string s)
  | [] => rfl
  | a :: r => by simp only [List.map_cons, List.flatMap_cons, flat_strs r]; rfl
theorem ext_join {P : Program} {ρn : Ren} (L : Lays.n156 P ρn) (X : Builder.Extra P ρn) {f : FuncId} (hf : ρn.f 156 = f) (hbody : HasBody P f)
    {args : List AV} {v : AV} (h : joinStr args = some v) (Z : Fzn) (ρ : Pls) (H : Heap) (w : World) (vals : List Value) (hs : Sim Z ρ H w) (hl : RepL Z ρ args vals) : FnMeets P f vals w (After Z ρ H w v H) := by
  subst hf
  unfold joinStr at h
  split at h
  · rename_i sep
    obtain ⟨v1, ws, rfl, hv1, hl⟩ := hl.uncons
    obtain ⟨v2, ws, rfl, hv2, hl⟩ := hl.uncons
    have : ws = [] := List.length_eq_zero_iff.1 hl.1.symm
    subst this
    obtain ⟨rfl, -⟩ := hv1.v_inv
    obtain ⟨rfl, -⟩ := hv2.v_inv
    simp only [Option.some.injEq] at h
    subst h
    refine Or.inr ⟨hbody.run _ _, Calls.mono' (Any.strings_Join_none L X none 0 sep w) ?_⟩
    rintro e w' ⟨rfl, rfl⟩
    exact ⟨_, rfl, Z, ρ, .v rfl, hs, Ext.refl _ _ _ _⟩
  · rename_i sz xs cap sep
    obtain ⟨v1, ws, rfl, hv1, hl⟩ := hl.uncons
    obtain ⟨v2, ws, rfl, hv2, hl⟩ := hl.uncons
    have : ws = [] := List.length_eq_zero_iff.1 hl.1.symm
    subst this
    obtain ⟨rfl, -⟩ := hv2.v_inv
    split at h
    · rename_i l hstr
      split at h
      · rename_i hc
        simp only [Option.some.injEq] at h
        subst h
        have hxs := strsOf_some hstr
        refine Or.inr ⟨hbody.run _ _, ?_⟩
        cases hv1 with
        | vs hz ha hsz hl' hh hcap hle =>
          rename_i c blk arr e fz pre vs post
          have hblk := (Array.getElem?_eq_some_iff.1 (hs.zok _ _ hz)).1
          have hlen : xs.length = l.length := by rw [hxs, List.length_map]
          have hcells : (xs.flatMap AV.cells) = l.map fun s => AV.v (.string s) := by
            rw [hxs]
            exact flat_strs l
          have hget : ∀ (j : Nat) (x : ByteArray), l[j]? = some x → w.cell? ⟨blk, pre.length + j, none⟩ = some (.string x) := by
            intro j x hj
            have h1 : (xs.flatMap AV.cells)[j]? = some (.v (.string x)) := by rw [hcells, List.getElem?_map, hj]; rfl
            have hlt : j < vs.length := by rw [← hl']; exact (List.getElem?_eq_some_iff.1 h1).1
            have h2 : vs[j]? = some vs[j] := List.getElem?_eq_getElem hlt
            have h3 := (hh j _ _ h1 h2).v_inv.1
            rw [cell_at (hs.zok _ _ hz) ha h2, h3]
          have hcall := Any.strings_Join L X blk pre.length c l sep w hget hblk (by have := hc.1; omega) (by omega) (by have := hc.2; omega)
          rw [← hlen] at hcall
          refine Calls.mono' hcall ?_
          rintro e w' ⟨rfl, hb⟩
          exact ⟨_, rfl, Z, ρ, .v rfl, hs.below hb, Ext.below hb⟩
        | vs0 hcap =>
          have hl0 : l = [] := by
            cases l with
            | nil => rfl
            | cons a r => simp at hxs
          subst hl0
          refine Calls.mono' (Any.strings_Join_none L X _ _ sep w) ?_
          rintro e w' ⟨rfl, rfl⟩
          exact ⟨_, rfl, Z, ρ, .v rfl, hs, Ext.refl _ _ _ _⟩
      · cases h
    · cases h
  · cases h
end Go.Ev
/- strings.Join on a slice that lies in memory. -/
namespace Go.Ev
open Go.Proofs Go.Shelf Go.RowKit
def joinH (args : List AV) (H : Heap) : Option AV :=
  match args with
  | [.sl b ver off len _, .v (.string sep)] =>
    match H.get b with
    | some (.cells v _ _ _ _ cs) =>
      if v = ver then
        match strsOf ((cs.drop off).take len) with
        | some l => if l.length = len ∧ l.length ≤ 100000 ∧ (Lib.join (l.map (·.data.toList)) sep.data.toList).length ≤ 100000 then some (.v (.string ⟨(Lib.join (l.map (·.data.toList)) sep.data.toList).toArray⟩)) else none
        | none => none
      else none
    | _ => none
  | _ => none
theorem exh_join {P : Program} {ρn : Ren} (L : Lays.n156 P ρn) (X : Builder.Extra P ρn) {f : FuncId} (hf : ρn.f 156 = f) (hbody : HasBody P f)
    {args : List AV} {v : AV} {H : Heap} (h : joinH args H = some v) (Z : Fzn) (ρ : Pls) (w : World) (vals : List Value) (hs : Sim Z ρ H w) (hl : RepL Z ρ args vals) : FnMeets P f vals w (After Z ρ H w v H) := by
  subst hf
  unfold joinH at h
  split at h
  · rename_i b ver off len cap sep
    obtain ⟨v1, ws, rfl, hv1, hl⟩ := hl.uncons
    obtain ⟨v2, ws, rfl, hv2, hl⟩ := hl.uncons
    have : ws = [] := List.length_eq_zero_iff.1 hl.1.symm
    subst this
    obtain ⟨rfl, -⟩ := hv2.v_inv
    split at h
    · rename_i vr m t sz g cs hg
      split at h
      · rename_i hver
        subst hver
        split at h
        · rename_i l hstr
          split at h
          · rename_i hc
            simp only [Option.some.injEq] at h
            subst h
            have hxs := strsOf_some hstr
            refine Or.inr ⟨hbody.run _ _, ?_⟩
            cases hv1 with
            | sl hp hcap hcn hle =>
              rename_i c pl
              obtain ⟨pl', obj, q1, q2, q3, q4⟩ := hs.objs b _ hg rfl
              simp only [AObj.ver] at q1
              rw [hp] at q1; cases q1
              cases obj <;> simp only [RepO] at q3
              rename_i arr e fz
              obtain ⟨rfl, q5, q6, q7, pre, us, post, q8, q9, q10, q11, q12⟩ := q3
              have hblk := (Array.getElem?_eq_some_iff.1 q2).1
              have hget : ∀ (j : Nat) (x : ByteArray), l[j]? = some x → w.cell? ⟨pl.blk, pl.base + off + j, none⟩ = some (.string x) := by
                intro j x hj
                have hjl := (List.getElem?_eq_some_iff.1 hj).1
                have h1 : ((cs.drop off).take len)[j]? = some (.v (.string x)) := by rw [hxs, List.getElem?_map, hj]; rfl
                have h2 : cs[off + j]? = some (.v (.string x)) := by
                  rw [List.getElem?_take, if_pos (by omega), List.getElem?_drop] at h1; exact h1
                obtain ⟨y, h3, h4⟩ := q12.get h2
                obtain ⟨rfl, -⟩ := h4.v_inv
                have := cell_at q2 q8 h3
                rw [q9] at this
                rw [Nat.add_assoc]; exact this
              have hcall := Any.strings_Join L X pl.blk (pl.base + off) c l sep w hget hblk (by have := hc.2.1; omega) (by omega) (by have := hc.2.2; omega)
              rw [hc.1] at hcall
              refine Calls.mono' hcall ?_
              rintro e w' ⟨rfl, hb⟩
              exact ⟨_, rfl, Z, ρ, .v rfl, hs.below hb, Ext.below hb⟩
          · cases h
        · cases h
      · cases h
    · cases h
  · cases h
theorem extOK_exh {C C' : Cfg} (hP : C'.P = C.P) {f : FuncId} {g : List AV → Heap → Option AV} (hg : ∀ args v H, g args H = some v → ∀ (Z : Fzn) (ρ : Pls) (w : World) (vals : List Value), Sim Z ρ H w → RepL Z ρ args vals → FnMeets C.P f vals w (After Z ρ H w v H))
    (hext : ExtOK C) (he : C'.ext = C.ext := by rfl) (hlay : C'.lay = C.lay := by rfl) (hexh : C'.exh = fun f' => if Nat.beq f' f then some g else C.exh f') : ExtOK C' := by
  refine ⟨fun f' g' hf' => by rw [hP]; rw [he] at hf'; exact hext.ext f' g' hf', fun f' g' hf' => by rw [hP]; rw [hlay] at hf'; exact hext.lay f' g' hf', fun f' g' hf' args v H hv Z ρ w vals hs hl => ?_⟩
  rw [hP]
  rw [hexh] at hf'
  simp only at hf'
  split at hf'
  · rename_i hb
    have := Nat.eq_of_beq_eq_true hb
    subst this
    simp only [Option.some.injEq] at hf'
    subst hf'
    exact hg args v H hv Z ρ w vals hs hl
  · exact hext.exh f' g' hf' args v H hv Z ρ w vals hs hl
end Go.Ev
/-
  DERIVED: THE SHELF's CONTRACTS AT THIS DUMP, IN PLAIN WORDS (tools/lay-plain.mjs out of 'TryzShelf.lean', which tools/lay-shelf.mjs wrote): THE SAME DECLARATIONS UNDER THE SAME NAMES: 'import', 'namespace', 'open', 'def', 'theorem' AND NOTHING ELSE: no command of the shelf's: FOR A HAND-IN. Each laying: the table of numbers ('.._ren') and one theorem, a field a fact of the dump's own or the kernel's comparison; each contract: ONE APPLICATION.
-/
namespace Go.Proofs
open Go.Shelf
def Tryz.lays156_ren : Go.Shelf.Ren := ⟨fun | 156 => 94 | 165 => 143 | 166 => 144 | 169 => 145 | 240 => 198 | 241 => 199 | 276 => 247 | 277 => 248 | n => n, fun | 31 => 94 | 9 => 9 | 3 => 3 | 4 => 4 | 0 => 0 | 20 => 20 | 72 => 265 | 76 => 269 | 70 => 262 | 37 => 263 | 75 => 268 | 127 => 327 | 164 => 375 | 5 => 5 | 80 => 271 | n => n, fun | n => n⟩
theorem Tryz.lays156 : Go.Proofs.Lays.n156 Tryz.prog Tryz.lays156_ren := {
  mixed := by kernel_rfl
  f156 := Tryz.func94.trans (congrArg some (by kernel_rfl))
  f165 := Tryz.func143.trans (congrArg some (by kernel_rfl))
  f166 := Tryz.func144.trans (congrArg some (by kernel_rfl))
  f169 := Tryz.func145.trans (congrArg some (by kernel_rfl))
  f240 := Tryz.func198.trans (congrArg some (by kernel_rfl))
  f241 := Tryz.func199.trans (congrArg some (by kernel_rfl))
  f276 := Tryz.func247.trans (congrArg some (by kernel_rfl))
  f277 := Tryz.func248.trans (congrArg some (by kernel_rfl))
  t0 := Tryz.underlying0
  a0 := Tryz.isAgg0
  z0 := Tryz.sizeOf0
  v0 := Tryz.zeroValue0
  t3 := Tryz.underlying3
  a3 := Tryz.isAgg3
  z3 := Tryz.sizeOf3
  v3 := Tryz.zeroValue3
  t4 := Tryz.underlying4
  a4 := Tryz.isAgg4
  z4 := Tryz.sizeOf4
  v4 := Tryz.zeroValue4
  t9 := Tryz.underlying9
  a9 := Tryz.isAgg9
  z9 := Tryz.sizeOf9
  v9 := Tryz.zeroValue9
  t20 := Tryz.underlying20
  a20 := Tryz.isAgg20
  z20 := Tryz.sizeOf20
  v20 := Tryz.zeroValue20
  t31 := Tryz.underlying94
  a31 := Tryz.isAgg94
  z31 := Tryz.sizeOf94
  v31 := Tryz.zeroValue94
  t37 := Tryz.underlying263
  a37 := Tryz.isAgg263
  z37 := Tryz.sizeOf263
  v37 := Tryz.zeroValue263
  t70 := Tryz.underlying262
  a70 := Tryz.isAgg262
  z70 := Tryz.sizeOf262
  v70 := Tryz.zeroValue262
  t72 := Tryz.underlying265
  a72 := Tryz.isAgg265
  z72 := Tryz.sizeOf265
  v72 := Tryz.zeroValue265
  t75 := Tryz.underlying268
  a75 := Tryz.isAgg268
  z75 := Tryz.sizeOf268
  v75 := Tryz.zeroValue268
  t76 := Tryz.underlying269
  a76 := Tryz.isAgg269
  z76 := Tryz.sizeOf269
  v76 := Tryz.zeroValue269
  t127 := Tryz.underlying327
  a127 := Tryz.isAgg327
  z127 := Tryz.sizeOf327
  v127 := Tryz.zeroValue327
  t164 := Tryz.underlying375
  a164 := Tryz.isAgg375
  z164 := Tryz.sizeOf375
  v164 := Tryz.zeroValue375 }
theorem Tryz.Builder_Extra_156 : Builder.Extra Tryz.prog Tryz.lays156_ren := {
  sizeBuilder := by kernel_rfl
  liesBuilder := by kernel_rfl
  t5 := Tryz.underlying5
  a5 := Tryz.isAgg5
  z5 := Tryz.sizeOf5
  v5 := Tryz.zeroValue5
  infoByte := by kernel_rfl
  cellsByte := by kernel_rfl
  sizeByte := by kernel_rfl
  neB5 := by decide }
open Go.RowKit in
/-- No element: the empty string; the world is as it was. (Whatever the slice's address and capacity: a nil slice too.) (LAID: no walk: one application.) -/
theorem Tryz.strings_Join_none (a : Option Addr) (c : Nat) (sep : ByteArray) (w : World) :
    Calls Tryz.prog 94 #[.slice a 0 c, .string sep] w fun e w' => e = .returned (.string ⟨#[]⟩) ∧ w' = w := Any.strings_Join_none Tryz.lays156 Tryz.Builder_Extra_156 a c sep w
open Go.RowKit in
/-- strings.Join: "Join concatenates the elements of its first argument to create a single string. The separator string sep is placed between elements in the resulting string.": HOWEVER MANY ELEMENTS. Below the heap's end the world is as it was. (LAID: no walk: one application.) -/
theorem Tryz.strings_Join (bk o c : Nat) (xs : List ByteArray) (sep : ByteArray) (w : World) (hcells : ∀ (j : Nat) x, xs[j]? = some x → w.cell? ⟨bk, o + j, none⟩ = some (.string x)) (hbk : bk < w.heap.size) (hN : xs.length ≤ 140737488355328) (hcap : xs.length ≤ c) (hlen : (Lib.join (xs.map (·.data.toList)) sep.data.toList).length ≤ 140737488355328) :
    Calls Tryz.prog 94 #[.slice (some ⟨bk, o, none⟩) xs.length c, .string sep] w fun e w' => e = .returned (.string ⟨(Lib.join (xs.map (·.data.toList)) sep.data.toList).toArray⟩) ∧ Below w.heap.size w w' := Any.strings_Join Tryz.lays156 Tryz.Builder_Extra_156 bk o c xs sep w hcells hbk hN hcap hlen
end Go.Proofs
/- The configuration over this seat's program, for closed evaluations. Made by program. -/
namespace Go.Ev
open Go.Proofs
set_option maxRecDepth 1000000
def impF : List Nat := [21, 42, 57, 59, 71, 72, 87, 93, 105, 106, 116, 118, 122, 128, 129, 130, 131, 132, 133, 134, 135, 156, 157, 161, 162, 176, 180, 181, 184, 187, 190, 191, 192, 193, 194, 195, 198, 213, 214, 219, 228, 239, 240, 241, 245, 246, 255, 256, 258, 259, 261, 262, 269, 283, 284, 285, 286, 287, 288, 289, 290, 296, 297, 298, 299, 300, 301, 302, 303, 311, 312, 313, 317, 318, 319, 324, 325]
def impC : List (Nat × Nat × Nat) := [(84, 119, 7), (127, 189, 19), (244, 154, 8), (34, 36, 23), (3, 6, 107), (3, 6, 108), (3, 6, 109), (3, 6, 110)]
def altF : List Nat := [6]
def altC : List (Nat × Nat) := []
def nearF : List Nat := []
def nearC : List (Nat × Nat) := []
def keepF : Nat → List Nat
  | 2 => []
  | 3 => [40, 2, 4, 3, 5, 1, 6, 90, 93, 92, 94, 91, 7, 8, 105, 9, 10, 11, 12, 13, 15, 17, 19, 21, 23, 25, 29, 33, 36, 0]
  | 4 => [2, 1, 31, 4, 3, 6, 5, 9, 7, 8, 11, 10, 15, 12, 13, 14, 137, 16, 158, 18, 17, 0]
  | 5 => [0, 1, 5, 12, 2, 4, 3]
  | 6 => [0]
  | 7 => [0, 1, 2, 3, 7, 15, 4, 6, 5]
  | 8 => [0, 1, 4]
  | 9 => [0, 1, 2, 6]
  | 10 => [0, 1, 2, 6]
  | 11 => [0, 1, 2, 3, 19, 5, 24, 55, 4]
  | 12 => [0, 1, 2, 7, 15, 4, 3, 8, 23, 6, 5]
  | 13 => [0, 1, 2, 6, 14, 3, 8, 26, 9, 7, 4, 5]
  | 14 => [0, 1, 2, 3, 7, 15, 6, 4, 5]
  | 15 => [0, 1, 2, 3, 4, 11, 23, 6, 7, 8, 9, 5, 13, 33, 36, 37, 38, 15, 43, 14]
  | 16 => [0, 1, 9, 2, 3, 11, 12, 13, 6, 19, 4]
  | 17 => [0]
  | 18 => [0]
  | 19 => [0, 1, 2, 3, 4, 5, 6]
  | 20 => [0, 1, 10, 5, 14, 25, 4]
  | 21 => [0, 4, 1, 12, 6, 30, 5, 7, 3, 2]
  | 22 => [0, 1, 10, 5, 14, 25, 4]
  | 23 => [0, 2, 6, 5, 1, 4]
  | 24 => [0, 1, 5, 13, 2, 25, 4, 6, 3]
  | 25 => [0, 1, 15, 14, 16, 13, 3, 6, 5, 35, 7, 8, 71, 9, 2]
  | 26 => [0, 1, 2, 7, 15, 4, 3, 28, 6, 8, 5]
  | 27 => [0, 1, 10, 5, 14, 25, 4]
  | 28 => [0, 1, 2, 3, 7, 15, 16, 18, 4]
  | 29 => [0, 1, 4, 2]
  | 30 => [0, 1, 2, 3, 4, 5, 10, 20, 6, 9, 7]
  | 31 => [0, 1, 2, 3, 4, 5, 10, 22, 8, 9, 11, 12, 6, 7]
  | 32 => [0, 1, 16, 15, 17, 14, 2, 22, 21, 23, 20, 3, 11, 9, 7, 12, 6]
  | 33 => [0, 1, 2, 7, 14, 4, 3, 19, 6, 5]
  | 34 => [0, 1, 2, 14, 13, 15, 12, 5, 7, 3, 23, 24, 25, 9, 4]
  | 35 => [0, 1, 2, 7, 14, 6, 3, 19, 4, 5]
  | 36 => [0, 1, 2]
  | 37 => [0, 1, 12, 16, 15, 17, 14, 3, 6, 26, 30, 29, 31, 28, 4, 8, 40, 2]
  | 38 => [0, 1, 2, 3, 7, 15, 6, 4, 5]
  | 39 => [0, 1, 10, 5, 14, 25, 4]
  | 40 => [0, 1, 4, 13, 5, 21, 6, 27, 2, 3]
  | 41 => [0, 1, 2, 3, 6, 11, 4, 5]
  | 42 => [0, 5, 1, 4]
  | 43 => [0, 1, 2]
  | 44 => [0, 1, 8, 7, 9, 3, 4, 2]
  | 45 => [0, 1, 2, 3, 4]
  | 46 => [0, 1, 2, 3, 4, 5, 10, 20, 8, 9, 6, 7]
  | 47 => [0, 10, 9, 11, 8, 1, 7, 16, 5, 4]
  | 48 => [0, 1, 2, 3]
  | 49 => [1, 0, 3, 4]
  | 50 => [0, 1, 2, 3, 7, 14, 8, 25, 4, 5, 6]
  | 51 => [0, 1, 2, 3, 4, 6, 8, 17, 7, 25, 5, 9, 38]
  | 52 => [0, 4, 2]
  | 53 => [0, 1, 8, 7, 9, 3, 4, 2]
  | 54 => [0, 10, 9, 11, 8, 1, 6, 17, 5, 7, 4]
  | 55 => [1, 0, 2, 4]
  | 56 => [0, 1, 2, 3, 4, 5, 10, 20, 6, 8, 9, 7]
  | 57 => [0, 4, 1]
  | 58 => [0, 1, 2, 3, 4]
  | 59 => [0, 8, 3, 13, 25, 5, 4, 32, 44, 2]
  | 60 => [0, 1, 2, 3, 13, 12, 14, 11, 5, 7, 4]
  | 61 => [0, 1, 6, 2, 3]
  | 62 => [0, 1, 3, 2, 4]
  | 63 => [0, 1, 3, 2, 13, 5, 27, 4]
  | 64 => [1, 12, 11, 13, 10, 4, 20, 19, 21, 18, 6, 28, 27, 29, 26, 0, 3, 5, 7, 8, 45]
  | 65 => [0, 1, 5, 6, 3, 21, 20, 22, 19, 8, 37, 36, 38, 35, 2, 10, 4]
  | 66 => [0, 1, 2, 3, 6, 4]
  | 67 => [0, 1, 5, 2]
  | 68 => [0, 2, 7, 17, 1, 21, 24, 23, 25, 22, 6, 10, 31, 8, 4, 5]
  | 69 => [0, 1, 2, 5, 9, 3, 4]
  | 70 => [0, 1, 2, 3, 13, 12, 14, 11, 7, 20, 19, 21, 5, 8, 4]
  | 71 => [0, 2]
  | 72 => [0, 1]
  | 73 => [1, 7, 6, 8, 5, 0, 4, 14]
  | 74 => [0, 1, 3, 4, 7, 2, 9, 6]
  | 75 => [0, 8, 7, 9, 6, 5, 3, 14, 2]
  | 76 => [0, 1, 4]
  | 77 => [0, 1, 2, 3, 4, 10, 19, 6, 5, 24, 9, 11, 31, 7, 8]
  | 78 => [1, 0, 8, 7, 9, 3, 5, 16, 4]
  | 79 => [0, 2, 5, 11, 1, 15, 14, 16, 13, 7, 22, 4]
  | 80 => [0, 1, 11, 10, 12, 5, 6, 21, 36, 2, 3, 4]
  | 81 => [0, 1, 2, 6, 17, 4, 3, 25, 24, 26, 23, 9, 33, 32, 34, 31, 11, 40, 39, 41, 38, 7, 8, 10, 12, 13, 73, 5]
  | 82 => [0, 11, 10, 12, 9, 3, 5, 20, 27, 26, 28, 25, 6, 8, 2]
  | 83 => [0, 1, 10, 14, 13, 15, 12, 5, 7, 2, 27, 4]
  | 84 => [0, 1, 2, 5, 4]
  | 85 => [0, 2, 1, 5, 12, 4, 6]
  | 86 => [0, 1, 2, 3, 4, 10, 19, 6, 5, 29, 9, 11, 7, 8]
  | 87 => [2, 1, 12, 25, 0, 4, 3, 32, 10, 39, 14, 56, 13, 11, 75, 80, 97, 15, 17, 16, 18, 19, 125, 20]
  | 88 => [0, 2]
  | 89 => [0, 1, 5, 11, 6, 12, 13, 16, 19, 4]
  | 90 => [0, 1, 2, 3]
  | 91 => [0, 1, 11, 15, 14, 16, 13, 4, 3, 38, 2]
  | 92 => [1, 0, 4]
  | 93 => [1, 0]
  | 94 => [0, 12, 13, 15, 1, 22, 29, 5, 41, 40, 42, 39, 7, 49, 8, 65, 64, 66, 63, 10, 4]
  | 95 => [0, 1, 5, 2]
  | 96 => [0, 2]
  | 97 => [0, 1, 2, 3, 18, 19, 17, 6, 8, 5, 4]
  | 98 => [0, 1, 2]
  | 99 => [0, 1, 3, 2, 30, 35, 36, 37, 5, 7, 4]
  | 100 => [0, 1, 9, 8, 10, 7, 5, 15, 3, 2]
  | 101 => [0, 2]
  | 102 => [0, 1, 4, 2]
  | 103 => [0, 1, 2, 10, 9, 11, 5, 3, 6, 4]
  | 104 => [0, 2, 1, 5, 4]
  | 105 => [0, 1, 6, 7, 2, 5, 4]
  | 106 => [6, 8, 1, 13, 0, 7, 2, 30, 35, 9, 54]
  | 107 => [0, 1, 2, 3, 4, 8, 16, 6, 5, 10, 26, 7]
  | 108 => [0, 1, 2, 3, 8, 4]
  | 109 => [0, 1, 4]
  | 110 => [0, 1, 2]
  | 111 => [1, 0, 3, 4]
  | 112 => [1, 0, 2, 4]
  | 113 => [0, 1, 3, 16, 2, 4]
  | 114 => [0, 1, 2, 3, 4]
  | 115 => [0, 2]
  | 116 => [1, 6, 0, 16, 4]
  | 117 => [0, 1, 3, 2, 4]
  | 118 => [0, 5, 1, 4]
  | 119 => [0, 1, 2]
  | 120 => [0, 1, 2, 3, 4]
  | 121 => [0, 1, 5, 11, 6, 12, 13, 16, 19, 4]
  | 122 => [0, 11, 10, 12, 9, 3, 5, 20, 21, 22, 7, 31, 2]
  | 123 => [0, 10, 9, 11, 8, 1, 6, 17, 5, 7, 4]
  | 124 => [1, 2, 0, 4]
  | 125 => [0, 2, 1, 9, 10, 6, 5, 14, 4]
  | 126 => [0, 1, 2, 5, 10, 11, 6, 14, 4]
  | 127 => [0, 1, 2, 7, 16, 4, 5, 6, 19, 20, 21, 9, 3, 24, 8]
  | 128 => [1, 8, 2, 14, 9, 3, 0, 34]
  | 129 => [1, 2, 10, 11, 21, 0, 8, 3, 12, 33, 9]
  | 130 => [2, 1, 8, 17, 11, 35, 9, 10, 12, 45, 0]
  | 131 => [2, 1, 10, 34, 36, 0, 12, 3, 11, 13, 14, 55, 57, 60, 8, 9]
  | 132 => [1, 2, 8, 9, 15, 0]
  | 133 => [1, 10, 16, 9, 2, 3, 0, 36, 41, 45, 65, 11, 69, 84, 104, 12, 109, 124, 8]
  | 134 => [0, 1, 3, 2, 11, 12, 4, 47, 65, 70, 10]
  | 135 => [0, 1, 3, 2, 12, 13, 4, 47, 66, 71, 120, 139, 144, 10, 11]
  | 136 => [0, 4, 8, 2]
  | 137 => [0, 4, 8, 2, 14]
  | 138 => [0, 2]
  | 139 => [0, 1, 9, 8, 10, 7, 6, 2, 22, 4]
  | 140 => [0, 2]
  | 141 => [1, 0, 3, 4]
  | 142 => [0, 12, 15, 14, 16, 4, 25, 31, 30, 32, 29, 6, 37, 3, 2]
  | 143 => [0, 1, 7, 21]
  | 144 => [0, 1, 4, 5]
  | 145 => [0, 2]
  | 146 => [0, 2]
  | 147 => [0, 8, 7, 9, 1, 5, 16, 4]
  | 148 => [0, 2, 1, 3]
  | 149 => [0]
  | 150 => [0, 1, 9, 8, 10, 7, 6, 2, 22, 4]
  | 151 => [0, 1, 12, 11, 13, 10, 2, 7, 8, 5, 42, 4]
  | 152 => [3, 0, 9, 4, 5, 38, 2]
  | 153 => [0, 1, 2, 15, 14, 16, 13, 5, 7, 29, 30, 31, 8, 10, 9, 3, 4]
  | 154 => [0, 1, 2]
  | 155 => [0, 2]
  | 156 => [0, 8, 3, 13, 25, 5, 4, 32, 44, 2]
  | 157 => [0, 5, 1, 4]
  | 158 => [0, 1, 2, 3, 4]
  | 159 => [0, 1, 4, 3, 2, 21, 20, 22, 19, 9, 28, 27, 29, 26, 7, 11, 8, 10, 6]
  | 160 => [0, 2, 1, 5, 4]
  | 161 => [1, 8, 2, 14, 9, 3, 0, 34]
  | 162 => [2, 1, 28, 3, 10, 11, 33, 4, 0, 12, 50, 13, 58, 80, 14, 15, 85, 16, 103, 17, 110, 18, 140, 19, 20, 21, 151, 22, 23, 171, 24, 185, 199, 213]
  | 163 => [0, 2, 1, 5, 15, 19, 18, 20, 17, 7, 10, 31, 4]
  | 164 => [0, 1, 2, 3, 7, 15, 4, 6, 5]
  | 166 => [0, 2]
  | 167 => [0, 1, 9, 8, 10, 7, 6, 2, 22, 4]
  | 168 => [1, 0, 8, 7, 9, 3, 5, 16, 4]
  | 169 => [0, 1, 2, 4]
  | 170 => [0, 1, 4]
  | 171 => [0, 1, 2, 3]
  | 172 => [0, 1, 8, 9, 7, 6, 2, 3, 22, 4]
  | 173 => [0, 1, 2, 3, 4]
  | 174 => [0, 1, 2]
  | 175 => [0, 1, 2]
  | 176 => [0, 1, 4]
  | 177 => [0, 1, 2]
  | 178 => [0, 1, 2]
  | 179 => [0]
  | 180 => [0, 2]
  | 181 => [0, 4, 1]
  | 182 => [1, 7, 6, 8, 5, 0, 4, 14]
  | 183 => [0, 2]
  | 184 => [0, 1, 2]
  | 185 => [0, 1, 2, 3, 4]
  | 186 => [0, 1, 2, 3, 4]
  | 187 => [0, 1, 4, 16, 3, 2]
  | 188 => [0, 2, 14, 13, 15, 12, 1, 7, 9, 8, 42, 4, 5]
  | 189 => [0, 1, 2]
  | 190 => [1, 10, 11, 2, 18, 4, 0, 3, 40, 58]
  | 191 => [0, 2]
  | 192 => [0, 2]
  | 193 => [0, 1, 2, 3, 8]
  | 194 => [0, 1, 2, 4, 5, 3, 12]
  | 195 => [0, 1, 4]
  | 196 => [0, 2, 1, 3]
  | 197 => [0, 9, 12, 11, 13, 3, 24, 2]
  | 198 => [0, 6, 19]
  | 199 => [0, 1, 4]
  | 200 => [1, 11, 0, 17, 23, 6, 7, 5, 34, 9, 4]
  | 201 => [0, 1, 2, 4]
  | 202 => [0, 1, 5, 2]
  | 203 => [0, 1, 2, 7, 4]
  | 204 => [0, 1, 4]
  | 205 => [0, 1, 3, 4]
  | 206 => [0, 4, 2]
  | 207 => [0, 1, 3, 4]
  | 208 => [0, 1, 3, 4]
  | 209 => [0]
  | 210 => [0, 1, 15, 14, 16, 13, 6, 8, 9, 5, 4]
  | 211 => [1, 0, 11, 10, 12, 9, 7, 8, 3, 24, 5, 4]
  | 212 => [1, 10, 9, 11, 8, 4, 18, 17, 19, 0, 3, 5, 31]
  | 213 => [0, 4, 2]
  | 214 => [0, 4, 1]
  | 215 => [0]
  | 216 => [1, 0, 8, 9, 6, 3, 7, 5, 17, 4]
  | 217 => [0, 1, 3, 2, 4]
  | 218 => [0, 1, 3, 4, 10, 2, 5]
  | 219 => [2, 1, 3, 10, 11, 20, 23, 0, 4]
  | 220 => [0, 1, 2, 12, 11, 13, 10, 7, 3, 28, 4, 5]
  | 221 => [0, 2, 1, 4]
  | 222 => [0]
  | 223 => [0, 2]
  | 224 => [0, 1, 4]
  | 225 => [0, 1, 3]
  | 226 => [0, 8, 7, 9, 1, 5, 16, 4]
  | 227 => [0]
  | 228 => [0, 8, 7, 9, 1, 5, 16, 4]
  | 229 => [0, 1, 3, 4]
  | 230 => [0, 2, 3, 1, 6]
  | 231 => [0, 1, 3, 2, 4]
  | 232 => [0, 1, 2, 3, 4]
  | 233 => [0, 2, 3, 1, 5, 6]
  | 234 => [0, 1, 2, 3, 4]
  | 235 => [0, 1, 2, 3, 4]
  | 236 => [0, 2, 3, 5, 6]
  | 237 => [0, 1, 3, 4]
  | 238 => [0, 2, 6]
  | 239 => [0, 1, 6, 7, 2, 5, 4]
  | 240 => [2, 1, 12, 25, 0, 4, 3, 32, 10, 39, 14, 56, 13, 11, 75, 80, 97, 15, 17, 16, 18, 19, 125, 20]
  | 241 => [1, 3, 8, 0, 18]
  | 242 => [1, 11, 10, 12, 9, 6, 4, 2, 0, 37]
  | 243 => [0, 1, 4, 5]
  | 244 => [0, 1, 8, 9, 10, 4, 13, 12, 14, 11, 5, 3, 2, 6, 24]
  | 245 => [4, 0, 2, 1, 22, 3, 10, 11]
  | 246 => [0, 8, 7, 9, 1, 5, 16, 4]
  | 249 => [0, 4, 2]
  | 250 => [0, 3, 2]
  | 251 => [0, 4, 20, 1, 5, 7, 6, 9, 8, 11, 10, 99, 12, 13, 15, 14, 139, 16, 161]
  | 252 => [2, 28, 3, 30, 1, 34, 15, 46, 13, 16, 12, 14, 17, 68, 18, 89, 4, 94, 0, 10, 11]
  | 253 => [0, 8, 7, 9, 6, 3, 5, 2]
  | 254 => [1, 3, 0, 4]
  | 255 => [0, 2, 4]
  | 256 => [0, 2, 1, 4]
  | 257 => [1, 0, 3, 4]
  | 258 => [0, 2, 1, 4]
  | 259 => [0, 2, 1, 4]
  | 260 => [1, 3, 0, 4]
  | 261 => [0, 2, 1, 4]
  | 262 => [2, 1, 12, 25, 0, 4, 3, 32, 10, 39, 14, 56, 13, 11, 75, 80, 97, 15, 17, 16, 18, 19, 125, 20]
  | 263 => [0, 1, 2, 3, 4]
  | 264 => [0, 1, 2, 3, 4]
  | 265 => [0, 1, 2, 3, 9, 4]
  | 266 => [0, 1, 2]
  | 267 => [1, 10, 9, 11, 4, 2, 5, 28, 27, 29, 7, 32, 6, 46, 0, 53]
  | 268 => [0, 6, 1, 4]
  | 269 => [10, 3, 13, 0, 1, 2]
  | 270 => [0, 1, 12, 21, 6, 34, 5, 4]
  | 271 => [0, 8, 7, 9, 1, 5, 16, 4]
  | 272 => [0, 1, 2]
  | 273 => [0, 1, 2, 4]
  | 274 => [0, 1, 2]
  | 275 => [0, 1, 2, 3, 4]
  | 276 => [0, 1, 2]
  | 277 => [0, 1, 3, 2, 4]
  | 278 => [0, 1, 2]
  | 279 => [0, 1, 4]
  | 280 => [0]
  | 281 => [0, 1, 2]
  | 282 => [0, 1, 3, 4]
  | 283 => [1, 8, 2, 14, 9, 3, 0, 34]
  | 284 => [1, 2, 10, 11, 21, 0, 8, 3, 12, 33, 9]
  | 285 => [2, 1, 8, 17, 11, 35, 9, 10, 12, 45, 0]
  | 286 => [2, 1, 10, 34, 36, 0, 12, 3, 11, 13, 14, 55, 57, 60, 8, 9]
  | 287 => [1, 2, 8, 9, 15, 0]
  | 288 => [1, 10, 16, 9, 2, 3, 0, 36, 41, 45, 65, 11, 69, 84, 104, 12, 109, 124, 8]
  | 289 => [0, 1, 3, 2, 11, 12, 4, 47, 65, 70, 10]
  | 290 => [0, 1, 3, 2, 12, 13, 4, 47, 66, 71, 120, 139, 144, 10, 11]
  | 291 => [0, 1, 9, 4, 5]
  | 292 => [0, 2]
  | 293 => [0, 3, 2]
  | 294 => [0, 2]
  | 295 => [0, 2]
  | 296 => [1, 8, 2, 14, 9, 3, 0, 34]
  | 297 => [1, 2, 10, 11, 21, 0, 8, 3, 12, 33, 9]
  | 298 => [2, 1, 8, 17, 11, 35, 9, 10, 12, 45, 0]
  | 299 => [2, 1, 10, 34, 36, 0, 12, 3, 11, 13, 14, 55, 57, 60, 8, 9]
  | 300 => [1, 2, 8, 9, 15, 0]
  | 301 => [1, 10, 16, 9, 2, 3, 0, 36, 41, 45, 65, 11, 69, 84, 104, 12, 109, 124, 8]
  | 302 => [0, 1, 3, 2, 11, 12, 4, 47, 65, 70, 10]
  | 303 => [0, 1, 3, 2, 12, 13, 4, 47, 66, 71, 120, 139, 144, 10, 11]
  | 304 => [0, 1, 13, 4]
  | 305 => [0, 1, 16, 4]
  | 306 => [4, 0, 9, 5, 16, 2, 3]
  | 307 => [0, 7, 1, 12, 4]
  | 308 => [0, 7, 1, 15, 4]
  | 309 => [0, 9, 1, 5, 18, 6, 4]
  | 310 => [0, 9, 5, 17, 1, 26, 6, 4]
  | 311 => [1, 10, 11, 2, 18, 4, 0, 3, 40, 58]
  | 312 => [0, 1, 2, 3, 8]
  | 313 => [0, 1, 2, 4, 5, 3, 12]
  | 314 => [0, 1, 4]
  | 315 => [0, 4, 2]
  | 316 => [0, 4, 2]
  | 317 => [1, 10, 11, 2, 18, 4, 0, 3, 40, 58]
  | 318 => [0, 1, 2, 3, 8]
  | 319 => [0, 1, 2, 4, 5, 3, 12]
  | 320 => [0, 1, 4]
  | 321 => [0, 10, 2, 3]
  | 322 => [0, 1, 4]
  | 323 => [0, 4, 10, 5, 2, 18, 6, 27, 33, 35, 3, 48]
  | 324 => [4, 0, 2, 1, 22, 3, 10, 11]
  | 325 => [4, 0, 2, 1, 22, 3, 10, 11]
  | 326 => [0, 4, 16, 5, 6, 23, 7, 8, 45, 10, 9, 57, 59, 11, 75, 77, 12, 98, 2, 3]
  | 327 => [1, 160, 0, 171, 175, 177, 176, 6, 181, 5, 183, 7, 8, 9, 26, 33, 11, 43, 12, 51, 64, 10, 98, 13, 108, 124, 14, 15, 139, 16, 143, 156, 4]
  | 328 => [0, 2]
  | 329 => [0, 1, 4]
  | 330 => [0, 3, 10, 2]
  | 331 => [0, 2]
  | 333 => [0, 1, 4]
  | 360 => []
  | _ => []
def isImp (me f : Nat) (d : Option Nat) : Bool := impF.any (Nat.beq f) || impC.any fun t => Nat.beq t.1 me && Nat.beq t.2.1 f && (match d with | some d => Nat.beq t.2.2 d | none => false)
noncomputable def CC : Cfg := { P := Tryz.prog, pure := fun me f d => !(isImp me f d), alter := fun me d => altF.any (Nat.beq me) || (match d with | some d => altC.any fun t => Nat.beq t.1 me && Nat.beq t.2 d | none => false), keep := keepF, ext := fun f' => if Nat.beq f' 94 then some joinStr else if Nat.beq f' 334 then some idxStr else if Nat.beq f' 165 then some cmpStr else none, exh := fun f' => if Nat.beq f' 94 then some joinH else (fun _ => none) f' }
theorem mixedC : CC.P.follows .mixedOrders = true := by show Tryz.prog.follows .mixedOrders = true; kernel_rfl
theorem nogo_allC : (Tryz.prog.funcs.toList.all fun fn => !(fn.body.isSome && (fn.name == "runtime.NumGoroutine"))) = true := by kernel_rfl
theorem nogoC : NoGo CC.P := by
  intro f fn hf hb
  have h := List.all_eq_true.1 nogo_allC fn (by
    have : Tryz.prog.funcs[f]? = some fn := hf
    exact List.mem_of_getElem? (by simpa using this))
  rw [hb] at h
  simpa using h
theorem extOKZ : ExtOK { CC with ext := fun _ => none, exh := fun _ => none } := by
  exact ⟨fun _ _ h => (nomatch h), fun _ _ h => (nomatch h), fun _ _ h => (nomatch h)⟩
theorem extOKJ : ExtOK { CC with ext := fun _ => none, exh := fun f' => if Nat.beq f' 94 then some joinH else (fun _ => none) f' } := by
  refine extOK_exh (C := { CC with ext := fun _ => none, exh := fun _ => none }) (f := 94) (g := joinH) rfl ?_ extOKZ rfl rfl rfl
  intro args v H h Z ρ w vals hs hl
  exact exh_join Go.Proofs.Tryz.lays156 Go.Proofs.Tryz.Builder_Extra_156 (f := 94) rfl ⟨_, Tryz.func94, by kernel_rfl, by kernel_rfl⟩ h Z ρ w vals hs hl
theorem extOKN : ExtOK (CC.more fun _ => none) := extOKJ
theorem extOKE0 : ExtOK (CC.more (fun f' => if Nat.beq f' 165 then some cmpStr else none)) := by
  refine extOK_more (C := CC.more (fun _ => none)) (f := 165) (g := cmpStr) rfl ?_ extOKN rfl
  intro args v h Z ρ H w vals hs hl
  exact ext_cmp (fn := Tryz.f165) Tryz.func165 (by kernel_rfl) (by kernel_rfl) (by kernel_rfl) (by kernel_rfl) h Z ρ H w vals hs hl
theorem extOKE1 : ExtOK (CC.more (fun f' => if Nat.beq f' 334 then some idxStr else if Nat.beq f' 165 then some cmpStr else none)) := by
  refine extOK_more (C := CC.more (fun f' => if Nat.beq f' 165 then some cmpStr else none)) (f := 334) (g := idxStr) rfl ?_ extOKE0 rfl
  intro args v h Z ρ H w vals hs hl
  exact ext_idx (fn := Tryz.f334) Tryz.func334 (by kernel_rfl) (by kernel_rfl) (by kernel_rfl) (by kernel_rfl) h Z ρ H w vals hs hl
theorem extOKE2 : ExtOK (CC.more (fun f' => if Nat.beq f' 94 then some joinStr else if Nat.beq f' 334 then some idxStr else if Nat.beq f' 165 then some cmpStr else none)) := by
  refine extOK_more (C := CC.more (fun f' => if Nat.beq f' 334 then some idxStr else if Nat.beq f' 165 then some cmpStr else none)) (f := 94) (g := joinStr) rfl ?_ extOKE1 rfl
  intro args v h Z ρ H w vals hs hl
  exact ext_join Go.Proofs.Tryz.lays156 Go.Proofs.Tryz.Builder_Extra_156 (f := 94) rfl ⟨_, Tryz.func94, by kernel_rfl, by kernel_rfl⟩ h Z ρ H w vals hs hl
theorem extOKC : ExtOK CC := extOKE2
abbrev Good (t : Tell) : Prop := GoodC CC t
abbrev GoodM (t : TellH) : Prop := GoodH CC t
theorem good {t : Tell} (T : List Tell) (hT : AllG CC T) (TH : List TellH) (hH : AllH CC TH) (h : ansC (evT (CC.more2 (tabExt CC.ext T) (tabExh CC.exh T TH)) 1000 (.call t.f t.K { objs := [], lock := 0 })) = some t.R) (hb : boundL t.K = 0) : Good t :=
  goodC nogoC mixedC extOKC T hT TH hH 1000 h hb
theorem goodm {t : TellH} (T : List Tell) (hT : AllG CC T) (TH : List TellH) (hH : AllH CC TH) (h : ansH t.G.length (evT (CC.more2 (tabExt CC.ext T) (tabExh CC.exh T TH)) 1000 (.call t.f t.K { objs := t.G, lock := t.G.length })) = some t.R) (hb : (Nat.beq (boundL t.K) 0 || t.K.any isYld) = false) : GoodM t :=
  goodH nogoC mixedC extOKC T hT TH hH 1000 h hb
end Go.Ev
/- Values that are met. Made by program. -/
namespace Go.Ev
set_option maxRecDepth 1000000
def q0 : AV := .v (.string ⟨⟨[116,104,101]⟩⟩)
def q1 : AV := .v (.string ⟨⟨[115,101,97]⟩⟩)
def q2 : AV := .v (.string ⟨⟨[105,115]⟩⟩)
def q3 : AV := .v (.string ⟨⟨[111,108,100]⟩⟩)
def q4 : AV := .vs 1 [q0, q1, q2, q3] none
def q5 : AV := .vs 1 [q3, q0, q1] none
def q6 : AV := .vs 1 [q4, q5] none
def q7 : AV := .v (.string ⟨⟨[97,110,100]⟩⟩)
def q8 : AV := .vs 1 [q1, q7, q1] none
def q9 : AV := .vs 1 [q8] none
def q10 : AV := .v (.int .i64 7)
def q11 : AV := .v (.int .i64 3)
def q12 : AV := .vs 2 [.agg [q10, q6], .agg [q11, q9]] none
def q13 : AV := .agg [q12]
def q14 : AV := .v (.int .i64 0)
def q15 : AV := .v (.string ⟨⟨[97,98,99,100,101,102,103,104,105,106,107,108,109,110,111,112,113,114,115,116,117,118,119,120,121,122]⟩⟩)
def q16 : AV := .v (.string ⟨⟨[115]⟩⟩)
def q17 : AV := .v (.string ⟨⟨[]⟩⟩)
def q18 : AV := .v (.int .i64 2)
def q19 : AV := .agg [q16, q17, q18]
def q20 : AV := .v (.string ⟨⟨[108,100]⟩⟩)
def q21 : AV := .v (.string ⟨⟨[108,100,101]⟩⟩)
def q22 : AV := .v (.int .i64 1)
def q23 : AV := .agg [q20, q21, q22]
def q24 : AV := .vs 3 [q19, q23] none
def q25 : AV := .v (.int .u8 1)
def q26 : AV := .agg [q1, q25]
def q27 : AV := .v (.string ⟨⟨[97,103,101]⟩⟩)
def q28 : AV := .v (.int .u8 3)
def q29 : AV := .agg [q27, q28]
def q30 : AV := .v (.string ⟨⟨[115,101,101]⟩⟩)
def q31 : AV := .v (.int .u8 2)
def q32 : AV := .agg [q30, q31]
def q33 : AV := .agg [q22, q25, q1, q14, q14, q14, q1, q25, q14]
def q34 : AV := .agg [q18, q31, q3, q14, q22, q14, q27, q28, q14]
def q35 : AV := .agg [q11, q28, q17, q22, q14, q18, q30, q31, q14]
def q36 : AV := .vs 9 [q33, q34, q35] none
def q37 : AV := .agg [q24, q36]
def q38 : AV := .agg [q14, q14, q14]
def q39 : AV := .agg [q14, q14, q22]
def q40 : AV := .agg [q14, q14, q18]
def q41 : AV := .agg [q14, q14, q11]
def q42 : AV := .agg [q14, q22, q14]
def q43 : AV := .agg [q14, q22, q22]
def q44 : AV := .agg [q14, q22, q18]
def q45 : AV := .agg [q22, q14, q14]
def q46 : AV := .agg [q22, q14, q22]
def q47 : AV := .agg [q22, q14, q18]
def q48 : AV := .vs 3 [q38, q39, q40, q41, q42, q43, q44, q45, q46, q47] none
def q49 : AV := .vs 1 [q0, q1, q2, q3, q3, q0, q1, q1, q7, q1] none
def q50 : AV := .agg [q24, q36, q36, q48, q49]
def q51 : AV := .agg [q14, .v (.int .i64 9999)]
def q52 : AV := .v (.int .i64 5)
def q53 : AV := .vs 1 [q52] (some 1)
def q54 : AV := .agg [q14, q22]
def q55 : AV := .vs 1 [q14] (some 1)
def q56 : AV := .agg [q22, q18]
def q57 : AV := .vs 1 [q22] (some 1)
def q58 : AV := .agg [q22, .v (.int .i64 999)]
def q59 : AV := .agg [q14, q14, q22, q22, q22]
def q60 : AV := .vs 1 [q18] (some 1)
def q61 : AV := .agg [q14, q22, q18, q18, q52]
def q62 : AV := .vs 5 [q59, q61] none
def q63 : AV := .agg [q52, q62]
def q64 : AV := .vs 2 [q63] (some 1)
def q65 : AV := .agg [q52, q62, q12]
def q66 : AV := .tup [q14, q14, .v (.bool false)]
def q67 : AV := .v (.int .i64 6)
def q68 : AV := .tup [q14, q14, q67]
def q69 : AV := .v (.int .i64 14)
def q70 : AV := .agg [q69, q28]
def q71 : AV := .v (.string ⟨⟨[99,111,108,100]⟩⟩)
def q72 : AV := .agg [q14, q14, q11, q28, q71]
def q73 : AV := .agg [q14, q22, q22, q25, q17]
def q74 : AV := .agg [q22, q14, q11]
def q75 : AV := .v (.string ⟨⟨[115,97,108,116]⟩⟩)
def q76 : AV := .agg [q22, q14, q11, q31, q75]
def q77 : AV := .vs 5 [q72, q73, q76] none
def q78 : AV := .v (.int .i64 (-1))
def q79 : AV := .vs 5 [q72] none
def q80 : AV := .vs 1 [q0, q1, q2, q71] none
def q81 : AV := .vs 5 [q73] none
def q82 : AV := .vs 1 [q3, q1] none
def q83 : AV := .vs 5 [q76] none
def q84 : AV := .vs 1 [q1, q7, q1, q75] none
def q85 : AV := .agg [q22, q77]
def q86 : AV := .vs 3 [q41, q43] none
def q87 : AV := .vs 2 [q85] none
def q88 : AV := .tup [q86, q14]
def q89 : AV := .agg [q12, q87, q24, q36, q52, q62, q69, q28]
def q90 : AV := .agg [q69, q28, .vs 1 [q0, q1, q2, q3, q3, q0, q1] none, .vs 3 [q38, q39, q40, q41, q42, q43, q44] none]
def q91 : AV := .agg [q69, q28, q8, .vs 3 [q45, q46, q47] none]
def q92 : AV := .agg [q14, q11, q69]
def q93 : AV := .v (.string ⟨⟨[115,101,97,32,105,115,32,111,108,100]⟩⟩)
def q94 : AV := .agg [q14, q14, q14, q0, q17, q93]
def q95 : AV := .agg [q22, q18, q69]
def q96 : AV := .v (.string ⟨⟨[105,115,32,111,108,100]⟩⟩)
def q97 : AV := .agg [q14, q14, q22, q1, q0, q96]
def q98 : AV := .agg [q18, q22, q69]
def q99 : AV := .v (.string ⟨⟨[111,108,100,32,111,108,100]⟩⟩)
def q100 : AV := .agg [q14, q14, q18, q2, q1, q99]
def q101 : AV := .agg [q11, q14, q69]
def q102 : AV := .v (.string ⟨⟨[111,108,100,32,116,104,101]⟩⟩)
def q103 : AV := .agg [q14, q14, q11, q3, q2, q102]
def q104 : AV := .v (.int .i64 11)
def q105 : AV := .agg [q22, q22, q104]
def q106 : AV := .agg [q14, q18, q104]
def q107 : AV := .v (.int .i64 4)
def q108 : AV := .agg [q14, q22, q14, q3, q96, q0]
def q109 : AV := .agg [q18, q14, q104]
def q110 : AV := .v (.string ⟨⟨[105,115,32,111,108,100,32,111,108,100]⟩⟩)
def q111 : AV := .agg [q14, q22, q22, q0, q110, q17]
def q112 : AV := .agg [q14, q22, q18, q1, q102, q17]
def q113 : AV := .v (.string ⟨⟨[97,110,100,32,115,101,97]⟩⟩)
def q114 : AV := .agg [q22, q14, q14, q1, q17, q113]
def q115 : AV := .agg [q22, q14, q22, q7, q1, q1]
def q116 : AV := .v (.string ⟨⟨[115,101,97,32,97,110,100]⟩⟩)
def q117 : AV := .agg [q22, q14, q18, q1, q116, q17]
def q118 : AV := .vs 6 [q94, q97, q100, q103, q108, q111, q112, q114, q115, q117] none
def q119 : AV := .agg [q12, q87, q24, q36, q52, q62, q69, q28, q86, q118]
def q120 : AV := .tup [q119, q14]
def q121 : AV := .v (.int .u8 0)
def q122 : AV := .agg [q14, q121, q17, q14, q14, q14, q17, q121, q14]
def q123 : AV := .tup [q17, .v (.bool false)]
def q124 : AV := .vs 1 [q0] (some 1)
def q125 : AV := .agg [q0, q121]
def q126 : AV := .tup [q125, q14]
def q127 : AV := .tup [q0, q14]
def q128 : AV := .agg [q14, q14]
def q129 : AV := .agg [q22, q22]
def q130 : AV := .tup [q129, .v (.bool true)]
def q131 : AV := .tup [.agg [q22, q22, q22], q14]
def q132 : AV := .agg [q0, q121, q0, q14, q14, q14, q22, q22, q22, q31]
def q133 : AV := .tup [q26, q14]
def q134 : AV := .tup [q1, q14]
def q135 : AV := .agg [q22, q22, q18]
def q136 : AV := .tup [q135, q14]
def q137 : AV := .agg [q1, q25, q1, q14, q14, q22, q22, q22, q18, q31]
def q138 : AV := .vs 1 [q2] (some 1)
def q139 : AV := .agg [q2, q121]
def q140 : AV := .tup [.agg [q22, q22, q11], q14]
def q141 : AV := .agg [q2, q121, q2, q14, q14, q18, q22, q22, q11, q31]
def q142 : AV := .v (.string ⟨⟨[111,108,100,101]⟩⟩)
def q143 : AV := .tup [q142, .v (.bool true)]
def q144 : AV := .vs 1 [q3, q142] none
def q145 : AV := .agg [q142, q121]
def q146 : AV := .tup [q3, q14]
def q147 : AV := .agg [q22, q22, q107]
def q148 : AV := .tup [q147, q14]
def q149 : AV := .agg [q142, q121, q3, q14, q14, q11, q22, q22, q107, q25]
def q150 : AV := .tup [.agg [q18, q52], .v (.bool true)]
def q151 : AV := .tup [.agg [q18, q52, q22], q14]
def q152 : AV := .agg [q27, q28, q3, q14, q22, q14, q18, q52, q22, q31]
def q153 : AV := .tup [.agg [q18, q52, q18], q14]
def q154 : AV := .agg [q0, q121, q0, q14, q22, q22, q18, q52, q18, q25]
def q155 : AV := .agg [q18, q52, q11]
def q156 : AV := .tup [q155, q14]
def q157 : AV := .agg [q1, q25, q1, q14, q22, q18, q18, q52, q11, q31]
def q158 : AV := .tup [q128, .v (.bool false)]
def q159 : AV := .tup [q38, q67]
def q160 : AV := .agg [q1, q25, q1, q22, q14, q14, q14, q14, q14, q31]
def q161 : AV := .v (.int .i64 8)
def q162 : AV := .vs 1 [q7] (some 1)
def q163 : AV := .agg [q7, q121]
def q164 : AV := .agg [q7, q121, q7, q22, q14, q22, q14, q14, q14, q31]
def q165 : AV := .v (.int .i64 9)
def q166 : AV := .tup [q32, q14]
def q167 : AV := .agg [q30, q31, q1, q22, q14, q18, q14, q14, q14, q31]
def q168 : AV := .vs 7 [.agg [q14, q22, q14, q18, q52, q22, q31]] none
def q169 : AV := .vs 7 [.agg [q22, q14, q22, q14, q14, q14, q31]] none
def q170 : AV := .vs 7 [.agg [q14, q14, q18, q22, q22, q11, q31]] none
def q171 : AV := .agg [q14, q14, q11, q22, q22, q107, q25]
def q172 : AV := .vs 7 [q171] none
def q173 : AV := .agg [q142, q121, .vs 2 [.agg [q3, q172]] none]
def q174 : AV := .agg [q14, q14, q22, q22, q22, q18, q31]
def q175 : AV := .agg [q14, q22, q18, q18, q52, q11, q31]
def q176 : AV := .agg [q22, q14, q14, q14, q14, q14, q31]
def q177 : AV := .vs 7 [q174, q175, q176] none
def q178 : AV := .vs 2 [.agg [q1, q177]] none
def q179 : AV := .agg [q1, q25, q178]
def q180 : AV := .vs 7 [.agg [q22, q14, q18, q14, q14, q14, q31]] none
def q181 : AV := .agg [q14, q14, q14, q22, q22, q22, q31]
def q182 : AV := .agg [q14, q22, q22, q18, q52, q18, q25]
def q183 : AV := .vs 7 [q181, q182] none
def q184 : AV := .vs 2 [.agg [q0, q183]] none
def q185 : AV := .agg [q0, q121, q184]
def q186 : AV := .vs 3 [.agg [q27, q28, .vs 2 [.agg [q3, q168]] none], .agg [q7, q121, .vs 2 [.agg [q7, q169]] none], .agg [q2, q121, .vs 2 [.agg [q2, q170]] none], q173, q179, .agg [q30, q31, .vs 2 [.agg [q1, q180]] none], q185] none
def q187 : AV := .agg [q186]
def q188 : AV := .vs 2 [q125, q26, q139, q145, q29, q125, q26, q26, q163, q32] none
def q189 : AV := .vs 3 [q39, q44, q45] none
def q190 : AV := .tup [q189, q14]
def q191 : AV := .agg [q12, q87, q24, q36, q52, q62, q69, q28, q86, .vs 6 [q97, q112, q114] none]
def q192 : AV := .agg [q14, q14, q18, q10, q22]
def q193 : AV := .agg [q22, q14, q22, q11, q22]
def q194 : AV := .vs 5 [q192, q193] (some 2)
def q195 : AV := .agg [q67, q194]
def q196 : AV := .vs 2 [q195] (some 1)
def q197 : AV := .agg [q67, q194, q12]
def q198 : AV := .tup [.agg [q10, q22], .v (.bool true)]
def q199 : AV := .tup [.agg [q10, q22, q22], q14]
def q200 : AV := .agg [q12, q87, q24, q36, q67, q194, q69, q28, q86, q118]
def q201 : AV := .agg [q0, q121, q0, q14, q14, q14, q10, q22, q22, q31]
def q202 : AV := .agg [q10, q22, q18]
def q203 : AV := .tup [q202, q14]
def q204 : AV := .agg [q1, q25, q1, q14, q14, q22, q10, q22, q18, q31]
def q205 : AV := .tup [.agg [q10, q22, q11], q14]
def q206 : AV := .agg [q2, q121, q2, q14, q14, q18, q10, q22, q11, q31]
def q207 : AV := .tup [.agg [q10, q22, q107], q14]
def q208 : AV := .agg [q142, q121, q3, q14, q14, q11, q10, q22, q107, q25]
def q209 : AV := .tup [.agg [q10, q18], .v (.bool true)]
def q210 : AV := .tup [.agg [q10, q18, q22], q14]
def q211 : AV := .agg [q27, q28, q3, q14, q22, q14, q10, q18, q22, q31]
def q212 : AV := .tup [.agg [q10, q18, q18], q14]
def q213 : AV := .agg [q0, q121, q0, q14, q22, q22, q10, q18, q18, q25]
def q214 : AV := .agg [q10, q18, q11]
def q215 : AV := .tup [q214, q14]
def q216 : AV := .agg [q1, q25, q1, q14, q22, q18, q10, q18, q11, q31]
def q217 : AV := .tup [.agg [q11, q22], .v (.bool true)]
def q218 : AV := .agg [q11, q22, q22]
def q219 : AV := .tup [q218, q14]
def q220 : AV := .agg [q1, q25, q1, q22, q14, q14, q11, q22, q22, q31]
def q221 : AV := .tup [.agg [q11, q22, q18], q14]
def q222 : AV := .agg [q7, q121, q7, q22, q14, q22, q11, q22, q18, q31]
def q223 : AV := .tup [.agg [q11, q22, q11], q14]
def q224 : AV := .agg [q30, q31, q1, q22, q14, q18, q11, q22, q11, q31]
def q225 : AV := .agg [q14, q14, q22, q10, q22, q18, q31]
def q226 : AV := .agg [q14, q22, q18, q10, q18, q11, q31]
def q227 : AV := .agg [q22, q14, q14, q11, q22, q22, q31]
def q228 : AV := .vs 7 [q225, q226, q227] none
def q229 : AV := .agg [q1, q25, .vs 2 [.agg [q1, q228]] none]
def q230 : AV := .vs 3 [.agg [q27, q28, .vs 2 [.agg [q3, .vs 7 [.agg [q14, q22, q14, q10, q18, q22, q31]] none]] none], .agg [q7, q121, .vs 2 [.agg [q7, .vs 7 [.agg [q22, q14, q22, q11, q22, q18, q31]] none]] none], .agg [q2, q121, .vs 2 [.agg [q2, .vs 7 [.agg [q14, q14, q18, q10, q22, q11, q31]] none]] none], .agg [q142, q121, .vs 2 [.agg [q3, .vs 7 [.agg [q14, q14, q11, q10, q22, q107, q25]] none]] none], q229, .agg [q30, q31, .vs 2 [.agg [q1, .vs 7 [.agg [q22, q14, q18, q11, q22, q11, q31]] none]] none], .agg [q0, q121, .vs 2 [.agg [q0, .vs 7 [.agg [q14, q14, q14, q10, q22, q22, q31], .agg [q14, q22, q22, q10, q18, q18, q25]] none]] none]] none
def q231 : AV := .agg [q230]
def q232 : AV := .agg [q107, q25, q1, q14, q14, q14, q30, q31, q14]
def q233 : AV := .vs 9 [q33, q34, q35, q232] none
def q234 : AV := .agg [q24, q233, q233, q48, q49]
def q235 : AV := .agg [q24, q233]
def q236 : AV := .vs 2 [q26, q32] none
def q237 : AV := .vs 7 [q174, q175, q176] (some 3)
def q238 : AV := .agg [q1, q25, .vs 2 [.agg [q1, q237]] (some 1)]
def q239 : AV := .vs 7 [q225, q226, q227] (some 3)
def q240 : AV := .agg [q1, q25, .vs 2 [.agg [q1, q239]] (some 1)]
def o241 : Option AObj := some (.cells 0 0 25 1 false [q186])
def o242 : Option AObj := some (.cells 0 0 49 1 false [q1, q25, q178])
def o243 : Option AObj := some (.cells 0 0 25 1 false [q230])
def o244 : Option AObj := some (.cells 0 23 25 1 false [.sl 22 6 0 7 none])
def o245 : Option AObj := some (.cells 0 19 49 1 false [q27, q28, .sl 18 0 0 1 none])
def o246 : Option AObj := some (.cells 0 0 62 1 false [q3, q168])
def o247 : Option AObj := some (.cells 0 0 59 7 true [q14, q22, q14, q18, q52, q22, q31])
def o248 : Option AObj := some (.cells 0 16 62 2 false [q3, .sl 15 0 0 1 none])
def o249 : Option AObj := some (.cells 0 16 62 2 true [q3, .sl 15 0 0 1 none])
def o250 : Option AObj := some (.cells 0 19 49 3 false [q27, q28, .sl 18 0 0 1 none])
def o251 : Option AObj := some (.cells 6 116 49 3 true [q27, q28, .sl 18 0 0 1 none, q7, q121, .sl 35 0 0 1 none, q2, q121, .sl 51 0 0 1 none, q142, q121, .sl 67 0 0 1 none, q1, q25, .sl 83 0 0 1 none, q30, q31, .sl 99 0 0 1 none, q0, q121, .sl 115 0 0 1 none])
def o252 : Option AObj := some (.cells 0 36 49 1 false [q7, q121, .sl 35 0 0 1 none])
def o253 : Option AObj := some (.cells 0 0 62 1 false [q7, q169])
def o254 : Option AObj := some (.cells 0 0 59 7 true [q22, q14, q22, q14, q14, q14, q31])
def o255 : Option AObj := some (.cells 0 33 62 2 false [q7, .sl 32 0 0 1 none])
def o256 : Option AObj := some (.cells 0 33 62 2 true [q7, .sl 32 0 0 1 none])
def o257 : Option AObj := some (.cells 0 36 49 3 false [q7, q121, .sl 35 0 0 1 none])
def o258 : Option AObj := some (.cells 0 52 49 1 false [q2, q121, .sl 51 0 0 1 none])
def o259 : Option AObj := some (.cells 0 0 62 1 false [q2, q170])
def o260 : Option AObj := some (.cells 0 0 59 7 true [q14, q14, q18, q22, q22, q11, q31])
def o261 : Option AObj := some (.cells 0 49 62 2 false [q2, .sl 48 0 0 1 none])
def o262 : Option AObj := some (.cells 0 49 62 2 true [q2, .sl 48 0 0 1 none])
def o263 : Option AObj := some (.cells 0 52 49 3 false [q2, q121, .sl 51 0 0 1 none])
def o264 : Option AObj := some (.cells 0 68 49 1 false [q142, q121, .sl 67 0 0 1 none])
def o265 : Option AObj := some (.cells 0 0 62 1 false [q3, q172])
def o266 : Option AObj := some (.cells 0 0 59 7 true [q14, q14, q11, q22, q22, q107, q25])
def o267 : Option AObj := some (.cells 0 65 62 2 false [q3, .sl 64 0 0 1 none])
def o268 : Option AObj := some (.cells 0 65 62 2 true [q3, .sl 64 0 0 1 none])
def o269 : Option AObj := some (.cells 0 68 49 3 false [q142, q121, .sl 67 0 0 1 none])
def o270 : Option AObj := some (.cells 0 84 49 1 false [q1, q25, .sl 83 0 0 1 none])
def o271 : Option AObj := some (.cells 0 0 62 1 false [q1, q177])
def o272 : Option AObj := some (.cells 0 0 59 7 true [q14, q14, q22, q22, q22, q18, q31, q14, q22, q18, q18, q52, q11, q31, q22, q14, q14, q14, q14, q14, q31])
def o273 : Option AObj := some (.cells 0 81 62 2 false [q1, .sl 80 0 0 3 none])
def o274 : Option AObj := some (.cells 0 81 62 2 true [q1, .sl 80 0 0 2 none])
def o275 : Option AObj := some (.cells 0 84 49 3 false [q1, q25, .sl 83 0 0 1 none])
def o276 : Option AObj := some (.cells 0 100 49 1 false [q30, q31, .sl 99 0 0 1 none])
def o277 : Option AObj := some (.cells 0 0 62 1 false [q1, q180])
def o278 : Option AObj := some (.cells 0 0 59 7 true [q22, q14, q18, q14, q14, q14, q31])
def o279 : Option AObj := some (.cells 0 97 62 2 false [q1, .sl 96 0 0 1 none])
def o280 : Option AObj := some (.cells 0 97 62 2 true [q1, .sl 96 0 0 1 none])
def o281 : Option AObj := some (.cells 0 100 49 3 false [q30, q31, .sl 99 0 0 1 none])
def o282 : Option AObj := some (.cells 0 116 49 1 false [q0, q121, .sl 115 0 0 1 none])
def o283 : Option AObj := some (.cells 0 0 62 1 false [q0, q183])
def o284 : Option AObj := some (.cells 0 0 59 7 true [q14, q14, q14, q22, q22, q22, q31, q14, q22, q22, q18, q52, q18, q25])
def o285 : Option AObj := some (.cells 0 113 62 2 false [q0, .sl 112 0 0 2 none])
def o286 : Option AObj := some (.cells 0 113 62 2 true [q0, .sl 112 0 0 2 none])
def o287 : Option AObj := some (.cells 0 116 49 3 false [q0, q121, .sl 115 0 0 1 none])
def q288 : AV := .v (.string ⟨⟨[49,46,49,46,50]⟩⟩)
def q289 : AV := .v (.string ⟨⟨[58]⟩⟩)
def q290 : AV := .v (.string ⟨⟨[32,116,104,101]⟩⟩)
def q291 : AV := .v (.string ⟨⟨[32,91,115,101,97,93]⟩⟩)
def q292 : AV := .v (.string ⟨⟨[32,105,115,32,111,108,100]⟩⟩)
def q293 : AV := .v (.string ⟨⟨[50,46,53,46,51]⟩⟩)
def q294 : AV := .v (.string ⟨⟨[32,111,108,100,32,116,104,101]⟩⟩)
def q295 : AV := .v (.string ⟨⟨[45]⟩⟩)
def q296 : AV := .v (.string ⟨⟨[32,97,110,100,32,115,101,97]⟩⟩)
def q297 : AV := .v (.string ⟨⟨[115,101,97,47,49]⟩⟩)
def q298 : AV := .v (.string ⟨⟨[115,101,97,32,51]⟩⟩)
def q299 : AV := .v (.string ⟨⟨[49,46,49,46,50,58,32,116,104,101,32,91,115,101,97,93,32,105,115,32,111,108,100]⟩⟩)
def q300 : AV := .v (.string ⟨⟨[50,46,53,46,51,58,32,111,108,100,32,116,104,101,32,91,115,101,97,93]⟩⟩)
def q301 : AV := .v (.string ⟨⟨[45,58,32,91,115,101,97,93,32,97,110,100,32,115,101,97]⟩⟩)
def q302 : AV := .vs 1 [q297, q298, q299, q300, q301] none
def q303 : AV := .vs 1 [q297, q298, q299, q300, q301] (some 5)
def q304 : AV := .vs 3 [q41] none
def q305 : AV := .agg [q12, q87, q24, q36, q52, q62, q69, q28, q86, .vs 6 [q103] none]
def q306 : AV := .v (.string ⟨⟨[49,46,49,46,52]⟩⟩)
def q307 : AV := .v (.string ⟨⟨[63]⟩⟩)
def q308 : AV := .v (.string ⟨⟨[32,105,115]⟩⟩)
def q309 : AV := .v (.string ⟨⟨[32,91,111,108,100,93]⟩⟩)
def q310 : AV := .v (.string ⟨⟨[111,108,100,32,49]⟩⟩)
def q311 : AV := .v (.string ⟨⟨[49,46,49,46,52,63,58,32,105,115,32,91,111,108,100,93,32,111,108,100,32,116,104,101]⟩⟩)
def q312 : AV := .vs 1 [q142, q310, q311] none
def q313 : AV := .vs 1 [q142, q310, q311] (some 3)
def q314 : AV := .vs 3 [q38, q43] none
def q315 : AV := .agg [q12, q87, q24, q36, q52, q62, q69, q28, q86, .vs 6 [q94, q111] none]
def q316 : AV := .vs 7 [q181, q182] (some 2)
def q317 : AV := .vs 2 [.agg [q0, q316]] (some 1)
def o318 : Option AObj := some (.cells 0 0 49 1 false [q0, q121, q184])
def o319 : Option AObj := some (.cells 0 0 49 1 false [q0, q121, q317])
def o320 : Option AObj := some (.cells 0 15 43 1 false [.sl 9 0 0 2 (some 2), .sl 11 0 0 1 (some 1), .sl 12 0 0 2 (some 2), .sl 13 0 0 3 (some 3), q52, .sl 14 0 0 2 (some 2), q69, q28])
def o321 : Option AObj := some (.cells 0 0 9 1 false [q0, q1, q2, q3])
def o322 : Option AObj := some (.cells 0 0 9 1 false [q3, q0, q1])
def o323 : Option AObj := some (.cells 0 6 94 1 false [.sl 4 0 0 4 (some 4), .sl 5 0 0 3 (some 3)])
def o324 : Option AObj := some (.cells 0 0 9 1 false [q1, q7, q1])
def o325 : Option AObj := some (.cells 0 8 94 1 false [.sl 7 0 0 3 (some 3)])
def o326 : Option AObj := some (.cells 0 9 97 2 false [q10, .sl 6 0 0 2 (some 2), q11, .sl 8 0 0 1 (some 1)])
def o327 : Option AObj := some (.cells 0 0 99 5 false [q14, q14, q11, q28, q71, q14, q22, q22, q25, q17, q22, q14, q11, q31, q75])
def o328 : Option AObj := some (.cells 0 11 102 2 false [q22, .sl 10 0 0 3 (some 3)])
def o329 : Option AObj := some (.cells 0 0 68 3 false [q16, q17, q18, q20, q21, q22])
def o330 : Option AObj := some (.cells 0 0 73 9 false [q22, q25, q1, q14, q14, q14, q1, q25, q14, q18, q31, q3, q14, q22, q14, q27, q28, q14, q11, q28, q17, q22, q14, q18, q30, q31, q14])
def o331 : Option AObj := some (.cells 0 0 66 5 false [q14, q14, q22, q22, q22, q14, q14, q22, q22, q22])
def o332 : Option AObj := some (.cells 0 27 43 1 false [.sl 21 0 0 2 (some 2), .sl 23 0 0 1 (some 1), .sl 24 0 0 2 (some 2), .sl 25 0 0 3 (some 3), q52, .sl 26 0 0 2 (some 2), q69, q28])
def o333 : Option AObj := some (.cells 0 18 94 1 false [.sl 16 0 0 4 (some 4), .sl 17 0 0 3 (some 3)])
def o334 : Option AObj := some (.cells 0 20 94 1 false [.sl 19 0 0 3 (some 3)])
def o335 : Option AObj := some (.cells 0 21 97 2 false [q10, .sl 18 0 0 2 (some 2), q11, .sl 20 0 0 1 (some 1)])
def o336 : Option AObj := some (.cells 0 23 102 2 false [q22, .sl 22 0 0 3 (some 3)])
def o337 : Option AObj := some (.cells 0 0 66 5 false [q14, q14, q22, q22, q22, q14, q22, q18, q18, q52])
def o338 : Option AObj := some (.cells 0 39 43 1 false [.sl 33 0 0 2 (some 2), .sl 35 0 0 1 (some 1), .sl 36 0 0 2 (some 2), .sl 37 0 0 3 (some 3), q52, .sl 38 0 0 2 (some 2), q69, q28])
def o339 : Option AObj := some (.cells 0 30 94 1 false [.sl 28 0 0 4 (some 4), .sl 29 0 0 3 (some 3)])
def o340 : Option AObj := some (.cells 0 32 94 1 false [.sl 31 0 0 3 (some 3)])
def o341 : Option AObj := some (.cells 0 33 97 2 false [q10, .sl 30 0 0 2 (some 2), q11, .sl 32 0 0 1 (some 1)])
def o342 : Option AObj := some (.cells 0 35 102 2 false [q22, .sl 34 0 0 3 (some 3)])
def o343 : Option AObj := some (.cells 0 51 43 1 false [.sl 45 0 0 2 (some 2), .sl 47 0 0 1 (some 1), .sl 48 0 0 2 (some 2), .sl 49 0 0 3 (some 3), q52, .sl 50 0 0 2 (some 2), q69, q28])
def o344 : Option AObj := some (.cells 0 42 94 1 false [.sl 40 0 0 4 (some 4), .sl 41 0 0 3 (some 3)])
def o345 : Option AObj := some (.cells 0 44 94 1 false [.sl 43 0 0 3 (some 3)])
def o346 : Option AObj := some (.cells 0 45 97 2 false [q10, .sl 42 0 0 2 (some 2), q11, .sl 44 0 0 1 (some 1)])
def o347 : Option AObj := some (.cells 0 47 102 2 false [q22, .sl 46 0 0 3 (some 3)])
def o348 : Option AObj := some (.cells 0 0 68 3 false [q16, q17, q14, q20, q21, q22])
def o349 : Option AObj := some (.cells 0 27 43 1 false [.sl 21 0 0 2 (some 2), .sl 23 0 0 1 (some 1), .sl 24 0 0 2 (some 2), .sl 25 0 0 3 (some 3), q52, .sl 26 0 0 2 (some 2), q69, q121])
def o350 : Option AObj := some (.cells 0 56 43 1 false [.sl 33 0 0 2 (some 2), .sl 55 0 0 6 (some 6), .sl 36 0 0 2 (some 2), .sl 37 0 0 3 (some 3), q52, .sl 38 0 0 2 (some 2), q69, q28])
def q351 : AV := .v (.slice none 0 0)
def o352 : Option AObj := some (.cells 0 0 102 2 false [q14, q351, q14, q351, q14, q351, q14, q351, q14, q351, q14, q351])
def o353 : Option AObj := some (.cells 0 0 49 3 false [q17, q121, q351, q17, q121, q351, q17, q121, q351, q17, q121, q351, q17, q121, q351, q17, q121, q351, q17, q121, q351, q17, q121, q351, q17, q121, q351, q17, q121, q351, q17, q121, q351, q17, q121, q351, q17, q121, q351, q17, q121, q351, q17, q121, q351, q17, q121, q351, q17, q121, q351, q17, q121, q351, q17, q121, q351, q17, q121, q351, q17, q121, q351, q17, q121, q351, q17, q121, q351, q17, q121, q351, q17, q121, q351, q17, q121, q351, q17, q121, q351, q17, q121, q351, q17, q121, q351, q17, q121, q351, q17, q121, q351, q17, q121, q351, q17, q121, q351, q17, q121, q351, q17, q121, q351, q17, q121, q351, q17, q121, q351, q17, q121, q351, q17, q121, q351, q17, q121, q351, q17, q121, q351, q17, q121, q351, q17, q121, q351, q17, q121, q351, q17, q121, q351, q17, q121, q351, q17, q121, q351, q17, q121, q351, q17, q121, q351, q17, q121, q351, q17, q121, q351, q17, q121, q351, q17, q121, q351, q17, q121, q351, q17, q121, q351, q17, q121, q351, q17, q121, q351, q17, q121, q351, q17, q121, q351, q17, q121, q351, q17, q121, q351, q17, q121, q351, q17, q121, q351, q17, q121, q351, q17, q121, q351, q17, q121, q351, q17, q121, q351, q17, q121, q351, q17, q121, q351, q17, q121, q351, q17, q121, q351, q17, q121, q351, q17, q121, q351, q17, q121, q351, q17, q121, q351, q17, q121, q351, q17, q121, q351, q17, q121, q351, q17, q121, q351, q17, q121, q351, q17, q121, q351, q17, q121, q351, q17, q121, q351, q17, q121, q351, q17, q121, q351, q17, q121, q351, q17, q121, q351, q17, q121, q351, q17, q121, q351, q17, q121, q351, q17, q121, q351, q17, q121, q351, q17, q121, q351, q17, q121, q351, q17, q121, q351, q17, q121, q351, q17, q121, q351, q17, q121, q351, q17, q121, q351, q17, q121, q351, q17, q121, q351, q17, q121, q351, q17, q121, q351, q17, q121, q351, q17, q121, q351, q17, q121, q351, q17, q121, q351, q17, q121, q351, q17, q121, q351, q17, q121, q351, q17, q121, q351, q17, q121, q351, q17, q121, q351, q17, q121, q351, q17, q121, q351, q17, q121, q351, q17, q121, q351, q17, q121, q351, q17, q121, q351, q17, q121, q351, q17, q121, q351, q17, q121, q351, q17, q121, q351, q17, q121, q351, q17, q121, q351, q17, q121, q351, q17, q121, q351, q17, q121, q351, q17, q121, q351, q17, q121, q351, q17, q121, q351, q17, q121, q351, q17, q121, q351, q17, q121, q351, q17, q121, q351, q17, q121, q351, q17, q121, q351, q17, q121, q351, q17, q121, q351, q17, q121, q351, q17, q121, q351, q17, q121, q351, q17, q121, q351, q17, q121, q351, q17, q121, q351, q17, q121, q351, q17, q121, q351, q17, q121, q351, q17, q121, q351, q17, q121, q351, q17, q121, q351, q17, q121, q351, q17, q121, q351, q17, q121, q351, q17, q121, q351, q17, q121, q351, q17, q121, q351, q17, q121, q351, q17, q121, q351, q17, q121, q351, q17, q121, q351, q17, q121, q351, q17, q121, q351, q17, q121, q351, q17, q121, q351, q17, q121, q351, q17, q121, q351, q17, q121, q351, q17, q121, q351, q17, q121, q351, q17, q121, q351, q17, q121, q351, q17, q121, q351, q17, q121, q351, q17, q121, q351, q17, q121, q351, q17, q121, q351, q17, q121, q351, q17, q121, q351, q17, q121, q351, q17, q121, q351, q17, q121, q351, q17, q121, q351, q17, q121, q351, q17, q121, q351, q17, q121, q351, q17, q121, q351, q17, q121, q351, q17, q121, q351, q17, q121, q351, q17, q121, q351, q17, q121, q351, q17, q121, q351, q17, q121, q351, q17, q121, q351, q17, q121, q351, q17, q121, q351, q17, q121, q351, q17, q121, q351, q17, q121, q351, q17, q121, q351, q17, q121, q351, q17, q121, q351, q17, q121, q351, q17, q121, q351, q17, q121, q351, q17, q121, q351, q17, q121, q351, q17, q121, q351, q17, q121, q351, q17, q121, q351, q17, q121, q351, q17, q121, q351, q17, q121, q351, q17, q121, q351, q17, q121, q351, q17, q121, q351, q17, q121, q351, q17, q121, q351, q17, q121, q351, q17, q121, q351, q17, q121, q351, q17, q121, q351, q17, q121, q351, q17, q121, q351, q17, q121, q351, q17, q121, q351, q17, q121, q351, q17, q121, q351, q17, q121, q351, q17, q121, q351, q17, q121, q351, q17, q121, q351, q17, q121, q351, q17, q121, q351, q17, q121, q351, q17, q121, q351, q17, q121, q351, q17, q121, q351, q17, q121, q351, q17, q121, q351, q17, q121, q351, q17, q121, q351, q17, q121, q351, q17, q121, q351, q17, q121, q351, q17, q121, q351, q17, q121, q351, q17, q121, q351, q17, q121, q351, q17, q121, q351, q17, q121, q351, q17, q121, q351, q17, q121, q351, q17, q121, q351, q17, q121, q351, q17, q121, q351, q17, q121, q351, q17, q121, q351, q17, q121, q351, q17, q121, q351, q17, q121, q351, q17, q121, q351, q17, q121, q351, q17, q121, q351, q17, q121, q351, q17, q121, q351, q17, q121, q351, q17, q121, q351, q17, q121, q351, q17, q121, q351, q17, q121, q351, q17, q121, q351, q17, q121, q351, q17, q121, q351, q17, q121, q351, q17, q121, q351, q17, q121, q351, q17, q121, q351, q17, q121, q351, q17, q121, q351, q17, q121, q351, q17, q121, q351, q17, q121, q351, q17, q121, q351, q17, q121, q351, q17, q121, q351, q17, q121, q351, q17, q121, q351, q17, q121, q351, q17, q121, q351, q17, q121, q351, q17, q121, q351, q17, q121, q351, q17, q121, q351, q17, q121, q351, q17, q121, q351, q17, q121, q351, q17, q121, q351, q17, q121, q351, q17, q121, q351, q17, q121, q351, q17, q121, q351, q17, q121, q351, q17, q121, q351, q17, q121, q351, q17, q121, q351, q17, q121, q351, q17, q121, q351, q17, q121, q351, q17, q121, q351, q17, q121, q351, q17, q121, q351, q17, q121, q351, q17, q121, q351, q17, q121, q351, q17, q121, q351, q17, q121, q351, q17, q121, q351, q17, q121, q351, q17, q121, q351, q17, q121, q351, q17, q121, q351, q17, q121, q351, q17, q121, q351, q17, q121, q351, q17, q121, q351, q17, q121, q351, q17, q121, q351, q17, q121, q351, q17, q121, q351, q17, q121, q351, q17, q121, q351, q17, q121, q351, q17, q121, q351, q17, q121, q351, q17, q121, q351, q17, q121, q351, q17, q121, q351, q17, q121, q351, q17, q121, q351, q17, q121, q351, q17, q121, q351, q17, q121, q351, q17, q121, q351, q17, q121, q351, q17, q121, q351, q17, q121, q351, q17, q121, q351, q17, q121, q351, q17, q121, q351, q17, q121, q351, q17, q121, q351, q17, q121, q351, q17, q121, q351, q17, q121, q351, q17, q121, q351, q17, q121, q351, q17, q121, q351, q17, q121, q351, q17, q121, q351, q17, q121, q351, q17, q121, q351, q17, q121, q351, q17, q121, q351, q17, q121, q351, q17, q121, q351, q17, q121, q351, q17, q121, q351, q17, q121, q351, q17, q121, q351, q17, q121, q351, q17, q121, q351, q17, q121, q351, q17, q121, q351, q17, q121, q351, q17, q121, q351, q17, q121, q351, q17, q121, q351, q17, q121, q351, q17, q121, q351, q17, q121, q351, q17, q121, q351, q17, q121, q351, q17, q121, q351, q17, q121, q351, q17, q121, q351, q17, q121, q351, q17, q121, q351, q17, q121, q351, q17, q121, q351, q17, q121, q351, q17, q121, q351, q17, q121, q351, q17, q121, q351, q17, q121, q351, q17, q121, q351, q17, q121, q351, q17, q121, q351, q17, q121, q351, q17, q121, q351, q17, q121, q351, q17, q121, q351, q17, q121, q351, q17, q121, q351, q17, q121, q351, q17, q121, q351, q17, q121, q351, q17, q121, q351, q17, q121, q351, q17, q121, q351, q17, q121, q351, q17, q121, q351, q17, q121, q351, q17, q121, q351, q17, q121, q351, q17, q121, q351, q17, q121, q351, q17, q121, q351, q17, q121, q351, q17, q121, q351, q17, q121, q351, q17, q121, q351, q17, q121, q351, q17, q121, q351, q17, q121, q351, q17, q121, q351, q17, q121, q351, q17, q121, q351, q17, q121, q351, q17, q121, q351, q17, q121, q351, q17, q121, q351, q17, q121, q351, q17, q121, q351, q17, q121, q351, q17, q121, q351, q17, q121, q351, q17, q121, q351, q17, q121, q351, q17, q121, q351, q17, q121, q351, q17, q121, q351, q17, q121, q351, q17, q121, q351, q17, q121, q351, q17, q121, q351, q17, q121, q351, q17, q121, q351, q17, q121, q351, q17, q121, q351, q17, q121, q351, q17, q121, q351, q17, q121, q351, q17, q121, q351, q17, q121, q351, q17, q121, q351, q17, q121, q351, q17, q121, q351, q17, q121, q351, q17, q121, q351, q17, q121, q351, q17, q121, q351, q17, q121, q351, q17, q121, q351, q17, q121, q351, q17, q121, q351, q17, q121, q351, q17, q121, q351, q17, q121, q351, q17, q121, q351, q17, q121, q351, q17, q121, q351, q17, q121, q351, q17, q121, q351, q17, q121, q351, q17, q121, q351, q17, q121, q351, q17, q121, q351, q17, q121, q351, q17, q121, q351, q17, q121, q351, q17, q121, q351, q17, q121, q351, q17, q121, q351, q17, q121, q351, q17, q121, q351, q17, q121, q351, q17, q121, q351, q17, q121, q351, q17, q121, q351, q17, q121, q351, q17, q121, q351, q17, q121, q351, q17, q121, q351, q17, q121, q351, q17, q121, q351, q17, q121, q351, q17, q121, q351, q17, q121, q351, q17, q121, q351, q17, q121, q351, q17, q121, q351, q17, q121, q351, q17, q121, q351, q17, q121, q351, q17, q121, q351, q17, q121, q351, q17, q121, q351, q17, q121, q351, q17, q121, q351, q17, q121, q351, q17, q121, q351, q17, q121, q351, q17, q121, q351, q17, q121, q351, q17, q121, q351, q17, q121, q351, q17, q121, q351, q17, q121, q351, q17, q121, q351, q17, q121, q351, q17, q121, q351, q17, q121, q351, q17, q121, q351, q17, q121, q351, q17, q121, q351, q17, q121, q351, q17, q121, q351, q17, q121, q351, q17, q121, q351, q17, q121, q351, q17, q121, q351, q17, q121, q351, q17, q121, q351, q17, q121, q351, q17, q121, q351, q17, q121, q351, q17, q121, q351, q17, q121, q351, q17, q121, q351, q17, q121, q351, q17, q121, q351, q17, q121, q351, q17, q121, q351, q17, q121, q351, q17, q121, q351, q17, q121, q351, q17, q121, q351, q17, q121, q351, q17, q121, q351, q17, q121, q351, q17, q121, q351, q17, q121, q351, q17, q121, q351, q17, q121, q351, q17, q121, q351, q17, q121, q351, q17, q121, q351, q17, q121, q351, q17, q121, q351, q17, q121, q351, q17, q121, q351, q17, q121, q351, q17, q121, q351, q17, q121, q351, q17, q121, q351, q17, q121, q351, q17, q121, q351, q17, q121, q351, q17, q121, q351, q17, q121, q351, q17, q121, q351, q17, q121, q351, q17, q121, q351, q17, q121, q351, q17, q121, q351, q17, q121, q351, q17, q121, q351, q17, q121, q351, q17, q121, q351, q17, q121, q351, q17, q121, q351, q17, q121, q351, q17, q121, q351, q17, q121, q351, q17, q121, q351, q17, q121, q351, q17, q121, q351, q17, q121, q351, q17, q121, q351, q17, q121, q351, q17, q121, q351, q17, q121, q351, q17, q121, q351, q17, q121, q351, q17, q121, q351, q17, q121, q351, q17, q121, q351, q17, q121, q351, q17, q121, q351, q17, q121, q351, q17, q121, q351, q17, q121, q351, q17, q121, q351, q17, q121, q351, q17, q121, q351, q17, q121, q351, q17, q121, q351, q17, q121, q351, q17, q121, q351, q17, q121, q351, q17, q121, q351, q17, q121, q351, q17, q121, q351, q17, q121, q351, q17, q121, q351, q17, q121, q351, q17, q121, q351, q17, q121, q351, q17, q121, q351, q17, q121, q351, q17, q121, q351, q17, q121, q351, q17, q121, q351, q17, q121, q351, q17, q121, q351, q17, q121, q351, q17, q121, q351, q17, q121, q351, q17, q121, q351, q17, q121, q351, q17, q121, q351, q17, q121, q351, q17, q121, q351, q17, q121, q351, q17, q121, q351, q17, q121, q351, q17, q121, q351, q17, q121, q351, q17, q121, q351, q17, q121, q351, q17, q121, q351, q17, q121, q351, q17, q121, q351, q17, q121, q351, q17, q121, q351, q17, q121, q351, q17, q121, q351, q17, q121, q351, q17, q121, q351, q17, q121, q351, q17, q121, q351, q17, q121, q351, q17, q121, q351, q17, q121, q351, q17, q121, q351, q17, q121, q351, q17, q121, q351, q17, q121, q351, q17, q121, q351, q17, q121, q351, q17, q121, q351, q17, q121, q351, q17, q121, q351, q17, q121, q351, q17, q121, q351, q17, q121, q351, q17, q121, q351, q17, q121, q351, q17, q121, q351, q17, q121, q351, q17, q121, q351, q17, q121, q351, q17, q121, q351, q17, q121, q351, q17, q121, q351, q17, q121, q351, q17, q121, q351, q17, q121, q351, q17, q121, q351, q17, q121, q351, q17, q121, q351, q17, q121, q351, q17, q121, q351, q17, q121, q351, q17, q121, q351, q17, q121, q351, q17, q121, q351, q17, q121, q351, q17, q121, q351, q17, q121, q351, q17, q121, q351, q17, q121, q351, q17, q121, q351, q17, q121, q351, q17, q121, q351, q17, q121, q351, q17, q121, q351, q17, q121, q351, q17, q121, q351])
def o354 : Option AObj := some (.cells 0 57 25 1 false [.sl 56 0 0 701 (some 701)])
def o355 : Option AObj := some (.cells 0 0 25 1 false [q351])
def o356 : Option AObj := some (.cells 0 0 90 1 false [q351, q351, q351, q351, q14, q351, q14, q121, q351, q351])
def q357 : AV := .agg [q69, q121]
def q358 : AV := .agg [q16, q17, q14]
def q359 : AV := .agg [q1, q121]
def q360 : AV := .agg [q351, q351, q351, q351, q351]
def q361 : AV := .vs 9 [q33, q34, q35, q122] none
def q362 : AV := .v (.int .i64 41)
def q363 : AV := .v (.int .i64 12)
def q364 : AV := .agg [q351]
def t0 : Tell := ⟨197, [q0], (.v (.bool true))⟩
def t1 : Tell := ⟨197, [q1], (.v (.bool true))⟩
def t2 : Tell := ⟨197, [q2], (.v (.bool true))⟩
def t3 : Tell := ⟨197, [q3], (.v (.bool true))⟩
def t4 : Tell := ⟨142, [q6], (.v (.bool true))⟩
def t5 : Tell := ⟨197, [q7], (.v (.bool true))⟩
def t6 : Tell := ⟨142, [q9], (.v (.bool true))⟩
def t7 : Tell := ⟨91, [q13], (.v (.bool true))⟩
def t8 : Tell := ⟨61, [q13], (.tup [q13, q14])⟩
def t9 : Tell := ⟨102, [q13], q14⟩
def t10 : Tell := ⟨306, [q15], (.tup [.agg [.v (.bool false), .v (.bool false), .v (.bool false), .v (.bool false), .v (.bool false), .v (.bool false), .v (.bool false), .v (.bool false), .v (.bool false), .v (.bool false), .v (.bool false), .v (.bool false), .v (.bool false), .v (.bool false), .v (.bool false), .v (.bool false), .v (.bool false), .v (.bool false), .v (.bool false), .v (.bool false), .v (.bool false), .v (.bool false), .v (.bool false), .v (.bool false), .v (.bool false), .v (.bool false), .v (.bool false), .v (.bool false), .v (.bool false), .v (.bool false), .v (.bool false), .v (.bool false), .v (.bool false), .v (.bool false), .v (.bool false), .v (.bool false), .v (.bool false), .v (.bool false), .v (.bool false), .v (.bool false), .v (.bool false), .v (.bool false), .v (.bool false), .v (.bool false), .v (.bool false), .v (.bool false), .v (.bool false), .v (.bool false), .v (.bool false), .v (.bool false), .v (.bool false), .v (.bool false), .v (.bool false), .v (.bool false), .v (.bool false), .v (.bool false), .v (.bool false), .v (.bool false), .v (.bool false), .v (.bool false), .v (.bool false), .v (.bool false), .v (.bool false), .v (.bool false), .v (.bool false), .v (.bool false), .v (.bool false), .v (.bool false), .v (.bool false), .v (.bool false), .v (.bool false), .v (.bool false), .v (.bool false), .v (.bool false), .v (.bool false), .v (.bool false), .v (.bool false), .v (.bool false), .v (.bool false), .v (.bool false), .v (.bool false), .v (.bool false), .v (.bool false), .v (.bool false), .v (.bool false), .v (.bool false), .v (.bool false), .v (.bool false), .v (.bool false), .v (.bool false), .v (.bool false), .v (.bool false), .v (.bool false), .v (.bool false), .v (.bool false), .v (.bool false), .v (.bool false), .v (.bool true), .v (.bool true), .v (.bool true), .v (.bool true), .v (.bool true), .v (.bool true), .v (.bool true), .v (.bool true), .v (.bool true), .v (.bool true), .v (.bool true), .v (.bool true), .v (.bool true), .v (.bool true), .v (.bool true), .v (.bool true), .v (.bool true), .v (.bool true), .v (.bool true), .v (.bool true), .v (.bool true), .v (.bool true), .v (.bool true), .v (.bool true), .v (.bool true), .v (.bool true), .v (.bool false), .v (.bool false), .v (.bool false), .v (.bool false), .v (.bool false), .v (.bool false), .v (.bool false), .v (.bool false), .v (.bool false), .v (.bool false), .v (.bool false), .v (.bool false), .v (.bool false), .v (.bool false), .v (.bool false), .v (.bool false), .v (.bool false), .v (.bool false), .v (.bool false), .v (.bool false), .v (.bool false), .v (.bool false), .v (.bool false), .v (.bool false), .v (.bool false), .v (.bool false), .v (.bool false), .v (.bool false), .v (.bool false), .v (.bool false), .v (.bool false), .v (.bool false), .v (.bool false), .v (.bool false), .v (.bool false), .v (.bool false), .v (.bool false), .v (.bool false), .v (.bool false), .v (.bool false), .v (.bool false), .v (.bool false), .v (.bool false), .v (.bool false), .v (.bool false), .v (.bool false), .v (.bool false), .v (.bool false), .v (.bool false), .v (.bool false), .v (.bool false), .v (.bool false), .v (.bool false), .v (.bool false), .v (.bool false), .v (.bool false), .v (.bool false), .v (.bool false), .v (.bool false), .v (.bool false), .v (.bool false), .v (.bool false), .v (.bool false), .v (.bool false), .v (.bool false), .v (.bool false), .v (.bool false), .v (.bool false), .v (.bool false), .v (.bool false), .v (.bool false), .v (.bool false), .v (.bool false), .v (.bool false), .v (.bool false), .v (.bool false), .v (.bool false), .v (.bool false), .v (.bool false), .v (.bool false), .v (.bool false), .v (.bool false), .v (.bool false), .v (.bool false), .v (.bool false), .v (.bool false), .v (.bool false), .v (.bool false), .v (.bool false), .v (.bool false), .v (.bool false), .v (.bool false), .v (.bool false), .v (.bool false), .v (.bool false), .v (.bool false), .v (.bool false), .v (.bool false), .v (.bool false), .v (.bool false), .v (.bool false), .v (.bool false), .v (.bool false), .v (.bool false), .v (.bool false), .v (.bool false), .v (.bool false), .v (.bool false), .v (.bool false), .v (.bool false), .v (.bool false), .v (.bool false), .v (.bool false), .v (.bool false), .v (.bool false), .v (.bool false), .v (.bool false), .v (.bool false), .v (.bool false), .v (.bool false), .v (.bool false), .v (.bool false), .v (.bool false), .v (.bool false), .v (.bool false), .v (.bool false), .v (.bool false), .v (.bool false), .v (.bool false), .v (.bool false), .v (.bool false), .v (.bool false), .v (.bool false)], .v (.bool true)])⟩
def t11 : Tell := ⟨270, [q16, q15], q17⟩
def t12 : Tell := ⟨223, [q16], (.v (.bool true))⟩
def t13 : Tell := ⟨270, [q17, q15], q17⟩
def t14 : Tell := ⟨223, [q17], (.v (.bool true))⟩
def t15 : Tell := ⟨178, [q19], (.v (.bool true))⟩
def t16 : Tell := ⟨177, [q19], (.v (.bool false))⟩
def t17 : Tell := ⟨270, [q20, q15], q17⟩
def t18 : Tell := ⟨223, [q20], (.v (.bool true))⟩
def t19 : Tell := ⟨270, [q21, q15], q17⟩
def t20 : Tell := ⟨223, [q21], (.v (.bool true))⟩
def t21 : Tell := ⟨178, [q23], (.v (.bool true))⟩
def t22 : Tell := ⟨177, [q23], (.v (.bool false))⟩
def t23 : Tell := ⟨115, [q24], (.v (.bool true))⟩
def t24 : Tell := ⟨270, [q1, q15], q17⟩
def t25 : Tell := ⟨223, [q1], (.v (.bool true))⟩
def t26 : Tell := ⟨166, [q1], (.v (.bool true))⟩
def t27 : Tell := ⟨110, [q26], (.v (.bool true))⟩
def t28 : Tell := ⟨270, [q3, q15], q17⟩
def t29 : Tell := ⟨223, [q3], (.v (.bool true))⟩
def t30 : Tell := ⟨166, [q3], (.v (.bool true))⟩
def t31 : Tell := ⟨270, [q27, q15], q17⟩
def t32 : Tell := ⟨223, [q27], (.v (.bool true))⟩
def t33 : Tell := ⟨166, [q27], (.v (.bool true))⟩
def t34 : Tell := ⟨110, [q29], (.v (.bool true))⟩
def t35 : Tell := ⟨270, [q30, q15], q17⟩
def t36 : Tell := ⟨223, [q30], (.v (.bool true))⟩
def t37 : Tell := ⟨166, [q30], (.v (.bool true))⟩
def t38 : Tell := ⟨110, [q32], (.v (.bool true))⟩
def t39 : Tell := ⟨81, [q13, q37], (.tup [q50, q14])⟩
def t40 : Tell := ⟨66, [q13, q37], q14⟩
def t41 : Tell := ⟨169, [q51, q53], (.v (.bool true))⟩
def t42 : Tell := ⟨169, [q54, q55], (.v (.bool true))⟩
def t43 : Tell := ⟨169, [q56, q57], (.v (.bool true))⟩
def t44 : Tell := ⟨169, [q58, q57], (.v (.bool true))⟩
def t45 : Tell := ⟨172, [q13, q59], (.v (.bool true))⟩
def t46 : Tell := ⟨169, [q54, q57], (.v (.bool true))⟩
def t47 : Tell := ⟨169, [.agg [q18, q18], q60], (.v (.bool true))⟩
def t48 : Tell := ⟨169, [q58, q60], (.v (.bool true))⟩
def t49 : Tell := ⟨169, [q58, q53], (.v (.bool true))⟩
def t50 : Tell := ⟨172, [q13, q61], (.v (.bool true))⟩
def t51 : Tell := ⟨113, [q13, q63], (.v (.bool true))⟩
def t52 : Tell := ⟨79, [q13, q64], q14⟩
def t53 : Tell := ⟨114, [q59, q61], (.v (.bool false))⟩
def t54 : Tell := ⟨80, [q65], q66⟩
def t55 : Tell := ⟨50, [q13, q63], q68⟩
def t56 : Tell := ⟨28, [q13, q63], q14⟩
def t57 : Tell := ⟨98, [q70], (.v (.bool true))⟩
def t58 : Tell := ⟨67, [q70], q14⟩
def t59 : Tell := ⟨63, [q13, q41], q4⟩
def t60 : Tell := ⟨197, [q71], (.v (.bool true))⟩
def t61 : Tell := ⟨260, [q4, q72], (.v (.bool true))⟩
def t62 : Tell := ⟨63, [q13, q43], q5⟩
def t63 : Tell := ⟨254, [q5, q73], (.v (.bool true))⟩
def t64 : Tell := ⟨63, [q13, q74], q8⟩
def t65 : Tell := ⟨197, [q75], (.v (.bool true))⟩
def t66 : Tell := ⟨257, [q8, q76], (.v (.bool true))⟩
def t67 : Tell := ⟨151, [q13, q77], (.v (.bool true))⟩
def t68 : Tell := ⟨158, [q41, q43], q78⟩
def t69 : Tell := ⟨158, [q43, q74], q78⟩
def t70 : Tell := ⟨152, [q77], (.v (.bool true))⟩
def t71 : Tell := ⟨211, [q77, q38], q79⟩
def t72 : Tell := ⟨210, [q4, q79], q80⟩
def t73 : Tell := ⟨211, [q77, q42], q81⟩
def t74 : Tell := ⟨210, [q5, q81], q82⟩
def t75 : Tell := ⟨211, [q77, q45], q83⟩
def t76 : Tell := ⟨210, [q8, q83], q84⟩
def t77 : Tell := ⟨153, [q13, q85], (.agg [.vs 2 [.agg [q10, .vs 1 [q80, q82] none], .agg [q11, .vs 1 [q84] none]] none])⟩
def t78 : Tell := ⟨99, [q13, q85], (.v (.bool true))⟩
def t79 : Tell := ⟨100, [q85], q86⟩
def t80 : Tell := ⟨158, [q43, q41], q22⟩
def t81 : Tell := ⟨68, [q13, q87], q88⟩
def t82 : Tell := ⟨40, [q89], q88⟩
def t83 : Tell := ⟨69, [q13, q70], q14⟩
def t84 : Tell := ⟨159, [q13, q70, q14], q90⟩
def t85 : Tell := ⟨159, [q13, q70, q22], q91⟩
def t86 : Tell := ⟨103, [q13, q70], (.vs 4 [q90, q91] none)⟩
def t87 : Tell := ⟨160, [q90, q14], q92⟩
def t88 : Tell := ⟨104, [q90, q14], q94⟩
def t89 : Tell := ⟨265, [q95, q92], (.v (.bool true))⟩
def t90 : Tell := ⟨160, [q90, q22], q95⟩
def t91 : Tell := ⟨104, [q90, q22], q97⟩
def t92 : Tell := ⟨265, [q98, q95], (.v (.bool false))⟩
def t93 : Tell := ⟨160, [q90, q18], q95⟩
def t94 : Tell := ⟨104, [q90, q18], q100⟩
def t95 : Tell := ⟨265, [q101, q95], (.v (.bool false))⟩
def t96 : Tell := ⟨160, [q90, q11], q95⟩
def t97 : Tell := ⟨104, [q90, q11], q103⟩
def t98 : Tell := ⟨265, [q105, q106], (.v (.bool true))⟩
def t99 : Tell := ⟨265, [q101, q98], (.v (.bool false))⟩
def t100 : Tell := ⟨160, [q90, q107], q98⟩
def t101 : Tell := ⟨104, [q90, q107], q108⟩
def t102 : Tell := ⟨265, [.agg [q22, q14, q10], .agg [q14, q22, q10]], (.v (.bool false))⟩
def t103 : Tell := ⟨265, [q109, q105], (.v (.bool false))⟩
def t104 : Tell := ⟨160, [q90, q52], q101⟩
def t105 : Tell := ⟨104, [q90, q52], q111⟩
def t106 : Tell := ⟨160, [q90, q67], q109⟩
def t107 : Tell := ⟨104, [q90, q67], q112⟩
def t108 : Tell := ⟨160, [q91, q14], q106⟩
def t109 : Tell := ⟨104, [q91, q14], q114⟩
def t110 : Tell := ⟨160, [q91, q22], q105⟩
def t111 : Tell := ⟨104, [q91, q22], q115⟩
def t112 : Tell := ⟨160, [q91, q18], q109⟩
def t113 : Tell := ⟨104, [q91, q18], q117⟩
def t114 : Tell := ⟨70, [q13, q70], q118⟩
def t115 : Tell := ⟨41, [q13, q70], (.tup [q118, q14])⟩
def t116 : Tell := ⟨24, [q89], q120⟩
def t117 : Tell := ⟨127, [q13, q38], (.tup [q14, q14])⟩
def t118 : Tell := ⟨86, [q13, q37, q38], (.tup [q50, q14, q14])⟩
def t119 : Tell := ⟨125, [q50, q14], q122⟩
def t120 : Tell := ⟨188, [q50, q0], q123⟩
def t121 : Tell := ⟨126, [q50, q0], q124⟩
def t122 : Tell := ⟨85, [q50, q14], q125⟩
def t123 : Tell := ⟨56, [q13, q37, q38], q126⟩
def t124 : Tell := ⟨163, [q13, q64], q14⟩
def t125 : Tell := ⟨63, [q13, q38], q4⟩
def t126 : Tell := ⟨62, [q13, q38], (.v (.bool true))⟩
def t127 : Tell := ⟨35, [q13, q38], q127⟩
def t128 : Tell := ⟨169, [q128, q55], (.v (.bool true))⟩
def t129 : Tell := ⟨220, [q65, q38], q130⟩
def t130 : Tell := ⟨164, [q65, q38], q131⟩
def t131 : Tell := ⟨107, [q13, q63, q38], q131⟩
def t132 : Tell := ⟨78, [q86, q38], q78⟩
def t133 : Tell := ⟨49, [q86, q38], (.v (.bool false))⟩
def t134 : Tell := ⟨108, [q119, q38], q31⟩
def t135 : Tell := ⟨74, [q119, q38, q0], q132⟩
def t136 : Tell := ⟨127, [q13, q39], (.tup [q22, q14])⟩
def t137 : Tell := ⟨86, [q13, q37, q39], (.tup [q50, q22, q14])⟩
def t138 : Tell := ⟨234, [q38, q38], q14⟩
def t139 : Tell := ⟨186, [q33, q122], q22⟩
def t140 : Tell := ⟨125, [q50, q22], q33⟩
def t141 : Tell := ⟨85, [q50, q22], q26⟩
def t142 : Tell := ⟨56, [q13, q37, q39], q133⟩
def t143 : Tell := ⟨63, [q13, q39], q4⟩
def t144 : Tell := ⟨62, [q13, q39], (.v (.bool true))⟩
def t145 : Tell := ⟨35, [q13, q39], q134⟩
def t146 : Tell := ⟨220, [q65, q39], q130⟩
def t147 : Tell := ⟨164, [q65, q39], q136⟩
def t148 : Tell := ⟨107, [q13, q63, q39], q136⟩
def t149 : Tell := ⟨78, [q86, q39], q78⟩
def t150 : Tell := ⟨49, [q86, q39], (.v (.bool false))⟩
def t151 : Tell := ⟨108, [q119, q39], q31⟩
def t152 : Tell := ⟨74, [q119, q39, q1], q137⟩
def t153 : Tell := ⟨127, [q13, q40], (.tup [q18, q14])⟩
def t154 : Tell := ⟨86, [q13, q37, q40], (.tup [q50, q18, q14])⟩
def t155 : Tell := ⟨125, [q50, q18], q122⟩
def t156 : Tell := ⟨188, [q50, q2], q123⟩
def t157 : Tell := ⟨126, [q50, q2], q138⟩
def t158 : Tell := ⟨85, [q50, q18], q139⟩
def t159 : Tell := ⟨56, [q13, q37, q40], (.tup [q139, q14])⟩
def t160 : Tell := ⟨63, [q13, q40], q4⟩
def t161 : Tell := ⟨62, [q13, q40], (.v (.bool true))⟩
def t162 : Tell := ⟨35, [q13, q40], (.tup [q2, q14])⟩
def t163 : Tell := ⟨220, [q65, q40], q130⟩
def t164 : Tell := ⟨164, [q65, q40], q140⟩
def t165 : Tell := ⟨107, [q13, q63, q40], q140⟩
def t166 : Tell := ⟨78, [q86, q40], q78⟩
def t167 : Tell := ⟨49, [q86, q40], (.v (.bool false))⟩
def t168 : Tell := ⟨108, [q119, q40], q31⟩
def t169 : Tell := ⟨74, [q119, q40, q2], q141⟩
def t170 : Tell := ⟨127, [q13, q41], (.tup [q11, q14])⟩
def t171 : Tell := ⟨86, [q13, q37, q41], (.tup [q50, q11, q14])⟩
def t172 : Tell := ⟨234, [q42, q41], q22⟩
def t173 : Tell := ⟨125, [q50, q11], q122⟩
def t174 : Tell := ⟨188, [q50, q3], q143⟩
def t175 : Tell := ⟨188, [q50, q142], q123⟩
def t176 : Tell := ⟨126, [q50, q3], q144⟩
def t177 : Tell := ⟨85, [q50, q11], q145⟩
def t178 : Tell := ⟨56, [q13, q37, q41], (.tup [q145, q14])⟩
def t179 : Tell := ⟨62, [q13, q41], (.v (.bool true))⟩
def t180 : Tell := ⟨35, [q13, q41], q146⟩
def t181 : Tell := ⟨220, [q65, q41], q130⟩
def t182 : Tell := ⟨164, [q65, q41], q148⟩
def t183 : Tell := ⟨107, [q13, q63, q41], q148⟩
def t184 : Tell := ⟨78, [q86, q41], q14⟩
def t185 : Tell := ⟨49, [q86, q41], (.v (.bool true))⟩
def t186 : Tell := ⟨108, [q119, q41], q25⟩
def t187 : Tell := ⟨74, [q119, q41, q3], q149⟩
def t188 : Tell := ⟨127, [q13, q42], (.tup [q107, q14])⟩
def t189 : Tell := ⟨86, [q13, q37, q42], (.tup [q50, q107, q14])⟩
def t190 : Tell := ⟨234, [q42, q42], q14⟩
def t191 : Tell := ⟨234, [q42, q38], q22⟩
def t192 : Tell := ⟨186, [q34, q122], q22⟩
def t193 : Tell := ⟨125, [q50, q107], q34⟩
def t194 : Tell := ⟨85, [q50, q107], q29⟩
def t195 : Tell := ⟨56, [q13, q37, q42], (.tup [q29, q14])⟩
def t196 : Tell := ⟨63, [q13, q42], q5⟩
def t197 : Tell := ⟨62, [q13, q42], (.v (.bool true))⟩
def t198 : Tell := ⟨35, [q13, q42], q146⟩
def t199 : Tell := ⟨169, [q128, q57], (.v (.bool false))⟩
def t200 : Tell := ⟨169, [q129, q57], (.v (.bool true))⟩
def t201 : Tell := ⟨220, [q65, q42], q150⟩
def t202 : Tell := ⟨164, [q65, q42], q151⟩
def t203 : Tell := ⟨107, [q13, q63, q42], q151⟩
def t204 : Tell := ⟨78, [q86, q42], q78⟩
def t205 : Tell := ⟨49, [q86, q42], (.v (.bool false))⟩
def t206 : Tell := ⟨108, [q119, q42], q31⟩
def t207 : Tell := ⟨74, [q119, q42, q3], q152⟩
def t208 : Tell := ⟨127, [q13, q43], (.tup [q52, q14])⟩
def t209 : Tell := ⟨86, [q13, q37, q43], (.tup [q50, q52, q14])⟩
def t210 : Tell := ⟨125, [q50, q52], q122⟩
def t211 : Tell := ⟨85, [q50, q52], q125⟩
def t212 : Tell := ⟨56, [q13, q37, q43], q126⟩
def t213 : Tell := ⟨62, [q13, q43], (.v (.bool true))⟩
def t214 : Tell := ⟨35, [q13, q43], q127⟩
def t215 : Tell := ⟨220, [q65, q43], q150⟩
def t216 : Tell := ⟨164, [q65, q43], q153⟩
def t217 : Tell := ⟨107, [q13, q63, q43], q153⟩
def t218 : Tell := ⟨78, [q86, q43], q22⟩
def t219 : Tell := ⟨49, [q86, q43], (.v (.bool true))⟩
def t220 : Tell := ⟨108, [q119, q43], q25⟩
def t221 : Tell := ⟨74, [q119, q43, q0], q154⟩
def t222 : Tell := ⟨127, [q13, q44], (.tup [q67, q14])⟩
def t223 : Tell := ⟨86, [q13, q37, q44], (.tup [q50, q67, q14])⟩
def t224 : Tell := ⟨125, [q50, q67], q33⟩
def t225 : Tell := ⟨85, [q50, q67], q26⟩
def t226 : Tell := ⟨56, [q13, q37, q44], q133⟩
def t227 : Tell := ⟨63, [q13, q44], q5⟩
def t228 : Tell := ⟨62, [q13, q44], (.v (.bool true))⟩
def t229 : Tell := ⟨35, [q13, q44], q134⟩
def t230 : Tell := ⟨220, [q65, q44], q150⟩
def t231 : Tell := ⟨164, [q65, q44], q156⟩
def t232 : Tell := ⟨107, [q13, q63, q44], q156⟩
def t233 : Tell := ⟨78, [q86, q44], q78⟩
def t234 : Tell := ⟨49, [q86, q44], (.v (.bool false))⟩
def t235 : Tell := ⟨108, [q119, q44], q31⟩
def t236 : Tell := ⟨74, [q119, q44, q1], q157⟩
def t237 : Tell := ⟨127, [q13, q45], (.tup [q10, q14])⟩
def t238 : Tell := ⟨86, [q13, q37, q45], (.tup [q50, q10, q14])⟩
def t239 : Tell := ⟨125, [q50, q10], q33⟩
def t240 : Tell := ⟨85, [q50, q10], q26⟩
def t241 : Tell := ⟨56, [q13, q37, q45], q133⟩
def t242 : Tell := ⟨63, [q13, q45], q8⟩
def t243 : Tell := ⟨62, [q13, q45], (.v (.bool true))⟩
def t244 : Tell := ⟨35, [q13, q45], q134⟩
def t245 : Tell := ⟨220, [q65, q45], q158⟩
def t246 : Tell := ⟨164, [q65, q45], q159⟩
def t247 : Tell := ⟨107, [q13, q63, q45], q159⟩
def t248 : Tell := ⟨78, [q86, q45], q78⟩
def t249 : Tell := ⟨49, [q86, q45], (.v (.bool false))⟩
def t250 : Tell := ⟨108, [q119, q45], q31⟩
def t251 : Tell := ⟨74, [q119, q45, q1], q160⟩
def t252 : Tell := ⟨127, [q13, q46], (.tup [q161, q14])⟩
def t253 : Tell := ⟨86, [q13, q37, q46], (.tup [q50, q161, q14])⟩
def t254 : Tell := ⟨125, [q50, q161], q122⟩
def t255 : Tell := ⟨188, [q50, q7], q123⟩
def t256 : Tell := ⟨126, [q50, q7], q162⟩
def t257 : Tell := ⟨85, [q50, q161], q163⟩
def t258 : Tell := ⟨56, [q13, q37, q46], (.tup [q163, q14])⟩
def t259 : Tell := ⟨63, [q13, q46], q8⟩
def t260 : Tell := ⟨62, [q13, q46], (.v (.bool true))⟩
def t261 : Tell := ⟨35, [q13, q46], (.tup [q7, q14])⟩
def t262 : Tell := ⟨220, [q65, q46], q158⟩
def t263 : Tell := ⟨164, [q65, q46], q159⟩
def t264 : Tell := ⟨107, [q13, q63, q46], q159⟩
def t265 : Tell := ⟨78, [q86, q46], q78⟩
def t266 : Tell := ⟨49, [q86, q46], (.v (.bool false))⟩
def t267 : Tell := ⟨108, [q119, q46], q31⟩
def t268 : Tell := ⟨74, [q119, q46, q7], q164⟩
def t269 : Tell := ⟨127, [q13, q47], (.tup [q165, q14])⟩
def t270 : Tell := ⟨86, [q13, q37, q47], (.tup [q50, q165, q14])⟩
def t271 : Tell := ⟨234, [q47, q38], q22⟩
def t272 : Tell := ⟨186, [q35, q33], q22⟩
def t273 : Tell := ⟨125, [q50, q165], q35⟩
def t274 : Tell := ⟨85, [q50, q165], q32⟩
def t275 : Tell := ⟨56, [q13, q37, q47], q166⟩
def t276 : Tell := ⟨63, [q13, q47], q8⟩
def t277 : Tell := ⟨62, [q13, q47], (.v (.bool true))⟩
def t278 : Tell := ⟨35, [q13, q47], q134⟩
def t279 : Tell := ⟨220, [q65, q47], q158⟩
def t280 : Tell := ⟨164, [q65, q47], q159⟩
def t281 : Tell := ⟨107, [q13, q63, q47], q159⟩
def t282 : Tell := ⟨78, [q86, q47], q78⟩
def t283 : Tell := ⟨49, [q86, q47], (.v (.bool false))⟩
def t284 : Tell := ⟨108, [q119, q47], q31⟩
def t285 : Tell := ⟨74, [q119, q47, q1], q167⟩
def t286 : Tell := ⟨44, [q119], (.vs 10 [q132, q137, q141, q149, q152, q154, q157, q160, q164, q167] none)⟩
def t287 : Tell := ⟨58, [q26, q125], q78⟩
def t288 : Tell := ⟨45, [q137, q132], q78⟩
def t289 : Tell := ⟨58, [q139, q125], q78⟩
def t290 : Tell := ⟨45, [q141, q132], q78⟩
def t291 : Tell := ⟨58, [q139, q26], q78⟩
def t292 : Tell := ⟨45, [q141, q137], q78⟩
def t293 : Tell := ⟨58, [q145, q125], q78⟩
def t294 : Tell := ⟨45, [q149, q132], q78⟩
def t295 : Tell := ⟨58, [q145, q26], q78⟩
def t296 : Tell := ⟨45, [q149, q137], q78⟩
def t297 : Tell := ⟨58, [q145, q139], q22⟩
def t298 : Tell := ⟨45, [q149, q141], q22⟩
def t299 : Tell := ⟨58, [q29, q125], q78⟩
def t300 : Tell := ⟨45, [q152, q132], q78⟩
def t301 : Tell := ⟨58, [q29, q26], q78⟩
def t302 : Tell := ⟨45, [q152, q137], q78⟩
def t303 : Tell := ⟨58, [q29, q145], q78⟩
def t304 : Tell := ⟨45, [q152, q149], q78⟩
def t305 : Tell := ⟨58, [q29, q139], q78⟩
def t306 : Tell := ⟨45, [q152, q141], q78⟩
def t307 : Tell := ⟨58, [q125, q125], q14⟩
def t308 : Tell := ⟨45, [q154, q132], q14⟩
def t309 : Tell := ⟨45, [q157, q154], q78⟩
def t310 : Tell := ⟨45, [q157, q132], q78⟩
def t311 : Tell := ⟨58, [q26, q26], q14⟩
def t312 : Tell := ⟨45, [q157, q137], q14⟩
def t313 : Tell := ⟨45, [q160, q154], q78⟩
def t314 : Tell := ⟨45, [q160, q132], q78⟩
def t315 : Tell := ⟨45, [q160, q157], q14⟩
def t316 : Tell := ⟨58, [q163, q125], q78⟩
def t317 : Tell := ⟨45, [q164, q154], q78⟩
def t318 : Tell := ⟨45, [q164, q132], q78⟩
def t319 : Tell := ⟨58, [q163, q26], q78⟩
def t320 : Tell := ⟨45, [q164, q160], q78⟩
def t321 : Tell := ⟨45, [q164, q157], q78⟩
def t322 : Tell := ⟨45, [q164, q137], q78⟩
def t323 : Tell := ⟨58, [q163, q145], q78⟩
def t324 : Tell := ⟨45, [q164, q149], q78⟩
def t325 : Tell := ⟨58, [q163, q139], q78⟩
def t326 : Tell := ⟨45, [q164, q141], q78⟩
def t327 : Tell := ⟨58, [q163, q29], q22⟩
def t328 : Tell := ⟨45, [q164, q152], q22⟩
def t329 : Tell := ⟨58, [q32, q125], q78⟩
def t330 : Tell := ⟨45, [q167, q154], q78⟩
def t331 : Tell := ⟨45, [q167, q132], q78⟩
def t332 : Tell := ⟨58, [q32, q26], q22⟩
def t333 : Tell := ⟨45, [q167, q160], q22⟩
def t334 : Tell := ⟨25, [q119], q187⟩
def t335 : Tell := ⟨5, [q89], (.tup [q187, q14])⟩
def t336 : Tell := ⟨53, [q50], q188⟩
def t337 : Tell := ⟨168, [q188, q26], q22⟩
def t338 : Tell := ⟨111, [q188, q26], (.v (.bool true))⟩
def t339 : Tell := ⟨77, [q13, q37, q26], (.tup [q50, .fn (.func 112) [] [.ro (.agg [q188]) 0, .ro q26 0], q14])⟩
def t340 : Tell := ⟨46, [q13, q37, q26], q190⟩
def t341 : Tell := ⟨78, [q189, q38], q78⟩
def t342 : Tell := ⟨49, [q189, q38], (.v (.bool false))⟩
def t343 : Tell := ⟨78, [q189, q39], q14⟩
def t344 : Tell := ⟨49, [q189, q39], (.v (.bool true))⟩
def t345 : Tell := ⟨78, [q189, q40], q78⟩
def t346 : Tell := ⟨49, [q189, q40], (.v (.bool false))⟩
def t347 : Tell := ⟨78, [q189, q41], q78⟩
def t348 : Tell := ⟨49, [q189, q41], (.v (.bool false))⟩
def t349 : Tell := ⟨78, [q189, q42], q78⟩
def t350 : Tell := ⟨49, [q189, q42], (.v (.bool false))⟩
def t351 : Tell := ⟨78, [q189, q43], q78⟩
def t352 : Tell := ⟨49, [q189, q43], (.v (.bool false))⟩
def t353 : Tell := ⟨78, [q189, q44], q22⟩
def t354 : Tell := ⟨49, [q189, q44], (.v (.bool true))⟩
def t355 : Tell := ⟨78, [q189, q45], q18⟩
def t356 : Tell := ⟨49, [q189, q45], (.v (.bool true))⟩
def t357 : Tell := ⟨78, [q189, q46], q78⟩
def t358 : Tell := ⟨49, [q189, q46], (.v (.bool false))⟩
def t359 : Tell := ⟨78, [q189, q47], q78⟩
def t360 : Tell := ⟨49, [q189, q47], (.v (.bool false))⟩
def t361 : Tell := ⟨26, [q89, q26], (.tup [q191, q14])⟩
def t362 : Tell := ⟨108, [q191, q39], q31⟩
def t363 : Tell := ⟨74, [q191, q39, q1], q137⟩
def t364 : Tell := ⟨108, [q191, q44], q31⟩
def t365 : Tell := ⟨74, [q191, q44, q1], q157⟩
def t366 : Tell := ⟨108, [q191, q45], q31⟩
def t367 : Tell := ⟨74, [q191, q45, q1], q160⟩
def t368 : Tell := ⟨44, [q191], (.vs 10 [q137, q157, q160] none)⟩
def t369 : Tell := ⟨25, [q191], (.agg [.vs 3 [q179] none])⟩
def t370 : Tell := ⟨7, [q89, q26], (.tup [q179, q14])⟩
def t371 : Tell := ⟨169, [q51, .vs 1 [q67] (some 1)], (.v (.bool true))⟩
def t372 : Tell := ⟨169, [q56, q60], (.v (.bool true))⟩
def t373 : Tell := ⟨169, [q58, .vs 1 [q10] (some 1)], (.v (.bool true))⟩
def t374 : Tell := ⟨169, [.agg [q22, .v (.int .i64 998)], q57], (.v (.bool true))⟩
def t375 : Tell := ⟨172, [q13, q192], (.v (.bool true))⟩
def t376 : Tell := ⟨169, [q58, .vs 1 [q11] (some 1)], (.v (.bool true))⟩
def t377 : Tell := ⟨172, [q13, q193], (.v (.bool true))⟩
def t378 : Tell := ⟨113, [q13, q195], (.v (.bool true))⟩
def t379 : Tell := ⟨79, [q13, q196], q14⟩
def t380 : Tell := ⟨114, [q192, q193], (.v (.bool false))⟩
def t381 : Tell := ⟨80, [q197], q66⟩
def t382 : Tell := ⟨50, [q13, q195], q68⟩
def t383 : Tell := ⟨28, [q13, q195], q14⟩
def t384 : Tell := ⟨163, [q13, q196], q14⟩
def t385 : Tell := ⟨220, [q197, q38], q198⟩
def t386 : Tell := ⟨164, [q197, q38], q199⟩
def t387 : Tell := ⟨107, [q13, q195, q38], q199⟩
def t388 : Tell := ⟨108, [q200, q38], q31⟩
def t389 : Tell := ⟨74, [q200, q38, q0], q201⟩
def t390 : Tell := ⟨220, [q197, q39], q198⟩
def t391 : Tell := ⟨164, [q197, q39], q203⟩
def t392 : Tell := ⟨107, [q13, q195, q39], q203⟩
def t393 : Tell := ⟨108, [q200, q39], q31⟩
def t394 : Tell := ⟨74, [q200, q39, q1], q204⟩
def t395 : Tell := ⟨220, [q197, q40], q198⟩
def t396 : Tell := ⟨164, [q197, q40], q205⟩
def t397 : Tell := ⟨107, [q13, q195, q40], q205⟩
def t398 : Tell := ⟨108, [q200, q40], q31⟩
def t399 : Tell := ⟨74, [q200, q40, q2], q206⟩
def t400 : Tell := ⟨220, [q197, q41], q198⟩
def t401 : Tell := ⟨164, [q197, q41], q207⟩
def t402 : Tell := ⟨107, [q13, q195, q41], q207⟩
def t403 : Tell := ⟨108, [q200, q41], q25⟩
def t404 : Tell := ⟨74, [q200, q41, q3], q208⟩
def t405 : Tell := ⟨220, [q197, q42], q209⟩
def t406 : Tell := ⟨164, [q197, q42], q210⟩
def t407 : Tell := ⟨107, [q13, q195, q42], q210⟩
def t408 : Tell := ⟨108, [q200, q42], q31⟩
def t409 : Tell := ⟨74, [q200, q42, q3], q211⟩
def t410 : Tell := ⟨220, [q197, q43], q209⟩
def t411 : Tell := ⟨164, [q197, q43], q212⟩
def t412 : Tell := ⟨107, [q13, q195, q43], q212⟩
def t413 : Tell := ⟨108, [q200, q43], q25⟩
def t414 : Tell := ⟨74, [q200, q43, q0], q213⟩
def t415 : Tell := ⟨220, [q197, q44], q209⟩
def t416 : Tell := ⟨164, [q197, q44], q215⟩
def t417 : Tell := ⟨107, [q13, q195, q44], q215⟩
def t418 : Tell := ⟨108, [q200, q44], q31⟩
def t419 : Tell := ⟨74, [q200, q44, q1], q216⟩
def t420 : Tell := ⟨220, [q197, q45], q217⟩
def t421 : Tell := ⟨164, [q197, q45], q219⟩
def t422 : Tell := ⟨107, [q13, q195, q45], q219⟩
def t423 : Tell := ⟨108, [q200, q45], q31⟩
def t424 : Tell := ⟨74, [q200, q45, q1], q220⟩
def t425 : Tell := ⟨220, [q197, q46], q217⟩
def t426 : Tell := ⟨164, [q197, q46], q221⟩
def t427 : Tell := ⟨107, [q13, q195, q46], q221⟩
def t428 : Tell := ⟨108, [q200, q46], q31⟩
def t429 : Tell := ⟨74, [q200, q46, q7], q222⟩
def t430 : Tell := ⟨220, [q197, q47], q217⟩
def t431 : Tell := ⟨164, [q197, q47], q223⟩
def t432 : Tell := ⟨107, [q13, q195, q47], q223⟩
def t433 : Tell := ⟨108, [q200, q47], q31⟩
def t434 : Tell := ⟨74, [q200, q47, q1], q224⟩
def t435 : Tell := ⟨44, [q200], (.vs 10 [q201, q204, q206, q208, q211, q213, q216, q220, q222, q224] none)⟩
def t436 : Tell := ⟨45, [q204, q201], q78⟩
def t437 : Tell := ⟨45, [q206, q201], q78⟩
def t438 : Tell := ⟨45, [q206, q204], q78⟩
def t439 : Tell := ⟨45, [q208, q201], q78⟩
def t440 : Tell := ⟨45, [q208, q204], q78⟩
def t441 : Tell := ⟨45, [q208, q206], q22⟩
def t442 : Tell := ⟨45, [q211, q201], q78⟩
def t443 : Tell := ⟨45, [q211, q204], q78⟩
def t444 : Tell := ⟨45, [q211, q208], q78⟩
def t445 : Tell := ⟨45, [q211, q206], q78⟩
def t446 : Tell := ⟨45, [q213, q201], q14⟩
def t447 : Tell := ⟨45, [q216, q213], q78⟩
def t448 : Tell := ⟨45, [q216, q201], q78⟩
def t449 : Tell := ⟨45, [q216, q204], q14⟩
def t450 : Tell := ⟨45, [q220, q213], q78⟩
def t451 : Tell := ⟨45, [q220, q201], q78⟩
def t452 : Tell := ⟨45, [q220, q216], q14⟩
def t453 : Tell := ⟨45, [q222, q213], q78⟩
def t454 : Tell := ⟨45, [q222, q201], q78⟩
def t455 : Tell := ⟨45, [q222, q220], q78⟩
def t456 : Tell := ⟨45, [q222, q216], q78⟩
def t457 : Tell := ⟨45, [q222, q204], q78⟩
def t458 : Tell := ⟨45, [q222, q208], q78⟩
def t459 : Tell := ⟨45, [q222, q206], q78⟩
def t460 : Tell := ⟨45, [q222, q211], q22⟩
def t461 : Tell := ⟨45, [q224, q213], q78⟩
def t462 : Tell := ⟨45, [q224, q201], q78⟩
def t463 : Tell := ⟨45, [q224, q220], q22⟩
def t464 : Tell := ⟨25, [q200], q231⟩
def t465 : Tell := ⟨12, [q89, q195], (.tup [q231, q14])⟩
def t466 : Tell := ⟨37, [q187], (.v (.bool true))⟩
def t467 : Tell := ⟨16, [q187], (.tup [.v (.int .i64 10), q18, q14])⟩
def t468 : Tell := ⟨29, [q89], q14⟩
def t469 : Tell := ⟨82, [.vs 1 [q36, .vs 9 [q232] (some 1)] (some 2)], q233⟩
def t470 : Tell := ⟨229, [q50, q33], (.v (.bool true))⟩
def t471 : Tell := ⟨117, [q50, q33], (.v (.bool true))⟩
def t472 : Tell := ⟨78, [q48, q42], q107⟩
def t473 : Tell := ⟨49, [q48, q42], (.v (.bool true))⟩
def t474 : Tell := ⟨232, [q50, q42], (.v (.bool true))⟩
def t475 : Tell := ⟨231, [q50, q34], (.v (.bool true))⟩
def t476 : Tell := ⟨117, [q50, q34], (.v (.bool true))⟩
def t477 : Tell := ⟨78, [q48, q47], q165⟩
def t478 : Tell := ⟨49, [q48, q47], (.v (.bool true))⟩
def t479 : Tell := ⟨232, [q50, q47], (.v (.bool true))⟩
def t480 : Tell := ⟨235, [q50, q35], (.v (.bool true))⟩
def t481 : Tell := ⟨117, [q50, q35], (.v (.bool true))⟩
def t482 : Tell := ⟨229, [q50, q232], (.v (.bool true))⟩
def t483 : Tell := ⟨117, [q50, q232], (.v (.bool true))⟩
def t484 : Tell := ⟨83, [q50, q233], (.v (.bool true))⟩
def t485 : Tell := ⟨84, [q50, q233], q234⟩
def t486 : Tell := ⟨51, [q13, q37, q232], (.tup [q50, q234, q14])⟩
def t487 : Tell := ⟨30, [q13, q37, q232], (.tup [q235, q14])⟩
def t488 : Tell := ⟨125, [q234, q14], q122⟩
def t489 : Tell := ⟨188, [q234, q0], q123⟩
def t490 : Tell := ⟨126, [q234, q0], q124⟩
def t491 : Tell := ⟨85, [q234, q14], q125⟩
def t492 : Tell := ⟨186, [q232, q33], q22⟩
def t493 : Tell := ⟨125, [q234, q22], q232⟩
def t494 : Tell := ⟨85, [q234, q22], q32⟩
def t495 : Tell := ⟨125, [q234, q18], q122⟩
def t496 : Tell := ⟨188, [q234, q2], q123⟩
def t497 : Tell := ⟨126, [q234, q2], q138⟩
def t498 : Tell := ⟨85, [q234, q18], q139⟩
def t499 : Tell := ⟨125, [q234, q11], q122⟩
def t500 : Tell := ⟨188, [q234, q3], q143⟩
def t501 : Tell := ⟨188, [q234, q142], q123⟩
def t502 : Tell := ⟨126, [q234, q3], q144⟩
def t503 : Tell := ⟨85, [q234, q11], q145⟩
def t504 : Tell := ⟨125, [q234, q107], q34⟩
def t505 : Tell := ⟨85, [q234, q107], q29⟩
def t506 : Tell := ⟨125, [q234, q52], q122⟩
def t507 : Tell := ⟨85, [q234, q52], q125⟩
def t508 : Tell := ⟨125, [q234, q67], q232⟩
def t509 : Tell := ⟨85, [q234, q67], q32⟩
def t510 : Tell := ⟨125, [q234, q10], q232⟩
def t511 : Tell := ⟨85, [q234, q10], q32⟩
def t512 : Tell := ⟨125, [q234, q161], q122⟩
def t513 : Tell := ⟨188, [q234, q7], q123⟩
def t514 : Tell := ⟨126, [q234, q7], q162⟩
def t515 : Tell := ⟨85, [q234, q161], q163⟩
def t516 : Tell := ⟨234, [q38, q47], q78⟩
def t517 : Tell := ⟨186, [q232, q35], q78⟩
def t518 : Tell := ⟨125, [q234, q165], q35⟩
def t519 : Tell := ⟨85, [q234, q165], q32⟩
def t520 : Tell := ⟨53, [q234], (.vs 2 [q125, q32, q139, q145, q29, q125, q32, q32, q163, q32] none)⟩
def t521 : Tell := ⟨31, [q13, q37, q232], q190⟩
def t522 : Tell := ⟨81, [q13, q235], (.tup [q234, q14])⟩
def t523 : Tell := ⟨86, [q13, q235, q39], (.tup [q234, q22, q14])⟩
def t524 : Tell := ⟨56, [q13, q235, q39], q166⟩
def t525 : Tell := ⟨86, [q13, q235, q44], (.tup [q234, q67, q14])⟩
def t526 : Tell := ⟨56, [q13, q235, q44], q166⟩
def t527 : Tell := ⟨86, [q13, q235, q45], (.tup [q234, q10, q14])⟩
def t528 : Tell := ⟨56, [q13, q235, q45], q166⟩
def t529 : Tell := ⟨58, [q26, q32], q78⟩
def t530 : Tell := ⟨58, [q32, q32], q14⟩
def t531 : Tell := ⟨32, [q13, q189, .vs 2 [q37, q235] (some 2)], q236⟩
def t532 : Tell := ⟨13, [q89, q232], (.tup [q236, q14])⟩
def t533 : Tell := ⟨33, [q89, q187], q120⟩
def t534 : Tell := ⟨15, [q89, q187, q47], (.tup [q52, q14, q14, q14])⟩
def t535 : Tell := ⟨19, [q135, q155, q38], q238⟩
def t536 : Tell := ⟨27, [q177, q237], (.v (.bool true))⟩
def t537 : Tell := ⟨11, [q179, q238], (.v (.bool true))⟩
def t538 : Tell := ⟨19, [q202, q214, q218], q240⟩
def t539 : Tell := ⟨27, [q228, q239], (.v (.bool true))⟩
def t540 : Tell := ⟨11, [q229, q240], (.v (.bool true))⟩
def t541 : Tell := ⟨20, [q236, .vs 2 [q26, q32] (some 2)], (.v (.bool true))⟩
def u542 : TellH := ⟨14, [q89, .agg [.sl 22 6 0 7 none]], [o241, o242, o243, o241, o244, o244, o245, o246, none, none, none, none, none, none, none, o247, none, o248, o249, none, none, o250, o251, o252, o253, none, none, none, none, none, none, none, o254, none, o255, o256, none, none, o257, o258, o259, none, none, none, none, none, none, none, o260, none, o261, o262, none, none, o263, o264, o265, none, none, none, none, none, none, none, o266, none, o267, o268, none, none, o269, o270, o271, none, none, none, none, none, none, none, o272, none, o273, o274, none, none, o275, o276, o277, none, none, none, none, none, none, none, o278, none, o279, o280, none, none, o281, o282, o283, none, none, none, none, none, none, none, o284, none, o285, o286, none, none, o287, o244, none, none, none, some .dead, some .dead, some .dead, some .dead, some .dead], (.tup [.vs 3 [q45] none, q14])⟩
def t543 : Tell := ⟨253, [.vs 1 [q22, q22, q18] (some 3)], q288⟩
def t544 : Tell := ⟨202, [q135], q288⟩
def t545 : Tell := ⟨201, [q174, q97], q288⟩
def t546 : Tell := ⟨97, [q191, q174], (.vs 1 [q288, q17, q289, q290, q291, q292] none)⟩
def t547 : Tell := ⟨253, [.vs 1 [q18, q52, q11] (some 3)], q293⟩
def t548 : Tell := ⟨202, [q155], q293⟩
def t549 : Tell := ⟨201, [q175, q112], q293⟩
def t550 : Tell := ⟨97, [q191, q175], (.vs 1 [q293, q17, q289, q294, q291, q17] none)⟩
def t551 : Tell := ⟨202, [q38], q295⟩
def t552 : Tell := ⟨201, [q176, q114], q295⟩
def t553 : Tell := ⟨97, [q191, q176], (.vs 1 [q295, q17, q289, q17, q291, q296] none)⟩
def t554 : Tell := ⟨65, [q191, q179], q302⟩
def t555 : Tell := ⟨38, [q89, q26], (.tup [q302, q14])⟩
def t556 : Tell := ⟨39, [q302, q303], (.v (.bool true))⟩
def t557 : Tell := ⟨23, [q26, q303], (.v (.bool true))⟩
def t558 : Tell := ⟨270, [q142, q15], q17⟩
def t559 : Tell := ⟨223, [q142], (.v (.bool true))⟩
def t560 : Tell := ⟨166, [q142], (.v (.bool true))⟩
def t561 : Tell := ⟨110, [q145], (.v (.bool true))⟩
def t562 : Tell := ⟨168, [q188, q145], q11⟩
def t563 : Tell := ⟨111, [q188, q145], (.v (.bool true))⟩
def t564 : Tell := ⟨77, [q13, q37, q145], (.tup [q50, .fn (.func 112) [] [.ro (.agg [q188]) 0, .ro q145 0], q14])⟩
def t565 : Tell := ⟨46, [q13, q37, q145], (.tup [q304, q14])⟩
def t566 : Tell := ⟨78, [q304, q38], q78⟩
def t567 : Tell := ⟨49, [q304, q38], (.v (.bool false))⟩
def t568 : Tell := ⟨78, [q304, q39], q78⟩
def t569 : Tell := ⟨49, [q304, q39], (.v (.bool false))⟩
def t570 : Tell := ⟨78, [q304, q40], q78⟩
def t571 : Tell := ⟨49, [q304, q40], (.v (.bool false))⟩
def t572 : Tell := ⟨78, [q304, q41], q14⟩
def t573 : Tell := ⟨49, [q304, q41], (.v (.bool true))⟩
def t574 : Tell := ⟨78, [q304, q42], q78⟩
def t575 : Tell := ⟨49, [q304, q42], (.v (.bool false))⟩
def t576 : Tell := ⟨78, [q304, q43], q78⟩
def t577 : Tell := ⟨49, [q304, q43], (.v (.bool false))⟩
def t578 : Tell := ⟨78, [q304, q44], q78⟩
def t579 : Tell := ⟨49, [q304, q44], (.v (.bool false))⟩
def t580 : Tell := ⟨78, [q304, q45], q78⟩
def t581 : Tell := ⟨49, [q304, q45], (.v (.bool false))⟩
def t582 : Tell := ⟨78, [q304, q46], q78⟩
def t583 : Tell := ⟨49, [q304, q46], (.v (.bool false))⟩
def t584 : Tell := ⟨78, [q304, q47], q78⟩
def t585 : Tell := ⟨49, [q304, q47], (.v (.bool false))⟩
def t586 : Tell := ⟨26, [q89, q145], (.tup [q305, q14])⟩
def t587 : Tell := ⟨108, [q305, q41], q25⟩
def t588 : Tell := ⟨74, [q305, q41, q3], q149⟩
def t589 : Tell := ⟨44, [q305], (.vs 10 [q149] none)⟩
def t590 : Tell := ⟨25, [q305], (.agg [.vs 3 [q173] none])⟩
def t591 : Tell := ⟨253, [.vs 1 [q22, q22, q107] (some 3)], q306⟩
def t592 : Tell := ⟨202, [q147], q306⟩
def t593 : Tell := ⟨201, [q171, q103], q306⟩
def t594 : Tell := ⟨97, [q305, q171], (.vs 1 [q306, q307, q289, q308, q309, q294] none)⟩
def t595 : Tell := ⟨65, [q305, q173], q312⟩
def t596 : Tell := ⟨38, [q89, q145], (.tup [q312, q14])⟩
def t597 : Tell := ⟨39, [q312, q313], (.v (.bool true))⟩
def t598 : Tell := ⟨23, [q145, q313], (.v (.bool true))⟩
def t599 : Tell := ⟨4, [], (.v (.bool true))⟩
def t600 : Tell := ⟨270, [q0, q15], q17⟩
def t601 : Tell := ⟨223, [q0], (.v (.bool true))⟩
def t602 : Tell := ⟨166, [q0], (.v (.bool true))⟩
def t603 : Tell := ⟨110, [q125], (.v (.bool true))⟩
def t604 : Tell := ⟨168, [q188, q125], q14⟩
def t605 : Tell := ⟨111, [q188, q125], (.v (.bool true))⟩
def t606 : Tell := ⟨77, [q13, q37, q125], (.tup [q50, .fn (.func 112) [] [.ro (.agg [q188]) 0, .ro q125 0], q14])⟩
def t607 : Tell := ⟨46, [q13, q37, q125], (.tup [q314, q14])⟩
def t608 : Tell := ⟨78, [q314, q38], q14⟩
def t609 : Tell := ⟨49, [q314, q38], (.v (.bool true))⟩
def t610 : Tell := ⟨78, [q314, q39], q78⟩
def t611 : Tell := ⟨49, [q314, q39], (.v (.bool false))⟩
def t612 : Tell := ⟨78, [q314, q40], q78⟩
def t613 : Tell := ⟨49, [q314, q40], (.v (.bool false))⟩
def t614 : Tell := ⟨78, [q314, q41], q78⟩
def t615 : Tell := ⟨49, [q314, q41], (.v (.bool false))⟩
def t616 : Tell := ⟨78, [q314, q42], q78⟩
def t617 : Tell := ⟨49, [q314, q42], (.v (.bool false))⟩
def t618 : Tell := ⟨78, [q314, q43], q22⟩
def t619 : Tell := ⟨49, [q314, q43], (.v (.bool true))⟩
def t620 : Tell := ⟨78, [q314, q44], q78⟩
def t621 : Tell := ⟨49, [q314, q44], (.v (.bool false))⟩
def t622 : Tell := ⟨78, [q314, q45], q78⟩
def t623 : Tell := ⟨49, [q314, q45], (.v (.bool false))⟩
def t624 : Tell := ⟨78, [q314, q46], q78⟩
def t625 : Tell := ⟨49, [q314, q46], (.v (.bool false))⟩
def t626 : Tell := ⟨78, [q314, q47], q78⟩
def t627 : Tell := ⟨49, [q314, q47], (.v (.bool false))⟩
def t628 : Tell := ⟨26, [q89, q125], (.tup [q315, q14])⟩
def t629 : Tell := ⟨108, [q315, q38], q31⟩
def t630 : Tell := ⟨74, [q315, q38, q0], q132⟩
def t631 : Tell := ⟨108, [q315, q43], q25⟩
def t632 : Tell := ⟨74, [q315, q43, q0], q154⟩
def t633 : Tell := ⟨44, [q315], (.vs 10 [q132, q154] none)⟩
def t634 : Tell := ⟨25, [q315], (.agg [.vs 3 [q185] none])⟩
def t635 : Tell := ⟨7, [q89, q125], (.tup [q185, q14])⟩
def t636 : Tell := ⟨27, [q183, q316], (.v (.bool true))⟩
def t637 : Tell := ⟨11, [q185, .agg [q0, q121, q317]], (.v (.bool true))⟩
def u638 : TellH := ⟨66, [.agg [.sl 9 0 0 2 (some 2)], .agg [.sl 12 0 0 2 (some 2), .sl 13 0 0 3 (some 3)]], [o241, o318, o319, o320, o321, o322, o323, o324, o325, o326, o327, o328, o329, o330, o331, o332, o321, o322, o333, o324, o334, o335, o327, o336, o329, o330, o337, o338, o321, o322, o339, o324, o340, o341, o327, o342, o329, o330, o337, o343, o321, o322, o344, o324, o345, o346, o327, o347, o348, o330, o337, o320, o349, o350, o343, o352, o353, o354, o320, o355, o320, o356, o320], q14⟩
def t639 : Tell := ⟨114, [q59, q59], (.v (.bool true))⟩
def u640 : TellH := ⟨66, [.agg [.sl 21 0 0 2 (some 2)], .agg [.sl 24 0 0 2 (some 2), .sl 25 0 0 3 (some 3)]], [o241, o318, o319, o320, o321, o322, o323, o324, o325, o326, o327, o328, o329, o330, o331, o332, o321, o322, o333, o324, o334, o335, o327, o336, o329, o330, o337, o338, o321, o322, o339, o324, o340, o341, o327, o342, o329, o330, o337, o343, o321, o322, o344, o324, o345, o346, o327, o347, o348, o330, o337, o320, o349, o350, o343, o352, o353, o354, o349, o355, o349, o356, o349], q14⟩
def t641 : Tell := ⟨98, [q357], (.v (.bool false))⟩
def t642 : Tell := ⟨67, [q357], (.v (.int .i64 30))⟩
def u643 : TellH := ⟨66, [.agg [.sl 33 0 0 2 (some 2)], .agg [.sl 36 0 0 2 (some 2), .sl 37 0 0 3 (some 3)]], [o241, o318, o319, o320, o321, o322, o323, o324, o325, o326, o327, o328, o329, o330, o331, o332, o321, o322, o333, o324, o334, o335, o327, o336, o329, o330, o337, o338, o321, o322, o339, o324, o340, o341, o327, o342, o329, o330, o337, o343, o321, o322, o344, o324, o345, o346, o327, o347, o348, o330, o337, o320, o349, o350, o343, o352, o353, o354, o350, o355, o350, o356, o350], q14⟩
def u644 : TellH := ⟨40, [.agg [.sl 33 0 0 2 (some 2), .sl 55 0 0 6 (some 6), .sl 36 0 0 2 (some 2), .sl 37 0 0 3 (some 3), q52, .sl 38 0 0 2 (some 2), q69, q28]], [o241, o318, o319, o320, o321, o322, o323, o324, o325, o326, o327, o328, o329, o330, o331, o332, o321, o322, o333, o324, o334, o335, o327, o336, o329, o330, o337, o338, o321, o322, o339, o324, o340, o341, o327, o342, o329, o330, o337, o343, o321, o322, o344, o324, o345, o346, o327, o347, o348, o330, o337, o320, o349, o350, o343, o352, o353, o354, o350, o355, o350, o356], (.tup [q351, q107])⟩
def t645 : Tell := ⟨178, [q358], (.v (.bool false))⟩
def t646 : Tell := ⟨177, [q358], (.v (.bool true))⟩
def t647 : Tell := ⟨110, [q359], (.v (.bool true))⟩
def t648 : Tell := ⟨168, [q188, q359], q78⟩
def t649 : Tell := ⟨111, [q188, q359], (.v (.bool false))⟩
def t650 : Tell := ⟨77, [q13, q37, q359], (.tup [q360, .v .nilFunc, q67])⟩
def t651 : Tell := ⟨46, [q13, q37, q359], (.tup [q351, q67])⟩
def t652 : Tell := ⟨26, [q89, q359], (.tup [.agg [q351, q351, q351, q351, q14, q351, q14, q121, q351, q351], q67])⟩
def t653 : Tell := ⟨7, [q89, q359], (.tup [.agg [q17, q121, q351], q67])⟩
def t654 : Tell := ⟨82, [.vs 1 [q36, .vs 9 [q122] (some 1)] (some 2)], q361⟩
def t655 : Tell := ⟨117, [q50, q122], (.v (.bool false))⟩
def t656 : Tell := ⟨83, [q50, q361], (.v (.bool false))⟩
def t657 : Tell := ⟨51, [q13, q37, q122], (.tup [q360, q360, q362])⟩
def t658 : Tell := ⟨30, [q13, q37, q122], (.tup [.agg [q351, q351], q362])⟩
def t659 : Tell := ⟨13, [q89, q122], (.tup [q351, q362])⟩
def t660 : Tell := ⟨62, [q13, q74], (.v (.bool false))⟩
def t661 : Tell := ⟨35, [q13, q74], (.tup [q17, q363])⟩
def t662 : Tell := ⟨15, [q89, q187, q74], (.tup [q14, q14, q14, q363])⟩
def t663 : Tell := ⟨37, [q364], (.v (.bool true))⟩
def t664 : Tell := ⟨33, [q89, q364], q120⟩
def t665 : Tell := ⟨15, [q89, q364, q47], (.tup [q14, q14, q14, q67])⟩
end Go.Ev
/- What calls answer that are met. Made by program. -/
namespace Go.Ev
set_option maxRecDepth 1000000
/- postil/leaf.isWord -/
theorem g0 : Good t0 := good [] trivial [] trivial (by kernel_rfl) (by kernel_rfl)
/- postil/leaf.isWord -/
theorem g1 : Good t1 := good [] trivial [] trivial (by kernel_rfl) (by kernel_rfl)
/- postil/leaf.isWord -/
theorem g2 : Good t2 := good [] trivial [] trivial (by kernel_rfl) (by kernel_rfl)
/- postil/leaf.isWord -/
theorem g3 : Good t3 := good [] trivial [] trivial (by kernel_rfl) (by kernel_rfl)
/- postil/leaf.isLines -/
theorem g4 : Good t4 := good [t0, t1, t2, t3] ⟨g0, g1, g2, g3, trivial⟩ [] trivial (by kernel_rfl) (by kernel_rfl)
/- postil/leaf.isWord -/
theorem g5 : Good t5 := good [] trivial [] trivial (by kernel_rfl) (by kernel_rfl)
/- postil/leaf.isLines -/
theorem g6 : Good t6 := good [t1, t5] ⟨g1, g5, trivial⟩ [] trivial (by kernel_rfl) (by kernel_rfl)
/- postil/leaf.isText -/
theorem g7 : Good t7 := good [t4, t6] ⟨g4, g6, trivial⟩ [] trivial (by kernel_rfl) (by kernel_rfl)
/- postil/leaf.begin -/
theorem g8 : Good t8 := good [t7] ⟨g7, trivial⟩ [] trivial (by kernel_rfl) (by kernel_rfl)
/- postil/leaf.Check -/
theorem g9 : Good t9 := good [t8] ⟨g8, trivial⟩ [] trivial (by kernel_rfl) (by kernel_rfl)
/- strings.makeASCIISet -/
theorem g10 : Good t10 := good [] trivial [] trivial (by kernel_rfl) (by kernel_rfl)
/- strings.Trim -/
theorem g11 : Good t11 := good [t10] ⟨g10, trivial⟩ [] trivial (by kernel_rfl) (by kernel_rfl)
/- postil/stem.areLetters -/
theorem g12 : Good t12 := good [t11] ⟨g11, trivial⟩ [] trivial (by kernel_rfl) (by kernel_rfl)
/- strings.Trim -/
theorem g13 : Good t13 := good [] trivial [] trivial (by kernel_rfl) (by kernel_rfl)
/- postil/stem.areLetters -/
theorem g14 : Good t14 := good [t13] ⟨g13, trivial⟩ [] trivial (by kernel_rfl) (by kernel_rfl)
/- postil/stem.isRule -/
theorem g15 : Good t15 := good [t12, t14] ⟨g12, g14, trivial⟩ [] trivial (by kernel_rfl) (by kernel_rfl)
/- postil/stem.areRules$1 -/
theorem g16 : Good t16 := good [t15] ⟨g15, trivial⟩ [] trivial (by kernel_rfl) (by kernel_rfl)
/- strings.Trim -/
theorem g17 : Good t17 := good [t10] ⟨g10, trivial⟩ [] trivial (by kernel_rfl) (by kernel_rfl)
/- postil/stem.areLetters -/
theorem g18 : Good t18 := good [t17] ⟨g17, trivial⟩ [] trivial (by kernel_rfl) (by kernel_rfl)
/- strings.Trim -/
theorem g19 : Good t19 := good [t10] ⟨g10, trivial⟩ [] trivial (by kernel_rfl) (by kernel_rfl)
/- postil/stem.areLetters -/
theorem g20 : Good t20 := good [t19] ⟨g19, trivial⟩ [] trivial (by kernel_rfl) (by kernel_rfl)
/- postil/stem.isRule -/
theorem g21 : Good t21 := good [t18, t20] ⟨g18, g20, trivial⟩ [] trivial (by kernel_rfl) (by kernel_rfl)
/- postil/stem.areRules$1 -/
theorem g22 : Good t22 := good [t21] ⟨g21, trivial⟩ [] trivial (by kernel_rfl) (by kernel_rfl)
/- postil/stem.areRules -/
theorem g23 : Good t23 := good [t16, t22] ⟨g16, g22, trivial⟩ [] trivial (by kernel_rfl) (by kernel_rfl)
/- strings.Trim -/
theorem g24 : Good t24 := good [t10] ⟨g10, trivial⟩ [] trivial (by kernel_rfl) (by kernel_rfl)
/- postil/stem.areLetters -/
theorem g25 : Good t25 := good [t24] ⟨g24, trivial⟩ [] trivial (by kernel_rfl) (by kernel_rfl)
/- postil/stem.isWord -/
theorem g26 : Good t26 := good [t25] ⟨g25, trivial⟩ [] trivial (by kernel_rfl) (by kernel_rfl)
/- postil/stem.isHead -/
theorem g27 : Good t27 := good [t26] ⟨g26, trivial⟩ [] trivial (by kernel_rfl) (by kernel_rfl)
/- strings.Trim -/
theorem g28 : Good t28 := good [t10] ⟨g10, trivial⟩ [] trivial (by kernel_rfl) (by kernel_rfl)
/- postil/stem.areLetters -/
theorem g29 : Good t29 := good [t28] ⟨g28, trivial⟩ [] trivial (by kernel_rfl) (by kernel_rfl)
/- postil/stem.isWord -/
theorem g30 : Good t30 := good [t29] ⟨g29, trivial⟩ [] trivial (by kernel_rfl) (by kernel_rfl)
/- strings.Trim -/
theorem g31 : Good t31 := good [t10] ⟨g10, trivial⟩ [] trivial (by kernel_rfl) (by kernel_rfl)
/- postil/stem.areLetters -/
theorem g32 : Good t32 := good [t31] ⟨g31, trivial⟩ [] trivial (by kernel_rfl) (by kernel_rfl)
/- postil/stem.isWord -/
theorem g33 : Good t33 := good [t32] ⟨g32, trivial⟩ [] trivial (by kernel_rfl) (by kernel_rfl)
/- postil/stem.isHead -/
theorem g34 : Good t34 := good [t33] ⟨g33, trivial⟩ [] trivial (by kernel_rfl) (by kernel_rfl)
/- strings.Trim -/
theorem g35 : Good t35 := good [t10] ⟨g10, trivial⟩ [] trivial (by kernel_rfl) (by kernel_rfl)
/- postil/stem.areLetters -/
theorem g36 : Good t36 := good [t35] ⟨g35, trivial⟩ [] trivial (by kernel_rfl) (by kernel_rfl)
/- postil/stem.isWord -/
theorem g37 : Good t37 := good [t36] ⟨g36, trivial⟩ [] trivial (by kernel_rfl) (by kernel_rfl)
/- postil/stem.isHead -/
theorem g38 : Good t38 := good [t37] ⟨g37, trivial⟩ [] trivial (by kernel_rfl) (by kernel_rfl)
/- postil/stem.begin -/
theorem g39 : Good t39 := good [t9, t23, t26, t27, t30, t34, t38] ⟨g9, g23, g26, g27, g30, g34, g38, trivial⟩ [] trivial (by kernel_rfl) (by kernel_rfl)
/- postil/stem.Check -/
theorem g40 : Good t40 := good [t39] ⟨g39, trivial⟩ [] trivial (by kernel_rfl) (by kernel_rfl)
/- postil/chart.within -/
theorem g41 : Good t41 := good [] trivial [] trivial (by kernel_rfl) (by kernel_rfl)
/- postil/chart.within -/
theorem g42 : Good t42 := good [] trivial [] trivial (by kernel_rfl) (by kernel_rfl)
/- postil/chart.within -/
theorem g43 : Good t43 := good [] trivial [] trivial (by kernel_rfl) (by kernel_rfl)
/- postil/chart.within -/
theorem g44 : Good t44 := good [] trivial [] trivial (by kernel_rfl) (by kernel_rfl)
/- postil/chart.isStretch -/
theorem g45 : Good t45 := good [t42, t43, t44] ⟨g42, g43, g44, trivial⟩ [] trivial (by kernel_rfl) (by kernel_rfl)
/- postil/chart.within -/
theorem g46 : Good t46 := good [] trivial [] trivial (by kernel_rfl) (by kernel_rfl)
/- postil/chart.within -/
theorem g47 : Good t47 := good [] trivial [] trivial (by kernel_rfl) (by kernel_rfl)
/- postil/chart.within -/
theorem g48 : Good t48 := good [] trivial [] trivial (by kernel_rfl) (by kernel_rfl)
/- postil/chart.within -/
theorem g49 : Good t49 := good [] trivial [] trivial (by kernel_rfl) (by kernel_rfl)
/- postil/chart.isStretch -/
theorem g50 : Good t50 := good [t42, t46, t47, t48, t49] ⟨g42, g46, g47, g48, g49, trivial⟩ [] trivial (by kernel_rfl) (by kernel_rfl)
/- postil/chart.isEdition -/
theorem g51 : Good t51 := good [t41, t45, t50] ⟨g41, g45, g50, trivial⟩ [] trivial (by kernel_rfl) (by kernel_rfl)
/- postil/chart.check -/
theorem g52 : Good t52 := good [t9, t51] ⟨g9, g51, trivial⟩ [] trivial (by kernel_rfl) (by kernel_rfl)
/- postil/chart.clashes -/
theorem g53 : Good t53 := good [] trivial [] trivial (by kernel_rfl) (by kernel_rfl)
/- (postil/chart.edition).clash -/
theorem g54 : Good t54 := good [t53] ⟨g53, trivial⟩ [] trivial (by kernel_rfl) (by kernel_rfl)
/- postil/chart.Clash -/
theorem g55 : Good t55 := good [t52, t54] ⟨g52, g54, trivial⟩ [] trivial (by kernel_rfl) (by kernel_rfl)
/- postil/tome.checkSound -/
theorem g56 : Good t56 := good [t55] ⟨g55, trivial⟩ [] trivial (by kernel_rfl) (by kernel_rfl)
/- postil/slip.isCut -/
theorem g57 : Good t57 := good [] trivial [] trivial (by kernel_rfl) (by kernel_rfl)
/- postil/slip.Check -/
theorem g58 : Good t58 := good [t57] ⟨g57, trivial⟩ [] trivial (by kernel_rfl) (by kernel_rfl)
/- (postil/leaf.text).lineOf -/
theorem g59 : Good t59 := good [] trivial [] trivial (by kernel_rfl) (by kernel_rfl)
/- postil/leaf.isWord -/
theorem g60 : Good t60 := good [] trivial [] trivial (by kernel_rfl) (by kernel_rfl)
/- postil/leaf.kinds$5 -/
theorem g61 : Good t61 := good [t60] ⟨g60, trivial⟩ [] trivial (by kernel_rfl) (by kernel_rfl)
/- (postil/leaf.text).lineOf -/
theorem g62 : Good t62 := good [] trivial [] trivial (by kernel_rfl) (by kernel_rfl)
/- postil/leaf.kinds$1 -/
theorem g63 : Good t63 := good [] trivial [] trivial (by kernel_rfl) (by kernel_rfl)
/- (postil/leaf.text).lineOf -/
theorem g64 : Good t64 := good [] trivial [] trivial (by kernel_rfl) (by kernel_rfl)
/- postil/leaf.isWord -/
theorem g65 : Good t65 := good [] trivial [] trivial (by kernel_rfl) (by kernel_rfl)
/- postil/leaf.kinds$3 -/
theorem g66 : Good t66 := good [t65] ⟨g65, trivial⟩ [] trivial (by kernel_rfl) (by kernel_rfl)
/- (postil/leaf.text).fit -/
theorem g67 : Good t67 := good [t59, t61, t62, t63, t64, t66] ⟨g59, g61, g62, g63, g64, g66, trivial⟩ [] trivial (by kernel_rfl) (by kernel_rfl)
/- postil/leaf.comparePlaces -/
theorem g68 : Good t68 := good [] trivial [] trivial (by kernel_rfl) (by kernel_rfl)
/- postil/leaf.comparePlaces -/
theorem g69 : Good t69 := good [] trivial [] trivial (by kernel_rfl) (by kernel_rfl)
/- postil/leaf.areInOrder -/
theorem g70 : Good t70 := good [t68, t69] ⟨g68, g69, trivial⟩ [] trivial (by kernel_rfl) (by kernel_rfl)
/- postil/leaf.ofLine -/
theorem g71 : Good t71 := good [] trivial [] trivial (by kernel_rfl) (by kernel_rfl)
/- postil/leaf.readLine -/
theorem g72 : Good t72 := good [] trivial [] trivial (by kernel_rfl) (by kernel_rfl)
/- postil/leaf.ofLine -/
theorem g73 : Good t73 := good [] trivial [] trivial (by kernel_rfl) (by kernel_rfl)
/- postil/leaf.readLine -/
theorem g74 : Good t74 := good [] trivial [] trivial (by kernel_rfl) (by kernel_rfl)
/- postil/leaf.ofLine -/
theorem g75 : Good t75 := good [] trivial [] trivial (by kernel_rfl) (by kernel_rfl)
/- postil/leaf.readLine -/
theorem g76 : Good t76 := good [] trivial [] trivial (by kernel_rfl) (by kernel_rfl)
/- (postil/leaf.text).read -/
theorem g77 : Good t77 := good [t71, t72, t73, t74, t75, t76] ⟨g71, g72, g73, g74, g75, g76, trivial⟩ [] trivial (by kernel_rfl) (by kernel_rfl)
/- (postil/leaf.text).hasCopy -/
theorem g78 : Good t78 := good [t67, t70, t77] ⟨g67, g70, g77, trivial⟩ [] trivial (by kernel_rfl) (by kernel_rfl)
/- postil/leaf.doubted -/
theorem g79 : Good t79 := good [] trivial [] trivial (by kernel_rfl) (by kernel_rfl)
/- postil/leaf.comparePlaces -/
theorem g80 : Good t80 := good [] trivial [] trivial (by kernel_rfl) (by kernel_rfl)
/- postil/leaf.Doubt -/
theorem g81 : Good t81 := good [t8, t78, t79, t80] ⟨g8, g78, g79, g80, trivial⟩ [] trivial (by kernel_rfl) (by kernel_rfl)
/- postil/tome.doubted -/
theorem g82 : Good t82 := good [t40, t56, t58, t81] ⟨g40, g56, g58, g81, trivial⟩ [] trivial (by kernel_rfl) (by kernel_rfl)
/- postil/slip.check -/
theorem g83 : Good t83 := good [t9, t58] ⟨g9, g58, trivial⟩ [] trivial (by kernel_rfl) (by kernel_rfl)
/- postil/slip.runOf -/
theorem g84 : Good t84 := good [] trivial [] trivial (by kernel_rfl) (by kernel_rfl)
/- postil/slip.runOf -/
theorem g85 : Good t85 := good [] trivial [] trivial (by kernel_rfl) (by kernel_rfl)
/- postil/slip.runs -/
theorem g86 : Good t86 := good [t84, t85] ⟨g84, g85, trivial⟩ [] trivial (by kernel_rfl) (by kernel_rfl)
/- (postil/slip.run).context -/
theorem g87 : Good t87 := good [] trivial [] trivial (by kernel_rfl) (by kernel_rfl)
/- (postil/slip.run).slip -/
theorem g88 : Good t88 := good [t87] ⟨g87, trivial⟩ [] trivial (by kernel_rfl) (by kernel_rfl)
/- postil/slip.sides$3 -/
theorem g89 : Good t89 := good [] trivial [] trivial (by kernel_rfl) (by kernel_rfl)
/- (postil/slip.run).context -/
theorem g90 : Good t90 := good [t89] ⟨g89, trivial⟩ [] trivial (by kernel_rfl) (by kernel_rfl)
/- (postil/slip.run).slip -/
theorem g91 : Good t91 := good [t90] ⟨g90, trivial⟩ [] trivial (by kernel_rfl) (by kernel_rfl)
/- postil/slip.sides$3 -/
theorem g92 : Good t92 := good [] trivial [] trivial (by kernel_rfl) (by kernel_rfl)
/- (postil/slip.run).context -/
theorem g93 : Good t93 := good [t89, t92] ⟨g89, g92, trivial⟩ [] trivial (by kernel_rfl) (by kernel_rfl)
/- (postil/slip.run).slip -/
theorem g94 : Good t94 := good [t93] ⟨g93, trivial⟩ [] trivial (by kernel_rfl) (by kernel_rfl)
/- postil/slip.sides$3 -/
theorem g95 : Good t95 := good [] trivial [] trivial (by kernel_rfl) (by kernel_rfl)
/- (postil/slip.run).context -/
theorem g96 : Good t96 := good [t92, t95] ⟨g92, g95, trivial⟩ [] trivial (by kernel_rfl) (by kernel_rfl)
/- (postil/slip.run).slip -/
theorem g97 : Good t97 := good [t96] ⟨g96, trivial⟩ [] trivial (by kernel_rfl) (by kernel_rfl)
/- postil/slip.sides$3 -/
theorem g98 : Good t98 := good [] trivial [] trivial (by kernel_rfl) (by kernel_rfl)
/- postil/slip.sides$3 -/
theorem g99 : Good t99 := good [] trivial [] trivial (by kernel_rfl) (by kernel_rfl)
/- (postil/slip.run).context -/
theorem g100 : Good t100 := good [t98, t99] ⟨g98, g99, trivial⟩ [] trivial (by kernel_rfl) (by kernel_rfl)
/- (postil/slip.run).slip -/
theorem g101 : Good t101 := good [t100] ⟨g100, trivial⟩ [] trivial (by kernel_rfl) (by kernel_rfl)
/- postil/slip.sides$3 -/
theorem g102 : Good t102 := good [] trivial [] trivial (by kernel_rfl) (by kernel_rfl)
/- postil/slip.sides$3 -/
theorem g103 : Good t103 := good [] trivial [] trivial (by kernel_rfl) (by kernel_rfl)
/- (postil/slip.run).context -/
theorem g104 : Good t104 := good [t102, t103] ⟨g102, g103, trivial⟩ [] trivial (by kernel_rfl) (by kernel_rfl)
/- (postil/slip.run).slip -/
theorem g105 : Good t105 := good [t104] ⟨g104, trivial⟩ [] trivial (by kernel_rfl) (by kernel_rfl)
/- (postil/slip.run).context -/
theorem g106 : Good t106 := good [] trivial [] trivial (by kernel_rfl) (by kernel_rfl)
/- (postil/slip.run).slip -/
theorem g107 : Good t107 := good [t106] ⟨g106, trivial⟩ [] trivial (by kernel_rfl) (by kernel_rfl)
/- (postil/slip.run).context -/
theorem g108 : Good t108 := good [] trivial [] trivial (by kernel_rfl) (by kernel_rfl)
/- (postil/slip.run).slip -/
theorem g109 : Good t109 := good [t108] ⟨g108, trivial⟩ [] trivial (by kernel_rfl) (by kernel_rfl)
/- (postil/slip.run).context -/
theorem g110 : Good t110 := good [t102] ⟨g102, trivial⟩ [] trivial (by kernel_rfl) (by kernel_rfl)
/- (postil/slip.run).slip -/
theorem g111 : Good t111 := good [t110] ⟨g110, trivial⟩ [] trivial (by kernel_rfl) (by kernel_rfl)
/- (postil/slip.run).context -/
theorem g112 : Good t112 := good [] trivial [] trivial (by kernel_rfl) (by kernel_rfl)
/- (postil/slip.run).slip -/
theorem g113 : Good t113 := good [t112] ⟨g112, trivial⟩ [] trivial (by kernel_rfl) (by kernel_rfl)
/- postil/slip.slips -/
theorem g114 : Good t114 := good [t86, t88, t91, t94, t97, t101, t105, t107, t109, t111, t113] ⟨g86, g88, g91, g94, g97, g101, g105, g107, g109, g111, g113, trivial⟩ [] trivial (by kernel_rfl) (by kernel_rfl)
/- postil/slip.All -/
theorem g115 : Good t115 := good [t83, t114] ⟨g83, g114, trivial⟩ [] trivial (by kernel_rfl) (by kernel_rfl)
/- postil/tome.begin -/
theorem g116 : Good t116 := good [t82, t115] ⟨g82, g115, trivial⟩ [] trivial (by kernel_rfl) (by kernel_rfl)
/- postil/leaf.Number -/
theorem g117 : Good t117 := good [t8] ⟨g8, trivial⟩ [] trivial (by kernel_rfl) (by kernel_rfl)
/- postil/stem.beginAt -/
theorem g118 : Good t118 := good [t39, t117] ⟨g39, g117, trivial⟩ [] trivial (by kernel_rfl) (by kernel_rfl)
/- (postil/stem.lexicon).decision -/
theorem g119 : Good t119 := good [] trivial [] trivial (by kernel_rfl) (by kernel_rfl)
/- (postil/stem.lexicon).turned -/
theorem g120 : Good t120 := good [] trivial [] trivial (by kernel_rfl) (by kernel_rfl)
/- (postil/stem.lexicon).steps -/
theorem g121 : Good t121 := good [t120] ⟨g120, trivial⟩ [] trivial (by kernel_rfl) (by kernel_rfl)
/- (postil/stem.lexicon).head -/
theorem g122 : Good t122 := good [t119, t121] ⟨g119, g121, trivial⟩ [] trivial (by kernel_rfl) (by kernel_rfl)
/- postil/stem.HeadOf -/
theorem g123 : Good t123 := good [t118, t122] ⟨g118, g122, trivial⟩ [] trivial (by kernel_rfl) (by kernel_rfl)
/- postil/chart.checkSound -/
theorem g124 : Good t124 := good [t52, t54] ⟨g52, g54, trivial⟩ [] trivial (by kernel_rfl) (by kernel_rfl)
/- (postil/leaf.text).lineOf -/
theorem g125 : Good t125 := good [] trivial [] trivial (by kernel_rfl) (by kernel_rfl)
/- (postil/leaf.text).hasPlace -/
theorem g126 : Good t126 := good [t125] ⟨g125, trivial⟩ [] trivial (by kernel_rfl) (by kernel_rfl)
/- postil/leaf.At -/
theorem g127 : Good t127 := good [t8, t125, t126] ⟨g8, g125, g126, trivial⟩ [] trivial (by kernel_rfl) (by kernel_rfl)
/- postil/chart.within -/
theorem g128 : Good t128 := good [] trivial [] trivial (by kernel_rfl) (by kernel_rfl)
/- (postil/chart.edition).numbersOf -/
theorem g129 : Good t129 := good [t128] ⟨g128, trivial⟩ [] trivial (by kernel_rfl) (by kernel_rfl)
/- (postil/chart.edition).refer -/
theorem g130 : Good t130 := good [t129] ⟨g129, trivial⟩ [] trivial (by kernel_rfl) (by kernel_rfl)
/- postil/chart.Refer -/
theorem g131 : Good t131 := good [t124, t127, t130] ⟨g124, g127, g130, trivial⟩ [] trivial (by kernel_rfl) (by kernel_rfl)
/- slices.Index[[]postil/api.Place,postil/api.Place] -/
theorem g132 : Good t132 := good [] trivial [] trivial (by kernel_rfl) (by kernel_rfl)
/- slices.Contains[[]postil/api.Place,postil/api.Place] -/
theorem g133 : Good t133 := good [t132] ⟨g132, trivial⟩ [] trivial (by kernel_rfl) (by kernel_rfl)
/- (postil/tome.records).sure -/
theorem g134 : Good t134 := good [t133] ⟨g133, trivial⟩ [] trivial (by kernel_rfl) (by kernel_rfl)
/- (postil/tome.records).spot -/
theorem g135 : Good t135 := good [t123, t131, t134] ⟨g123, g131, g134, trivial⟩ [] trivial (by kernel_rfl) (by kernel_rfl)
/- postil/leaf.Number -/
theorem g136 : Good t136 := good [t8] ⟨g8, trivial⟩ [] trivial (by kernel_rfl) (by kernel_rfl)
/- postil/stem.beginAt -/
theorem g137 : Good t137 := good [t39, t136] ⟨g39, g136, trivial⟩ [] trivial (by kernel_rfl) (by kernel_rfl)
/- postil/stem.comparePlaces -/
theorem g138 : Good t138 := good [] trivial [] trivial (by kernel_rfl) (by kernel_rfl)
/- postil/stem.compareDecisions -/
theorem g139 : Good t139 := good [t138] ⟨g138, trivial⟩ [] trivial (by kernel_rfl) (by kernel_rfl)
/- (postil/stem.lexicon).decision -/
theorem g140 : Good t140 := good [t139] ⟨g139, trivial⟩ [] trivial (by kernel_rfl) (by kernel_rfl)
/- (postil/stem.lexicon).head -/
theorem g141 : Good t141 := good [t140] ⟨g140, trivial⟩ [] trivial (by kernel_rfl) (by kernel_rfl)
/- postil/stem.HeadOf -/
theorem g142 : Good t142 := good [t137, t141] ⟨g137, g141, trivial⟩ [] trivial (by kernel_rfl) (by kernel_rfl)
/- (postil/leaf.text).lineOf -/
theorem g143 : Good t143 := good [] trivial [] trivial (by kernel_rfl) (by kernel_rfl)
/- (postil/leaf.text).hasPlace -/
theorem g144 : Good t144 := good [t143] ⟨g143, trivial⟩ [] trivial (by kernel_rfl) (by kernel_rfl)
/- postil/leaf.At -/
theorem g145 : Good t145 := good [t8, t143, t144] ⟨g8, g143, g144, trivial⟩ [] trivial (by kernel_rfl) (by kernel_rfl)
/- (postil/chart.edition).numbersOf -/
theorem g146 : Good t146 := good [t128] ⟨g128, trivial⟩ [] trivial (by kernel_rfl) (by kernel_rfl)
/- (postil/chart.edition).refer -/
theorem g147 : Good t147 := good [t146] ⟨g146, trivial⟩ [] trivial (by kernel_rfl) (by kernel_rfl)
/- postil/chart.Refer -/
theorem g148 : Good t148 := good [t124, t145, t147] ⟨g124, g145, g147, trivial⟩ [] trivial (by kernel_rfl) (by kernel_rfl)
/- slices.Index[[]postil/api.Place,postil/api.Place] -/
theorem g149 : Good t149 := good [] trivial [] trivial (by kernel_rfl) (by kernel_rfl)
/- slices.Contains[[]postil/api.Place,postil/api.Place] -/
theorem g150 : Good t150 := good [t149] ⟨g149, trivial⟩ [] trivial (by kernel_rfl) (by kernel_rfl)
/- (postil/tome.records).sure -/
theorem g151 : Good t151 := good [t150] ⟨g150, trivial⟩ [] trivial (by kernel_rfl) (by kernel_rfl)
/- (postil/tome.records).spot -/
theorem g152 : Good t152 := good [t142, t148, t151] ⟨g142, g148, g151, trivial⟩ [] trivial (by kernel_rfl) (by kernel_rfl)
/- postil/leaf.Number -/
theorem g153 : Good t153 := good [t8] ⟨g8, trivial⟩ [] trivial (by kernel_rfl) (by kernel_rfl)
/- postil/stem.beginAt -/
theorem g154 : Good t154 := good [t39, t153] ⟨g39, g153, trivial⟩ [] trivial (by kernel_rfl) (by kernel_rfl)
/- (postil/stem.lexicon).decision -/
theorem g155 : Good t155 := good [] trivial [] trivial (by kernel_rfl) (by kernel_rfl)
/- (postil/stem.lexicon).turned -/
theorem g156 : Good t156 := good [] trivial [] trivial (by kernel_rfl) (by kernel_rfl)
/- (postil/stem.lexicon).steps -/
theorem g157 : Good t157 := good [t156] ⟨g156, trivial⟩ [] trivial (by kernel_rfl) (by kernel_rfl)
/- (postil/stem.lexicon).head -/
theorem g158 : Good t158 := good [t155, t157] ⟨g155, g157, trivial⟩ [] trivial (by kernel_rfl) (by kernel_rfl)
/- postil/stem.HeadOf -/
theorem g159 : Good t159 := good [t154, t158] ⟨g154, g158, trivial⟩ [] trivial (by kernel_rfl) (by kernel_rfl)
/- (postil/leaf.text).lineOf -/
theorem g160 : Good t160 := good [] trivial [] trivial (by kernel_rfl) (by kernel_rfl)
/- (postil/leaf.text).hasPlace -/
theorem g161 : Good t161 := good [t160] ⟨g160, trivial⟩ [] trivial (by kernel_rfl) (by kernel_rfl)
/- postil/leaf.At -/
theorem g162 : Good t162 := good [t8, t160, t161] ⟨g8, g160, g161, trivial⟩ [] trivial (by kernel_rfl) (by kernel_rfl)
/- (postil/chart.edition).numbersOf -/
theorem g163 : Good t163 := good [t128] ⟨g128, trivial⟩ [] trivial (by kernel_rfl) (by kernel_rfl)
/- (postil/chart.edition).refer -/
theorem g164 : Good t164 := good [t163] ⟨g163, trivial⟩ [] trivial (by kernel_rfl) (by kernel_rfl)
/- postil/chart.Refer -/
theorem g165 : Good t165 := good [t124, t162, t164] ⟨g124, g162, g164, trivial⟩ [] trivial (by kernel_rfl) (by kernel_rfl)
/- slices.Index[[]postil/api.Place,postil/api.Place] -/
theorem g166 : Good t166 := good [] trivial [] trivial (by kernel_rfl) (by kernel_rfl)
/- slices.Contains[[]postil/api.Place,postil/api.Place] -/
theorem g167 : Good t167 := good [t166] ⟨g166, trivial⟩ [] trivial (by kernel_rfl) (by kernel_rfl)
/- (postil/tome.records).sure -/
theorem g168 : Good t168 := good [t167] ⟨g167, trivial⟩ [] trivial (by kernel_rfl) (by kernel_rfl)
/- (postil/tome.records).spot -/
theorem g169 : Good t169 := good [t159, t165, t168] ⟨g159, g165, g168, trivial⟩ [] trivial (by kernel_rfl) (by kernel_rfl)
/- postil/leaf.Number -/
theorem g170 : Good t170 := good [t8] ⟨g8, trivial⟩ [] trivial (by kernel_rfl) (by kernel_rfl)
/- postil/stem.beginAt -/
theorem g171 : Good t171 := good [t39, t170] ⟨g39, g170, trivial⟩ [] trivial (by kernel_rfl) (by kernel_rfl)
/- postil/stem.comparePlaces -/
theorem g172 : Good t172 := good [] trivial [] trivial (by kernel_rfl) (by kernel_rfl)
/- (postil/stem.lexicon).decision -/
theorem g173 : Good t173 := good [t172] ⟨g172, trivial⟩ [] trivial (by kernel_rfl) (by kernel_rfl)
/- (postil/stem.lexicon).turned -/
theorem g174 : Good t174 := good [] trivial [] trivial (by kernel_rfl) (by kernel_rfl)
/- (postil/stem.lexicon).turned -/
theorem g175 : Good t175 := good [] trivial [] trivial (by kernel_rfl) (by kernel_rfl)
/- (postil/stem.lexicon).steps -/
theorem g176 : Good t176 := good [t174, t175] ⟨g174, g175, trivial⟩ [] trivial (by kernel_rfl) (by kernel_rfl)
/- (postil/stem.lexicon).head -/
theorem g177 : Good t177 := good [t173, t176] ⟨g173, g176, trivial⟩ [] trivial (by kernel_rfl) (by kernel_rfl)
/- postil/stem.HeadOf -/
theorem g178 : Good t178 := good [t171, t177] ⟨g171, g177, trivial⟩ [] trivial (by kernel_rfl) (by kernel_rfl)
/- (postil/leaf.text).hasPlace -/
theorem g179 : Good t179 := good [t59] ⟨g59, trivial⟩ [] trivial (by kernel_rfl) (by kernel_rfl)
/- postil/leaf.At -/
theorem g180 : Good t180 := good [t8, t59, t179] ⟨g8, g59, g179, trivial⟩ [] trivial (by kernel_rfl) (by kernel_rfl)
/- (postil/chart.edition).numbersOf -/
theorem g181 : Good t181 := good [t128] ⟨g128, trivial⟩ [] trivial (by kernel_rfl) (by kernel_rfl)
/- (postil/chart.edition).refer -/
theorem g182 : Good t182 := good [t181] ⟨g181, trivial⟩ [] trivial (by kernel_rfl) (by kernel_rfl)
/- postil/chart.Refer -/
theorem g183 : Good t183 := good [t124, t180, t182] ⟨g124, g180, g182, trivial⟩ [] trivial (by kernel_rfl) (by kernel_rfl)
/- slices.Index[[]postil/api.Place,postil/api.Place] -/
theorem g184 : Good t184 := good [] trivial [] trivial (by kernel_rfl) (by kernel_rfl)
/- slices.Contains[[]postil/api.Place,postil/api.Place] -/
theorem g185 : Good t185 := good [t184] ⟨g184, trivial⟩ [] trivial (by kernel_rfl) (by kernel_rfl)
/- (postil/tome.records).sure -/
theorem g186 : Good t186 := good [t185] ⟨g185, trivial⟩ [] trivial (by kernel_rfl) (by kernel_rfl)
/- (postil/tome.records).spot -/
theorem g187 : Good t187 := good [t178, t183, t186] ⟨g178, g183, g186, trivial⟩ [] trivial (by kernel_rfl) (by kernel_rfl)
/- postil/leaf.Number -/
theorem g188 : Good t188 := good [t8] ⟨g8, trivial⟩ [] trivial (by kernel_rfl) (by kernel_rfl)
/- postil/stem.beginAt -/
theorem g189 : Good t189 := good [t39, t188] ⟨g39, g188, trivial⟩ [] trivial (by kernel_rfl) (by kernel_rfl)
/- postil/stem.comparePlaces -/
theorem g190 : Good t190 := good [] trivial [] trivial (by kernel_rfl) (by kernel_rfl)
/- postil/stem.comparePlaces -/
theorem g191 : Good t191 := good [] trivial [] trivial (by kernel_rfl) (by kernel_rfl)
/- postil/stem.compareDecisions -/
theorem g192 : Good t192 := good [t191] ⟨g191, trivial⟩ [] trivial (by kernel_rfl) (by kernel_rfl)
/- (postil/stem.lexicon).decision -/
theorem g193 : Good t193 := good [t190, t192] ⟨g190, g192, trivial⟩ [] trivial (by kernel_rfl) (by kernel_rfl)
/- (postil/stem.lexicon).head -/
theorem g194 : Good t194 := good [t193] ⟨g193, trivial⟩ [] trivial (by kernel_rfl) (by kernel_rfl)
/- postil/stem.HeadOf -/
theorem g195 : Good t195 := good [t189, t194] ⟨g189, g194, trivial⟩ [] trivial (by kernel_rfl) (by kernel_rfl)
/- (postil/leaf.text).lineOf -/
theorem g196 : Good t196 := good [] trivial [] trivial (by kernel_rfl) (by kernel_rfl)
/- (postil/leaf.text).hasPlace -/
theorem g197 : Good t197 := good [t196] ⟨g196, trivial⟩ [] trivial (by kernel_rfl) (by kernel_rfl)
/- postil/leaf.At -/
theorem g198 : Good t198 := good [t8, t196, t197] ⟨g8, g196, g197, trivial⟩ [] trivial (by kernel_rfl) (by kernel_rfl)
/- postil/chart.within -/
theorem g199 : Good t199 := good [] trivial [] trivial (by kernel_rfl) (by kernel_rfl)
/- postil/chart.within -/
theorem g200 : Good t200 := good [] trivial [] trivial (by kernel_rfl) (by kernel_rfl)
/- (postil/chart.edition).numbersOf -/
theorem g201 : Good t201 := good [t199, t200] ⟨g199, g200, trivial⟩ [] trivial (by kernel_rfl) (by kernel_rfl)
/- (postil/chart.edition).refer -/
theorem g202 : Good t202 := good [t201] ⟨g201, trivial⟩ [] trivial (by kernel_rfl) (by kernel_rfl)
/- postil/chart.Refer -/
theorem g203 : Good t203 := good [t124, t198, t202] ⟨g124, g198, g202, trivial⟩ [] trivial (by kernel_rfl) (by kernel_rfl)
/- slices.Index[[]postil/api.Place,postil/api.Place] -/
theorem g204 : Good t204 := good [] trivial [] trivial (by kernel_rfl) (by kernel_rfl)
/- slices.Contains[[]postil/api.Place,postil/api.Place] -/
theorem g205 : Good t205 := good [t204] ⟨g204, trivial⟩ [] trivial (by kernel_rfl) (by kernel_rfl)
/- (postil/tome.records).sure -/
theorem g206 : Good t206 := good [t205] ⟨g205, trivial⟩ [] trivial (by kernel_rfl) (by kernel_rfl)
/- (postil/tome.records).spot -/
theorem g207 : Good t207 := good [t195, t203, t206] ⟨g195, g203, g206, trivial⟩ [] trivial (by kernel_rfl) (by kernel_rfl)
/- postil/leaf.Number -/
theorem g208 : Good t208 := good [t8] ⟨g8, trivial⟩ [] trivial (by kernel_rfl) (by kernel_rfl)
/- postil/stem.beginAt -/
theorem g209 : Good t209 := good [t39, t208] ⟨g39, g208, trivial⟩ [] trivial (by kernel_rfl) (by kernel_rfl)
/- (postil/stem.lexicon).decision -/
theorem g210 : Good t210 := good [] trivial [] trivial (by kernel_rfl) (by kernel_rfl)
/- (postil/stem.lexicon).head -/
theorem g211 : Good t211 := good [t121, t210] ⟨g121, g210, trivial⟩ [] trivial (by kernel_rfl) (by kernel_rfl)
/- postil/stem.HeadOf -/
theorem g212 : Good t212 := good [t209, t211] ⟨g209, g211, trivial⟩ [] trivial (by kernel_rfl) (by kernel_rfl)
/- (postil/leaf.text).hasPlace -/
theorem g213 : Good t213 := good [t62] ⟨g62, trivial⟩ [] trivial (by kernel_rfl) (by kernel_rfl)
/- postil/leaf.At -/
theorem g214 : Good t214 := good [t8, t62, t213] ⟨g8, g62, g213, trivial⟩ [] trivial (by kernel_rfl) (by kernel_rfl)
/- (postil/chart.edition).numbersOf -/
theorem g215 : Good t215 := good [t199, t200] ⟨g199, g200, trivial⟩ [] trivial (by kernel_rfl) (by kernel_rfl)
/- (postil/chart.edition).refer -/
theorem g216 : Good t216 := good [t215] ⟨g215, trivial⟩ [] trivial (by kernel_rfl) (by kernel_rfl)
/- postil/chart.Refer -/
theorem g217 : Good t217 := good [t124, t214, t216] ⟨g124, g214, g216, trivial⟩ [] trivial (by kernel_rfl) (by kernel_rfl)
/- slices.Index[[]postil/api.Place,postil/api.Place] -/
theorem g218 : Good t218 := good [] trivial [] trivial (by kernel_rfl) (by kernel_rfl)
/- slices.Contains[[]postil/api.Place,postil/api.Place] -/
theorem g219 : Good t219 := good [t218] ⟨g218, trivial⟩ [] trivial (by kernel_rfl) (by kernel_rfl)
/- (postil/tome.records).sure -/
theorem g220 : Good t220 := good [t219] ⟨g219, trivial⟩ [] trivial (by kernel_rfl) (by kernel_rfl)
/- (postil/tome.records).spot -/
theorem g221 : Good t221 := good [t212, t217, t220] ⟨g212, g217, g220, trivial⟩ [] trivial (by kernel_rfl) (by kernel_rfl)
/- postil/leaf.Number -/
theorem g222 : Good t222 := good [t8] ⟨g8, trivial⟩ [] trivial (by kernel_rfl) (by kernel_rfl)
/- postil/stem.beginAt -/
theorem g223 : Good t223 := good [t39, t222] ⟨g39, g222, trivial⟩ [] trivial (by kernel_rfl) (by kernel_rfl)
/- (postil/stem.lexicon).decision -/
theorem g224 : Good t224 := good [t139] ⟨g139, trivial⟩ [] trivial (by kernel_rfl) (by kernel_rfl)
/- (postil/stem.lexicon).head -/
theorem g225 : Good t225 := good [t224] ⟨g224, trivial⟩ [] trivial (by kernel_rfl) (by kernel_rfl)
/- postil/stem.HeadOf -/
theorem g226 : Good t226 := good [t223, t225] ⟨g223, g225, trivial⟩ [] trivial (by kernel_rfl) (by kernel_rfl)
/- (postil/leaf.text).lineOf -/
theorem g227 : Good t227 := good [] trivial [] trivial (by kernel_rfl) (by kernel_rfl)
/- (postil/leaf.text).hasPlace -/
theorem g228 : Good t228 := good [t227] ⟨g227, trivial⟩ [] trivial (by kernel_rfl) (by kernel_rfl)
/- postil/leaf.At -/
theorem g229 : Good t229 := good [t8, t227, t228] ⟨g8, g227, g228, trivial⟩ [] trivial (by kernel_rfl) (by kernel_rfl)
/- (postil/chart.edition).numbersOf -/
theorem g230 : Good t230 := good [t199, t200] ⟨g199, g200, trivial⟩ [] trivial (by kernel_rfl) (by kernel_rfl)
/- (postil/chart.edition).refer -/
theorem g231 : Good t231 := good [t230] ⟨g230, trivial⟩ [] trivial (by kernel_rfl) (by kernel_rfl)
/- postil/chart.Refer -/
theorem g232 : Good t232 := good [t124, t229, t231] ⟨g124, g229, g231, trivial⟩ [] trivial (by kernel_rfl) (by kernel_rfl)
/- slices.Index[[]postil/api.Place,postil/api.Place] -/
theorem g233 : Good t233 := good [] trivial [] trivial (by kernel_rfl) (by kernel_rfl)
/- slices.Contains[[]postil/api.Place,postil/api.Place] -/
theorem g234 : Good t234 := good [t233] ⟨g233, trivial⟩ [] trivial (by kernel_rfl) (by kernel_rfl)
/- (postil/tome.records).sure -/
theorem g235 : Good t235 := good [t234] ⟨g234, trivial⟩ [] trivial (by kernel_rfl) (by kernel_rfl)
/- (postil/tome.records).spot -/
theorem g236 : Good t236 := good [t226, t232, t235] ⟨g226, g232, g235, trivial⟩ [] trivial (by kernel_rfl) (by kernel_rfl)
/- postil/leaf.Number -/
theorem g237 : Good t237 := good [t8] ⟨g8, trivial⟩ [] trivial (by kernel_rfl) (by kernel_rfl)
/- postil/stem.beginAt -/
theorem g238 : Good t238 := good [t39, t237] ⟨g39, g237, trivial⟩ [] trivial (by kernel_rfl) (by kernel_rfl)
/- (postil/stem.lexicon).decision -/
theorem g239 : Good t239 := good [t139] ⟨g139, trivial⟩ [] trivial (by kernel_rfl) (by kernel_rfl)
/- (postil/stem.lexicon).head -/
theorem g240 : Good t240 := good [t239] ⟨g239, trivial⟩ [] trivial (by kernel_rfl) (by kernel_rfl)
/- postil/stem.HeadOf -/
theorem g241 : Good t241 := good [t238, t240] ⟨g238, g240, trivial⟩ [] trivial (by kernel_rfl) (by kernel_rfl)
/- (postil/leaf.text).lineOf -/
theorem g242 : Good t242 := good [] trivial [] trivial (by kernel_rfl) (by kernel_rfl)
/- (postil/leaf.text).hasPlace -/
theorem g243 : Good t243 := good [t242] ⟨g242, trivial⟩ [] trivial (by kernel_rfl) (by kernel_rfl)
/- postil/leaf.At -/
theorem g244 : Good t244 := good [t8, t242, t243] ⟨g8, g242, g243, trivial⟩ [] trivial (by kernel_rfl) (by kernel_rfl)
/- (postil/chart.edition).numbersOf -/
theorem g245 : Good t245 := good [] trivial [] trivial (by kernel_rfl) (by kernel_rfl)
/- (postil/chart.edition).refer -/
theorem g246 : Good t246 := good [t245] ⟨g245, trivial⟩ [] trivial (by kernel_rfl) (by kernel_rfl)
/- postil/chart.Refer -/
theorem g247 : Good t247 := good [t124, t244, t246] ⟨g124, g244, g246, trivial⟩ [] trivial (by kernel_rfl) (by kernel_rfl)
/- slices.Index[[]postil/api.Place,postil/api.Place] -/
theorem g248 : Good t248 := good [] trivial [] trivial (by kernel_rfl) (by kernel_rfl)
/- slices.Contains[[]postil/api.Place,postil/api.Place] -/
theorem g249 : Good t249 := good [t248] ⟨g248, trivial⟩ [] trivial (by kernel_rfl) (by kernel_rfl)
/- (postil/tome.records).sure -/
theorem g250 : Good t250 := good [t249] ⟨g249, trivial⟩ [] trivial (by kernel_rfl) (by kernel_rfl)
/- (postil/tome.records).spot -/
theorem g251 : Good t251 := good [t241, t247, t250] ⟨g241, g247, g250, trivial⟩ [] trivial (by kernel_rfl) (by kernel_rfl)
/- postil/leaf.Number -/
theorem g252 : Good t252 := good [t8] ⟨g8, trivial⟩ [] trivial (by kernel_rfl) (by kernel_rfl)
/- postil/stem.beginAt -/
theorem g253 : Good t253 := good [t39, t252] ⟨g39, g252, trivial⟩ [] trivial (by kernel_rfl) (by kernel_rfl)
/- (postil/stem.lexicon).decision -/
theorem g254 : Good t254 := good [] trivial [] trivial (by kernel_rfl) (by kernel_rfl)
/- (postil/stem.lexicon).turned -/
theorem g255 : Good t255 := good [] trivial [] trivial (by kernel_rfl) (by kernel_rfl)
/- (postil/stem.lexicon).steps -/
theorem g256 : Good t256 := good [t255] ⟨g255, trivial⟩ [] trivial (by kernel_rfl) (by kernel_rfl)
/- (postil/stem.lexicon).head -/
theorem g257 : Good t257 := good [t254, t256] ⟨g254, g256, trivial⟩ [] trivial (by kernel_rfl) (by kernel_rfl)
/- postil/stem.HeadOf -/
theorem g258 : Good t258 := good [t253, t257] ⟨g253, g257, trivial⟩ [] trivial (by kernel_rfl) (by kernel_rfl)
/- (postil/leaf.text).lineOf -/
theorem g259 : Good t259 := good [] trivial [] trivial (by kernel_rfl) (by kernel_rfl)
/- (postil/leaf.text).hasPlace -/
theorem g260 : Good t260 := good [t259] ⟨g259, trivial⟩ [] trivial (by kernel_rfl) (by kernel_rfl)
/- postil/leaf.At -/
theorem g261 : Good t261 := good [t8, t259, t260] ⟨g8, g259, g260, trivial⟩ [] trivial (by kernel_rfl) (by kernel_rfl)
/- (postil/chart.edition).numbersOf -/
theorem g262 : Good t262 := good [] trivial [] trivial (by kernel_rfl) (by kernel_rfl)
/- (postil/chart.edition).refer -/
theorem g263 : Good t263 := good [t262] ⟨g262, trivial⟩ [] trivial (by kernel_rfl) (by kernel_rfl)
/- postil/chart.Refer -/
theorem g264 : Good t264 := good [t124, t261, t263] ⟨g124, g261, g263, trivial⟩ [] trivial (by kernel_rfl) (by kernel_rfl)
/- slices.Index[[]postil/api.Place,postil/api.Place] -/
theorem g265 : Good t265 := good [] trivial [] trivial (by kernel_rfl) (by kernel_rfl)
/- slices.Contains[[]postil/api.Place,postil/api.Place] -/
theorem g266 : Good t266 := good [t265] ⟨g265, trivial⟩ [] trivial (by kernel_rfl) (by kernel_rfl)
/- (postil/tome.records).sure -/
theorem g267 : Good t267 := good [t266] ⟨g266, trivial⟩ [] trivial (by kernel_rfl) (by kernel_rfl)
/- (postil/tome.records).spot -/
theorem g268 : Good t268 := good [t258, t264, t267] ⟨g258, g264, g267, trivial⟩ [] trivial (by kernel_rfl) (by kernel_rfl)
/- postil/leaf.Number -/
theorem g269 : Good t269 := good [t8] ⟨g8, trivial⟩ [] trivial (by kernel_rfl) (by kernel_rfl)
/- postil/stem.beginAt -/
theorem g270 : Good t270 := good [t39, t269] ⟨g39, g269, trivial⟩ [] trivial (by kernel_rfl) (by kernel_rfl)
/- postil/stem.comparePlaces -/
theorem g271 : Good t271 := good [] trivial [] trivial (by kernel_rfl) (by kernel_rfl)
/- postil/stem.compareDecisions -/
theorem g272 : Good t272 := good [t271] ⟨g271, trivial⟩ [] trivial (by kernel_rfl) (by kernel_rfl)
/- (postil/stem.lexicon).decision -/
theorem g273 : Good t273 := good [t139, t272] ⟨g139, g272, trivial⟩ [] trivial (by kernel_rfl) (by kernel_rfl)
/- (postil/stem.lexicon).head -/
theorem g274 : Good t274 := good [t273] ⟨g273, trivial⟩ [] trivial (by kernel_rfl) (by kernel_rfl)
/- postil/stem.HeadOf -/
theorem g275 : Good t275 := good [t270, t274] ⟨g270, g274, trivial⟩ [] trivial (by kernel_rfl) (by kernel_rfl)
/- (postil/leaf.text).lineOf -/
theorem g276 : Good t276 := good [] trivial [] trivial (by kernel_rfl) (by kernel_rfl)
/- (postil/leaf.text).hasPlace -/
theorem g277 : Good t277 := good [t276] ⟨g276, trivial⟩ [] trivial (by kernel_rfl) (by kernel_rfl)
/- postil/leaf.At -/
theorem g278 : Good t278 := good [t8, t276, t277] ⟨g8, g276, g277, trivial⟩ [] trivial (by kernel_rfl) (by kernel_rfl)
/- (postil/chart.edition).numbersOf -/
theorem g279 : Good t279 := good [] trivial [] trivial (by kernel_rfl) (by kernel_rfl)
/- (postil/chart.edition).refer -/
theorem g280 : Good t280 := good [t279] ⟨g279, trivial⟩ [] trivial (by kernel_rfl) (by kernel_rfl)
/- postil/chart.Refer -/
theorem g281 : Good t281 := good [t124, t278, t280] ⟨g124, g278, g280, trivial⟩ [] trivial (by kernel_rfl) (by kernel_rfl)
/- slices.Index[[]postil/api.Place,postil/api.Place] -/
theorem g282 : Good t282 := good [] trivial [] trivial (by kernel_rfl) (by kernel_rfl)
/- slices.Contains[[]postil/api.Place,postil/api.Place] -/
theorem g283 : Good t283 := good [t282] ⟨g282, trivial⟩ [] trivial (by kernel_rfl) (by kernel_rfl)
/- (postil/tome.records).sure -/
theorem g284 : Good t284 := good [t283] ⟨g283, trivial⟩ [] trivial (by kernel_rfl) (by kernel_rfl)
/- (postil/tome.records).spot -/
theorem g285 : Good t285 := good [t275, t281, t284] ⟨g275, g281, g284, trivial⟩ [] trivial (by kernel_rfl) (by kernel_rfl)
/- (postil/tome.records).spots -/
theorem g286 : Good t286 := good [t135, t152, t169, t187, t207, t221, t236, t251, t268, t285] ⟨g135, g152, g169, g187, g207, g221, g236, g251, g268, g285, trivial⟩ [] trivial (by kernel_rfl) (by kernel_rfl)
/- postil/tome.compareHeads -/
theorem g287 : Good t287 := good [] trivial [] trivial (by kernel_rfl) (by kernel_rfl)
/- postil/tome.compareSpots -/
theorem g288 : Good t288 := good [t287] ⟨g287, trivial⟩ [] trivial (by kernel_rfl) (by kernel_rfl)
/- postil/tome.compareHeads -/
theorem g289 : Good t289 := good [] trivial [] trivial (by kernel_rfl) (by kernel_rfl)
/- postil/tome.compareSpots -/
theorem g290 : Good t290 := good [t289] ⟨g289, trivial⟩ [] trivial (by kernel_rfl) (by kernel_rfl)
/- postil/tome.compareHeads -/
theorem g291 : Good t291 := good [] trivial [] trivial (by kernel_rfl) (by kernel_rfl)
/- postil/tome.compareSpots -/
theorem g292 : Good t292 := good [t291] ⟨g291, trivial⟩ [] trivial (by kernel_rfl) (by kernel_rfl)
/- postil/tome.compareHeads -/
theorem g293 : Good t293 := good [] trivial [] trivial (by kernel_rfl) (by kernel_rfl)
/- postil/tome.compareSpots -/
theorem g294 : Good t294 := good [t293] ⟨g293, trivial⟩ [] trivial (by kernel_rfl) (by kernel_rfl)
/- postil/tome.compareHeads -/
theorem g295 : Good t295 := good [] trivial [] trivial (by kernel_rfl) (by kernel_rfl)
/- postil/tome.compareSpots -/
theorem g296 : Good t296 := good [t295] ⟨g295, trivial⟩ [] trivial (by kernel_rfl) (by kernel_rfl)
/- postil/tome.compareHeads -/
theorem g297 : Good t297 := good [] trivial [] trivial (by kernel_rfl) (by kernel_rfl)
/- postil/tome.compareSpots -/
theorem g298 : Good t298 := good [t297] ⟨g297, trivial⟩ [] trivial (by kernel_rfl) (by kernel_rfl)
/- postil/tome.compareHeads -/
theorem g299 : Good t299 := good [] trivial [] trivial (by kernel_rfl) (by kernel_rfl)
/- postil/tome.compareSpots -/
theorem g300 : Good t300 := good [t299] ⟨g299, trivial⟩ [] trivial (by kernel_rfl) (by kernel_rfl)
/- postil/tome.compareHeads -/
theorem g301 : Good t301 := good [] trivial [] trivial (by kernel_rfl) (by kernel_rfl)
/- postil/tome.compareSpots -/
theorem g302 : Good t302 := good [t301] ⟨g301, trivial⟩ [] trivial (by kernel_rfl) (by kernel_rfl)
/- postil/tome.compareHeads -/
theorem g303 : Good t303 := good [] trivial [] trivial (by kernel_rfl) (by kernel_rfl)
/- postil/tome.compareSpots -/
theorem g304 : Good t304 := good [t303] ⟨g303, trivial⟩ [] trivial (by kernel_rfl) (by kernel_rfl)
/- postil/tome.compareHeads -/
theorem g305 : Good t305 := good [] trivial [] trivial (by kernel_rfl) (by kernel_rfl)
/- postil/tome.compareSpots -/
theorem g306 : Good t306 := good [t305] ⟨g305, trivial⟩ [] trivial (by kernel_rfl) (by kernel_rfl)
/- postil/tome.compareHeads -/
theorem g307 : Good t307 := good [] trivial [] trivial (by kernel_rfl) (by kernel_rfl)
/- postil/tome.compareSpots -/
theorem g308 : Good t308 := good [t307] ⟨g307, trivial⟩ [] trivial (by kernel_rfl) (by kernel_rfl)
/- postil/tome.compareSpots -/
theorem g309 : Good t309 := good [t287] ⟨g287, trivial⟩ [] trivial (by kernel_rfl) (by kernel_rfl)
/- postil/tome.compareSpots -/
theorem g310 : Good t310 := good [t287] ⟨g287, trivial⟩ [] trivial (by kernel_rfl) (by kernel_rfl)
/- postil/tome.compareHeads -/
theorem g311 : Good t311 := good [] trivial [] trivial (by kernel_rfl) (by kernel_rfl)
/- postil/tome.compareSpots -/
theorem g312 : Good t312 := good [t311] ⟨g311, trivial⟩ [] trivial (by kernel_rfl) (by kernel_rfl)
/- postil/tome.compareSpots -/
theorem g313 : Good t313 := good [t287] ⟨g287, trivial⟩ [] trivial (by kernel_rfl) (by kernel_rfl)
/- postil/tome.compareSpots -/
theorem g314 : Good t314 := good [t287] ⟨g287, trivial⟩ [] trivial (by kernel_rfl) (by kernel_rfl)
/- postil/tome.compareSpots -/
theorem g315 : Good t315 := good [t311] ⟨g311, trivial⟩ [] trivial (by kernel_rfl) (by kernel_rfl)
/- postil/tome.compareHeads -/
theorem g316 : Good t316 := good [] trivial [] trivial (by kernel_rfl) (by kernel_rfl)
/- postil/tome.compareSpots -/
theorem g317 : Good t317 := good [t316] ⟨g316, trivial⟩ [] trivial (by kernel_rfl) (by kernel_rfl)
/- postil/tome.compareSpots -/
theorem g318 : Good t318 := good [t316] ⟨g316, trivial⟩ [] trivial (by kernel_rfl) (by kernel_rfl)
/- postil/tome.compareHeads -/
theorem g319 : Good t319 := good [] trivial [] trivial (by kernel_rfl) (by kernel_rfl)
/- postil/tome.compareSpots -/
theorem g320 : Good t320 := good [t319] ⟨g319, trivial⟩ [] trivial (by kernel_rfl) (by kernel_rfl)
/- postil/tome.compareSpots -/
theorem g321 : Good t321 := good [t319] ⟨g319, trivial⟩ [] trivial (by kernel_rfl) (by kernel_rfl)
/- postil/tome.compareSpots -/
theorem g322 : Good t322 := good [t319] ⟨g319, trivial⟩ [] trivial (by kernel_rfl) (by kernel_rfl)
/- postil/tome.compareHeads -/
theorem g323 : Good t323 := good [] trivial [] trivial (by kernel_rfl) (by kernel_rfl)
/- postil/tome.compareSpots -/
theorem g324 : Good t324 := good [t323] ⟨g323, trivial⟩ [] trivial (by kernel_rfl) (by kernel_rfl)
/- postil/tome.compareHeads -/
theorem g325 : Good t325 := good [] trivial [] trivial (by kernel_rfl) (by kernel_rfl)
/- postil/tome.compareSpots -/
theorem g326 : Good t326 := good [t325] ⟨g325, trivial⟩ [] trivial (by kernel_rfl) (by kernel_rfl)
/- postil/tome.compareHeads -/
theorem g327 : Good t327 := good [] trivial [] trivial (by kernel_rfl) (by kernel_rfl)
/- postil/tome.compareSpots -/
theorem g328 : Good t328 := good [t327] ⟨g327, trivial⟩ [] trivial (by kernel_rfl) (by kernel_rfl)
/- postil/tome.compareHeads -/
theorem g329 : Good t329 := good [] trivial [] trivial (by kernel_rfl) (by kernel_rfl)
/- postil/tome.compareSpots -/
theorem g330 : Good t330 := good [t329] ⟨g329, trivial⟩ [] trivial (by kernel_rfl) (by kernel_rfl)
/- postil/tome.compareSpots -/
theorem g331 : Good t331 := good [t329] ⟨g329, trivial⟩ [] trivial (by kernel_rfl) (by kernel_rfl)
/- postil/tome.compareHeads -/
theorem g332 : Good t332 := good [] trivial [] trivial (by kernel_rfl) (by kernel_rfl)
/- postil/tome.compareSpots -/
theorem g333 : Good t333 := good [t332] ⟨g332, trivial⟩ [] trivial (by kernel_rfl) (by kernel_rfl)
/- (postil/tome.records).volume -/
theorem g334 : Good t334 := good [t286, t288, t290, t292, t294, t296, t298, t300, t302, t304, t306, t308, t309, t310, t312, t313, t314, t315, t317, t318, t320, t321, t322, t324, t326, t328, t330, t331, t333] ⟨g286, g288, g290, g292, g294, g296, g298, g300, g302, g304, g306, g308, g309, g310, g312, g313, g314, g315, g317, g318, g320, g321, g322, g324, g326, g328, g330, g331, g333, trivial⟩ [] trivial (by kernel_rfl) (by kernel_rfl)
/- postil/tome.Make -/
theorem g335 : Good t335 := good [t116, t334] ⟨g116, g334, trivial⟩ [] trivial (by kernel_rfl) (by kernel_rfl)
/- (postil/stem.lexicon).heads -/
theorem g336 : Good t336 := good [t122, t141, t158, t177, t194, t211, t225, t240, t257, t274] ⟨g122, g141, g158, g177, g194, g211, g225, g240, g257, g274, trivial⟩ [] trivial (by kernel_rfl) (by kernel_rfl)
/- slices.Index[[]postil/api.Head,postil/api.Head] -/
theorem g337 : Good t337 := good [] trivial [] trivial (by kernel_rfl) (by kernel_rfl)
/- slices.Contains[[]postil/api.Head,postil/api.Head] -/
theorem g338 : Good t338 := good [t337] ⟨g337, trivial⟩ [] trivial (by kernel_rfl) (by kernel_rfl)
/- postil/stem.beginUnder -/
theorem g339 : Good t339 := good [t27, t39, t336, t338] ⟨g27, g39, g336, g338, trivial⟩ [] trivial (by kernel_rfl) (by kernel_rfl)
/- postil/stem.Under -/
theorem g340 : Good t340 := good [t339] ⟨g339, trivial⟩ [] trivial (by kernel_rfl) (by kernel_rfl)
/- slices.Index[[]postil/api.Place,postil/api.Place] -/
theorem g341 : Good t341 := good [] trivial [] trivial (by kernel_rfl) (by kernel_rfl)
/- slices.Contains[[]postil/api.Place,postil/api.Place] -/
theorem g342 : Good t342 := good [t341] ⟨g341, trivial⟩ [] trivial (by kernel_rfl) (by kernel_rfl)
/- slices.Index[[]postil/api.Place,postil/api.Place] -/
theorem g343 : Good t343 := good [] trivial [] trivial (by kernel_rfl) (by kernel_rfl)
/- slices.Contains[[]postil/api.Place,postil/api.Place] -/
theorem g344 : Good t344 := good [t343] ⟨g343, trivial⟩ [] trivial (by kernel_rfl) (by kernel_rfl)
/- slices.Index[[]postil/api.Place,postil/api.Place] -/
theorem g345 : Good t345 := good [] trivial [] trivial (by kernel_rfl) (by kernel_rfl)
/- slices.Contains[[]postil/api.Place,postil/api.Place] -/
theorem g346 : Good t346 := good [t345] ⟨g345, trivial⟩ [] trivial (by kernel_rfl) (by kernel_rfl)
/- slices.Index[[]postil/api.Place,postil/api.Place] -/
theorem g347 : Good t347 := good [] trivial [] trivial (by kernel_rfl) (by kernel_rfl)
/- slices.Contains[[]postil/api.Place,postil/api.Place] -/
theorem g348 : Good t348 := good [t347] ⟨g347, trivial⟩ [] trivial (by kernel_rfl) (by kernel_rfl)
/- slices.Index[[]postil/api.Place,postil/api.Place] -/
theorem g349 : Good t349 := good [] trivial [] trivial (by kernel_rfl) (by kernel_rfl)
/- slices.Contains[[]postil/api.Place,postil/api.Place] -/
theorem g350 : Good t350 := good [t349] ⟨g349, trivial⟩ [] trivial (by kernel_rfl) (by kernel_rfl)
/- slices.Index[[]postil/api.Place,postil/api.Place] -/
theorem g351 : Good t351 := good [] trivial [] trivial (by kernel_rfl) (by kernel_rfl)
/- slices.Contains[[]postil/api.Place,postil/api.Place] -/
theorem g352 : Good t352 := good [t351] ⟨g351, trivial⟩ [] trivial (by kernel_rfl) (by kernel_rfl)
/- slices.Index[[]postil/api.Place,postil/api.Place] -/
theorem g353 : Good t353 := good [] trivial [] trivial (by kernel_rfl) (by kernel_rfl)
/- slices.Contains[[]postil/api.Place,postil/api.Place] -/
theorem g354 : Good t354 := good [t353] ⟨g353, trivial⟩ [] trivial (by kernel_rfl) (by kernel_rfl)
/- slices.Index[[]postil/api.Place,postil/api.Place] -/
theorem g355 : Good t355 := good [] trivial [] trivial (by kernel_rfl) (by kernel_rfl)
/- slices.Contains[[]postil/api.Place,postil/api.Place] -/
theorem g356 : Good t356 := good [t355] ⟨g355, trivial⟩ [] trivial (by kernel_rfl) (by kernel_rfl)
/- slices.Index[[]postil/api.Place,postil/api.Place] -/
theorem g357 : Good t357 := good [] trivial [] trivial (by kernel_rfl) (by kernel_rfl)
/- slices.Contains[[]postil/api.Place,postil/api.Place] -/
theorem g358 : Good t358 := good [t357] ⟨g357, trivial⟩ [] trivial (by kernel_rfl) (by kernel_rfl)
/- slices.Index[[]postil/api.Place,postil/api.Place] -/
theorem g359 : Good t359 := good [] trivial [] trivial (by kernel_rfl) (by kernel_rfl)
/- slices.Contains[[]postil/api.Place,postil/api.Place] -/
theorem g360 : Good t360 := good [t359] ⟨g359, trivial⟩ [] trivial (by kernel_rfl) (by kernel_rfl)
/- postil/tome.beginUnder -/
theorem g361 : Good t361 := good [t116, t340, t342, t344, t346, t348, t350, t352, t354, t356, t358, t360] ⟨g116, g340, g342, g344, g346, g348, g350, g352, g354, g356, g358, g360, trivial⟩ [] trivial (by kernel_rfl) (by kernel_rfl)
/- (postil/tome.records).sure -/
theorem g362 : Good t362 := good [t150] ⟨g150, trivial⟩ [] trivial (by kernel_rfl) (by kernel_rfl)
/- (postil/tome.records).spot -/
theorem g363 : Good t363 := good [t142, t148, t362] ⟨g142, g148, g362, trivial⟩ [] trivial (by kernel_rfl) (by kernel_rfl)
/- (postil/tome.records).sure -/
theorem g364 : Good t364 := good [t234] ⟨g234, trivial⟩ [] trivial (by kernel_rfl) (by kernel_rfl)
/- (postil/tome.records).spot -/
theorem g365 : Good t365 := good [t226, t232, t364] ⟨g226, g232, g364, trivial⟩ [] trivial (by kernel_rfl) (by kernel_rfl)
/- (postil/tome.records).sure -/
theorem g366 : Good t366 := good [t249] ⟨g249, trivial⟩ [] trivial (by kernel_rfl) (by kernel_rfl)
/- (postil/tome.records).spot -/
theorem g367 : Good t367 := good [t241, t247, t366] ⟨g241, g247, g366, trivial⟩ [] trivial (by kernel_rfl) (by kernel_rfl)
/- (postil/tome.records).spots -/
theorem g368 : Good t368 := good [t363, t365, t367] ⟨g363, g365, g367, trivial⟩ [] trivial (by kernel_rfl) (by kernel_rfl)
/- (postil/tome.records).volume -/
theorem g369 : Good t369 := good [t312, t315, t368] ⟨g312, g315, g368, trivial⟩ [] trivial (by kernel_rfl) (by kernel_rfl)
/- postil/tome.Of -/
theorem g370 : Good t370 := good [t361, t369] ⟨g361, g369, trivial⟩ [] trivial (by kernel_rfl) (by kernel_rfl)
/- postil/chart.within -/
theorem g371 : Good t371 := good [] trivial [] trivial (by kernel_rfl) (by kernel_rfl)
/- postil/chart.within -/
theorem g372 : Good t372 := good [] trivial [] trivial (by kernel_rfl) (by kernel_rfl)
/- postil/chart.within -/
theorem g373 : Good t373 := good [] trivial [] trivial (by kernel_rfl) (by kernel_rfl)
/- postil/chart.within -/
theorem g374 : Good t374 := good [] trivial [] trivial (by kernel_rfl) (by kernel_rfl)
/- postil/chart.isStretch -/
theorem g375 : Good t375 := good [t42, t372, t373, t374] ⟨g42, g372, g373, g374, trivial⟩ [] trivial (by kernel_rfl) (by kernel_rfl)
/- postil/chart.within -/
theorem g376 : Good t376 := good [] trivial [] trivial (by kernel_rfl) (by kernel_rfl)
/- postil/chart.isStretch -/
theorem g377 : Good t377 := good [t44, t46, t128, t200, t376] ⟨g44, g46, g128, g200, g376, trivial⟩ [] trivial (by kernel_rfl) (by kernel_rfl)
/- postil/chart.isEdition -/
theorem g378 : Good t378 := good [t371, t375, t377] ⟨g371, g375, g377, trivial⟩ [] trivial (by kernel_rfl) (by kernel_rfl)
/- postil/chart.check -/
theorem g379 : Good t379 := good [t9, t378] ⟨g9, g378, trivial⟩ [] trivial (by kernel_rfl) (by kernel_rfl)
/- postil/chart.clashes -/
theorem g380 : Good t380 := good [] trivial [] trivial (by kernel_rfl) (by kernel_rfl)
/- (postil/chart.edition).clash -/
theorem g381 : Good t381 := good [t380] ⟨g380, trivial⟩ [] trivial (by kernel_rfl) (by kernel_rfl)
/- postil/chart.Clash -/
theorem g382 : Good t382 := good [t379, t381] ⟨g379, g381, trivial⟩ [] trivial (by kernel_rfl) (by kernel_rfl)
/- postil/tome.checkSound -/
theorem g383 : Good t383 := good [t382] ⟨g382, trivial⟩ [] trivial (by kernel_rfl) (by kernel_rfl)
/- postil/chart.checkSound -/
theorem g384 : Good t384 := good [t379, t381] ⟨g379, g381, trivial⟩ [] trivial (by kernel_rfl) (by kernel_rfl)
/- (postil/chart.edition).numbersOf -/
theorem g385 : Good t385 := good [t42] ⟨g42, trivial⟩ [] trivial (by kernel_rfl) (by kernel_rfl)
/- (postil/chart.edition).refer -/
theorem g386 : Good t386 := good [t385] ⟨g385, trivial⟩ [] trivial (by kernel_rfl) (by kernel_rfl)
/- postil/chart.Refer -/
theorem g387 : Good t387 := good [t127, t384, t386] ⟨g127, g384, g386, trivial⟩ [] trivial (by kernel_rfl) (by kernel_rfl)
/- (postil/tome.records).sure -/
theorem g388 : Good t388 := good [t133] ⟨g133, trivial⟩ [] trivial (by kernel_rfl) (by kernel_rfl)
/- (postil/tome.records).spot -/
theorem g389 : Good t389 := good [t123, t387, t388] ⟨g123, g387, g388, trivial⟩ [] trivial (by kernel_rfl) (by kernel_rfl)
/- (postil/chart.edition).numbersOf -/
theorem g390 : Good t390 := good [t42] ⟨g42, trivial⟩ [] trivial (by kernel_rfl) (by kernel_rfl)
/- (postil/chart.edition).refer -/
theorem g391 : Good t391 := good [t390] ⟨g390, trivial⟩ [] trivial (by kernel_rfl) (by kernel_rfl)
/- postil/chart.Refer -/
theorem g392 : Good t392 := good [t145, t384, t391] ⟨g145, g384, g391, trivial⟩ [] trivial (by kernel_rfl) (by kernel_rfl)
/- (postil/tome.records).sure -/
theorem g393 : Good t393 := good [t150] ⟨g150, trivial⟩ [] trivial (by kernel_rfl) (by kernel_rfl)
/- (postil/tome.records).spot -/
theorem g394 : Good t394 := good [t142, t392, t393] ⟨g142, g392, g393, trivial⟩ [] trivial (by kernel_rfl) (by kernel_rfl)
/- (postil/chart.edition).numbersOf -/
theorem g395 : Good t395 := good [t42] ⟨g42, trivial⟩ [] trivial (by kernel_rfl) (by kernel_rfl)
/- (postil/chart.edition).refer -/
theorem g396 : Good t396 := good [t395] ⟨g395, trivial⟩ [] trivial (by kernel_rfl) (by kernel_rfl)
/- postil/chart.Refer -/
theorem g397 : Good t397 := good [t162, t384, t396] ⟨g162, g384, g396, trivial⟩ [] trivial (by kernel_rfl) (by kernel_rfl)
/- (postil/tome.records).sure -/
theorem g398 : Good t398 := good [t167] ⟨g167, trivial⟩ [] trivial (by kernel_rfl) (by kernel_rfl)
/- (postil/tome.records).spot -/
theorem g399 : Good t399 := good [t159, t397, t398] ⟨g159, g397, g398, trivial⟩ [] trivial (by kernel_rfl) (by kernel_rfl)
/- (postil/chart.edition).numbersOf -/
theorem g400 : Good t400 := good [t42] ⟨g42, trivial⟩ [] trivial (by kernel_rfl) (by kernel_rfl)
/- (postil/chart.edition).refer -/
theorem g401 : Good t401 := good [t400] ⟨g400, trivial⟩ [] trivial (by kernel_rfl) (by kernel_rfl)
/- postil/chart.Refer -/
theorem g402 : Good t402 := good [t180, t384, t401] ⟨g180, g384, g401, trivial⟩ [] trivial (by kernel_rfl) (by kernel_rfl)
/- (postil/tome.records).sure -/
theorem g403 : Good t403 := good [t185] ⟨g185, trivial⟩ [] trivial (by kernel_rfl) (by kernel_rfl)
/- (postil/tome.records).spot -/
theorem g404 : Good t404 := good [t178, t402, t403] ⟨g178, g402, g403, trivial⟩ [] trivial (by kernel_rfl) (by kernel_rfl)
/- (postil/chart.edition).numbersOf -/
theorem g405 : Good t405 := good [t46] ⟨g46, trivial⟩ [] trivial (by kernel_rfl) (by kernel_rfl)
/- (postil/chart.edition).refer -/
theorem g406 : Good t406 := good [t405] ⟨g405, trivial⟩ [] trivial (by kernel_rfl) (by kernel_rfl)
/- postil/chart.Refer -/
theorem g407 : Good t407 := good [t198, t384, t406] ⟨g198, g384, g406, trivial⟩ [] trivial (by kernel_rfl) (by kernel_rfl)
/- (postil/tome.records).sure -/
theorem g408 : Good t408 := good [t205] ⟨g205, trivial⟩ [] trivial (by kernel_rfl) (by kernel_rfl)
/- (postil/tome.records).spot -/
theorem g409 : Good t409 := good [t195, t407, t408] ⟨g195, g407, g408, trivial⟩ [] trivial (by kernel_rfl) (by kernel_rfl)
/- (postil/chart.edition).numbersOf -/
theorem g410 : Good t410 := good [t46] ⟨g46, trivial⟩ [] trivial (by kernel_rfl) (by kernel_rfl)
/- (postil/chart.edition).refer -/
theorem g411 : Good t411 := good [t410] ⟨g410, trivial⟩ [] trivial (by kernel_rfl) (by kernel_rfl)
/- postil/chart.Refer -/
theorem g412 : Good t412 := good [t214, t384, t411] ⟨g214, g384, g411, trivial⟩ [] trivial (by kernel_rfl) (by kernel_rfl)
/- (postil/tome.records).sure -/
theorem g413 : Good t413 := good [t219] ⟨g219, trivial⟩ [] trivial (by kernel_rfl) (by kernel_rfl)
/- (postil/tome.records).spot -/
theorem g414 : Good t414 := good [t212, t412, t413] ⟨g212, g412, g413, trivial⟩ [] trivial (by kernel_rfl) (by kernel_rfl)
/- (postil/chart.edition).numbersOf -/
theorem g415 : Good t415 := good [t46] ⟨g46, trivial⟩ [] trivial (by kernel_rfl) (by kernel_rfl)
/- (postil/chart.edition).refer -/
theorem g416 : Good t416 := good [t415] ⟨g415, trivial⟩ [] trivial (by kernel_rfl) (by kernel_rfl)
/- postil/chart.Refer -/
theorem g417 : Good t417 := good [t229, t384, t416] ⟨g229, g384, g416, trivial⟩ [] trivial (by kernel_rfl) (by kernel_rfl)
/- (postil/tome.records).sure -/
theorem g418 : Good t418 := good [t234] ⟨g234, trivial⟩ [] trivial (by kernel_rfl) (by kernel_rfl)
/- (postil/tome.records).spot -/
theorem g419 : Good t419 := good [t226, t417, t418] ⟨g226, g417, g418, trivial⟩ [] trivial (by kernel_rfl) (by kernel_rfl)
/- (postil/chart.edition).numbersOf -/
theorem g420 : Good t420 := good [t128] ⟨g128, trivial⟩ [] trivial (by kernel_rfl) (by kernel_rfl)
/- (postil/chart.edition).refer -/
theorem g421 : Good t421 := good [t420] ⟨g420, trivial⟩ [] trivial (by kernel_rfl) (by kernel_rfl)
/- postil/chart.Refer -/
theorem g422 : Good t422 := good [t244, t384, t421] ⟨g244, g384, g421, trivial⟩ [] trivial (by kernel_rfl) (by kernel_rfl)
/- (postil/tome.records).sure -/
theorem g423 : Good t423 := good [t249] ⟨g249, trivial⟩ [] trivial (by kernel_rfl) (by kernel_rfl)
/- (postil/tome.records).spot -/
theorem g424 : Good t424 := good [t241, t422, t423] ⟨g241, g422, g423, trivial⟩ [] trivial (by kernel_rfl) (by kernel_rfl)
/- (postil/chart.edition).numbersOf -/
theorem g425 : Good t425 := good [t128] ⟨g128, trivial⟩ [] trivial (by kernel_rfl) (by kernel_rfl)
/- (postil/chart.edition).refer -/
theorem g426 : Good t426 := good [t425] ⟨g425, trivial⟩ [] trivial (by kernel_rfl) (by kernel_rfl)
/- postil/chart.Refer -/
theorem g427 : Good t427 := good [t261, t384, t426] ⟨g261, g384, g426, trivial⟩ [] trivial (by kernel_rfl) (by kernel_rfl)
/- (postil/tome.records).sure -/
theorem g428 : Good t428 := good [t266] ⟨g266, trivial⟩ [] trivial (by kernel_rfl) (by kernel_rfl)
/- (postil/tome.records).spot -/
theorem g429 : Good t429 := good [t258, t427, t428] ⟨g258, g427, g428, trivial⟩ [] trivial (by kernel_rfl) (by kernel_rfl)
/- (postil/chart.edition).numbersOf -/
theorem g430 : Good t430 := good [t128] ⟨g128, trivial⟩ [] trivial (by kernel_rfl) (by kernel_rfl)
/- (postil/chart.edition).refer -/
theorem g431 : Good t431 := good [t430] ⟨g430, trivial⟩ [] trivial (by kernel_rfl) (by kernel_rfl)
/- postil/chart.Refer -/
theorem g432 : Good t432 := good [t278, t384, t431] ⟨g278, g384, g431, trivial⟩ [] trivial (by kernel_rfl) (by kernel_rfl)
/- (postil/tome.records).sure -/
theorem g433 : Good t433 := good [t283] ⟨g283, trivial⟩ [] trivial (by kernel_rfl) (by kernel_rfl)
/- (postil/tome.records).spot -/
theorem g434 : Good t434 := good [t275, t432, t433] ⟨g275, g432, g433, trivial⟩ [] trivial (by kernel_rfl) (by kernel_rfl)
/- (postil/tome.records).spots -/
theorem g435 : Good t435 := good [t389, t394, t399, t404, t409, t414, t419, t424, t429, t434] ⟨g389, g394, g399, g404, g409, g414, g419, g424, g429, g434, trivial⟩ [] trivial (by kernel_rfl) (by kernel_rfl)
/- postil/tome.compareSpots -/
theorem g436 : Good t436 := good [t287] ⟨g287, trivial⟩ [] trivial (by kernel_rfl) (by kernel_rfl)
/- postil/tome.compareSpots -/
theorem g437 : Good t437 := good [t289] ⟨g289, trivial⟩ [] trivial (by kernel_rfl) (by kernel_rfl)
/- postil/tome.compareSpots -/
theorem g438 : Good t438 := good [t291] ⟨g291, trivial⟩ [] trivial (by kernel_rfl) (by kernel_rfl)
/- postil/tome.compareSpots -/
theorem g439 : Good t439 := good [t293] ⟨g293, trivial⟩ [] trivial (by kernel_rfl) (by kernel_rfl)
/- postil/tome.compareSpots -/
theorem g440 : Good t440 := good [t295] ⟨g295, trivial⟩ [] trivial (by kernel_rfl) (by kernel_rfl)
/- postil/tome.compareSpots -/
theorem g441 : Good t441 := good [t297] ⟨g297, trivial⟩ [] trivial (by kernel_rfl) (by kernel_rfl)
/- postil/tome.compareSpots -/
theorem g442 : Good t442 := good [t299] ⟨g299, trivial⟩ [] trivial (by kernel_rfl) (by kernel_rfl)
/- postil/tome.compareSpots -/
theorem g443 : Good t443 := good [t301] ⟨g301, trivial⟩ [] trivial (by kernel_rfl) (by kernel_rfl)
/- postil/tome.compareSpots -/
theorem g444 : Good t444 := good [t303] ⟨g303, trivial⟩ [] trivial (by kernel_rfl) (by kernel_rfl)
/- postil/tome.compareSpots -/
theorem g445 : Good t445 := good [t305] ⟨g305, trivial⟩ [] trivial (by kernel_rfl) (by kernel_rfl)
/- postil/tome.compareSpots -/
theorem g446 : Good t446 := good [t307] ⟨g307, trivial⟩ [] trivial (by kernel_rfl) (by kernel_rfl)
/- postil/tome.compareSpots -/
theorem g447 : Good t447 := good [t287] ⟨g287, trivial⟩ [] trivial (by kernel_rfl) (by kernel_rfl)
/- postil/tome.compareSpots -/
theorem g448 : Good t448 := good [t287] ⟨g287, trivial⟩ [] trivial (by kernel_rfl) (by kernel_rfl)
/- postil/tome.compareSpots -/
theorem g449 : Good t449 := good [t311] ⟨g311, trivial⟩ [] trivial (by kernel_rfl) (by kernel_rfl)
/- postil/tome.compareSpots -/
theorem g450 : Good t450 := good [t287] ⟨g287, trivial⟩ [] trivial (by kernel_rfl) (by kernel_rfl)
/- postil/tome.compareSpots -/
theorem g451 : Good t451 := good [t287] ⟨g287, trivial⟩ [] trivial (by kernel_rfl) (by kernel_rfl)
/- postil/tome.compareSpots -/
theorem g452 : Good t452 := good [t311] ⟨g311, trivial⟩ [] trivial (by kernel_rfl) (by kernel_rfl)
/- postil/tome.compareSpots -/
theorem g453 : Good t453 := good [t316] ⟨g316, trivial⟩ [] trivial (by kernel_rfl) (by kernel_rfl)
/- postil/tome.compareSpots -/
theorem g454 : Good t454 := good [t316] ⟨g316, trivial⟩ [] trivial (by kernel_rfl) (by kernel_rfl)
/- postil/tome.compareSpots -/
theorem g455 : Good t455 := good [t319] ⟨g319, trivial⟩ [] trivial (by kernel_rfl) (by kernel_rfl)
/- postil/tome.compareSpots -/
theorem g456 : Good t456 := good [t319] ⟨g319, trivial⟩ [] trivial (by kernel_rfl) (by kernel_rfl)
/- postil/tome.compareSpots -/
theorem g457 : Good t457 := good [t319] ⟨g319, trivial⟩ [] trivial (by kernel_rfl) (by kernel_rfl)
/- postil/tome.compareSpots -/
theorem g458 : Good t458 := good [t323] ⟨g323, trivial⟩ [] trivial (by kernel_rfl) (by kernel_rfl)
/- postil/tome.compareSpots -/
theorem g459 : Good t459 := good [t325] ⟨g325, trivial⟩ [] trivial (by kernel_rfl) (by kernel_rfl)
/- postil/tome.compareSpots -/
theorem g460 : Good t460 := good [t327] ⟨g327, trivial⟩ [] trivial (by kernel_rfl) (by kernel_rfl)
/- postil/tome.compareSpots -/
theorem g461 : Good t461 := good [t329] ⟨g329, trivial⟩ [] trivial (by kernel_rfl) (by kernel_rfl)
/- postil/tome.compareSpots -/
theorem g462 : Good t462 := good [t329] ⟨g329, trivial⟩ [] trivial (by kernel_rfl) (by kernel_rfl)
/- postil/tome.compareSpots -/
theorem g463 : Good t463 := good [t332] ⟨g332, trivial⟩ [] trivial (by kernel_rfl) (by kernel_rfl)
/- (postil/tome.records).volume -/
theorem g464 : Good t464 := good [t435, t436, t437, t438, t439, t440, t441, t442, t443, t444, t445, t446, t447, t448, t449, t450, t451, t452, t453, t454, t455, t456, t457, t458, t459, t460, t461, t462, t463] ⟨g435, g436, g437, g438, g439, g440, g441, g442, g443, g444, g445, g446, g447, g448, g449, g450, g451, g452, g453, g454, g455, g456, g457, g458, g459, g460, g461, g462, g463, trivial⟩ [] trivial (by kernel_rfl) (by kernel_rfl)
/- postil/tome.In -/
theorem g465 : Good t465 := good [t116, t383, t464] ⟨g116, g383, g464, trivial⟩ [] trivial (by kernel_rfl) (by kernel_rfl)
/- postil/tome.isVolume -/
theorem g466 : Good t466 := good [] trivial [] trivial (by kernel_rfl) (by kernel_rfl)
/- postil/tome.Count -/
theorem g467 : Good t467 := good [t466] ⟨g466, trivial⟩ [] trivial (by kernel_rfl) (by kernel_rfl)
/- postil/tome.Check -/
theorem g468 : Good t468 := good [t82] ⟨g82, trivial⟩ [] trivial (by kernel_rfl) (by kernel_rfl)
/- slices.Concat[[]postil/api.Decision,postil/api.Decision] -/
theorem g469 : Good t469 := good [] trivial [] trivial (by kernel_rfl) (by kernel_rfl)
/- postil/stem.kinds$1 -/
theorem g470 : Good t470 := good [t26, t27] ⟨g26, g27, trivial⟩ [] trivial (by kernel_rfl) (by kernel_rfl)
/- (postil/stem.lexicon).isDecision -/
theorem g471 : Good t471 := good [t470] ⟨g470, trivial⟩ [] trivial (by kernel_rfl) (by kernel_rfl)
/- slices.Index[[]postil/api.Place,postil/api.Place] -/
theorem g472 : Good t472 := good [] trivial [] trivial (by kernel_rfl) (by kernel_rfl)
/- slices.Contains[[]postil/api.Place,postil/api.Place] -/
theorem g473 : Good t473 := good [t472] ⟨g472, trivial⟩ [] trivial (by kernel_rfl) (by kernel_rfl)
/- (postil/stem.lexicon).hasPlace -/
theorem g474 : Good t474 := good [t473] ⟨g473, trivial⟩ [] trivial (by kernel_rfl) (by kernel_rfl)
/- postil/stem.kinds$3 -/
theorem g475 : Good t475 := good [t30, t34, t474] ⟨g30, g34, g474, trivial⟩ [] trivial (by kernel_rfl) (by kernel_rfl)
/- (postil/stem.lexicon).isDecision -/
theorem g476 : Good t476 := good [t475] ⟨g475, trivial⟩ [] trivial (by kernel_rfl) (by kernel_rfl)
/- slices.Index[[]postil/api.Place,postil/api.Place] -/
theorem g477 : Good t477 := good [] trivial [] trivial (by kernel_rfl) (by kernel_rfl)
/- slices.Contains[[]postil/api.Place,postil/api.Place] -/
theorem g478 : Good t478 := good [t477] ⟨g477, trivial⟩ [] trivial (by kernel_rfl) (by kernel_rfl)
/- (postil/stem.lexicon).hasPlace -/
theorem g479 : Good t479 := good [t478] ⟨g478, trivial⟩ [] trivial (by kernel_rfl) (by kernel_rfl)
/- postil/stem.kinds$5 -/
theorem g480 : Good t480 := good [t38, t479] ⟨g38, g479, trivial⟩ [] trivial (by kernel_rfl) (by kernel_rfl)
/- (postil/stem.lexicon).isDecision -/
theorem g481 : Good t481 := good [t480] ⟨g480, trivial⟩ [] trivial (by kernel_rfl) (by kernel_rfl)
/- postil/stem.kinds$1 -/
theorem g482 : Good t482 := good [t26, t38] ⟨g26, g38, trivial⟩ [] trivial (by kernel_rfl) (by kernel_rfl)
/- (postil/stem.lexicon).isDecision -/
theorem g483 : Good t483 := good [t482] ⟨g482, trivial⟩ [] trivial (by kernel_rfl) (by kernel_rfl)
/- (postil/stem.lexicon).areDecisions -/
theorem g484 : Good t484 := good [t471, t476, t481, t483] ⟨g471, g476, g481, g483, trivial⟩ [] trivial (by kernel_rfl) (by kernel_rfl)
/- (postil/stem.lexicon).deciding -/
theorem g485 : Good t485 := good [] trivial [] trivial (by kernel_rfl) (by kernel_rfl)
/- postil/stem.beginMore -/
theorem g486 : Good t486 := good [t39, t469, t484, t485] ⟨g39, g469, g484, g485, trivial⟩ [] trivial (by kernel_rfl) (by kernel_rfl)
/- postil/stem.Add -/
theorem g487 : Good t487 := good [t486] ⟨g486, trivial⟩ [] trivial (by kernel_rfl) (by kernel_rfl)
/- (postil/stem.lexicon).decision -/
theorem g488 : Good t488 := good [] trivial [] trivial (by kernel_rfl) (by kernel_rfl)
/- (postil/stem.lexicon).turned -/
theorem g489 : Good t489 := good [] trivial [] trivial (by kernel_rfl) (by kernel_rfl)
/- (postil/stem.lexicon).steps -/
theorem g490 : Good t490 := good [t489] ⟨g489, trivial⟩ [] trivial (by kernel_rfl) (by kernel_rfl)
/- (postil/stem.lexicon).head -/
theorem g491 : Good t491 := good [t488, t490] ⟨g488, g490, trivial⟩ [] trivial (by kernel_rfl) (by kernel_rfl)
/- postil/stem.compareDecisions -/
theorem g492 : Good t492 := good [t138] ⟨g138, trivial⟩ [] trivial (by kernel_rfl) (by kernel_rfl)
/- (postil/stem.lexicon).decision -/
theorem g493 : Good t493 := good [t139, t492] ⟨g139, g492, trivial⟩ [] trivial (by kernel_rfl) (by kernel_rfl)
/- (postil/stem.lexicon).head -/
theorem g494 : Good t494 := good [t493] ⟨g493, trivial⟩ [] trivial (by kernel_rfl) (by kernel_rfl)
/- (postil/stem.lexicon).decision -/
theorem g495 : Good t495 := good [] trivial [] trivial (by kernel_rfl) (by kernel_rfl)
/- (postil/stem.lexicon).turned -/
theorem g496 : Good t496 := good [] trivial [] trivial (by kernel_rfl) (by kernel_rfl)
/- (postil/stem.lexicon).steps -/
theorem g497 : Good t497 := good [t496] ⟨g496, trivial⟩ [] trivial (by kernel_rfl) (by kernel_rfl)
/- (postil/stem.lexicon).head -/
theorem g498 : Good t498 := good [t495, t497] ⟨g495, g497, trivial⟩ [] trivial (by kernel_rfl) (by kernel_rfl)
/- (postil/stem.lexicon).decision -/
theorem g499 : Good t499 := good [t172] ⟨g172, trivial⟩ [] trivial (by kernel_rfl) (by kernel_rfl)
/- (postil/stem.lexicon).turned -/
theorem g500 : Good t500 := good [] trivial [] trivial (by kernel_rfl) (by kernel_rfl)
/- (postil/stem.lexicon).turned -/
theorem g501 : Good t501 := good [] trivial [] trivial (by kernel_rfl) (by kernel_rfl)
/- (postil/stem.lexicon).steps -/
theorem g502 : Good t502 := good [t500, t501] ⟨g500, g501, trivial⟩ [] trivial (by kernel_rfl) (by kernel_rfl)
/- (postil/stem.lexicon).head -/
theorem g503 : Good t503 := good [t499, t502] ⟨g499, g502, trivial⟩ [] trivial (by kernel_rfl) (by kernel_rfl)
/- (postil/stem.lexicon).decision -/
theorem g504 : Good t504 := good [t190, t192] ⟨g190, g192, trivial⟩ [] trivial (by kernel_rfl) (by kernel_rfl)
/- (postil/stem.lexicon).head -/
theorem g505 : Good t505 := good [t504] ⟨g504, trivial⟩ [] trivial (by kernel_rfl) (by kernel_rfl)
/- (postil/stem.lexicon).decision -/
theorem g506 : Good t506 := good [] trivial [] trivial (by kernel_rfl) (by kernel_rfl)
/- (postil/stem.lexicon).head -/
theorem g507 : Good t507 := good [t490, t506] ⟨g490, g506, trivial⟩ [] trivial (by kernel_rfl) (by kernel_rfl)
/- (postil/stem.lexicon).decision -/
theorem g508 : Good t508 := good [t139, t492] ⟨g139, g492, trivial⟩ [] trivial (by kernel_rfl) (by kernel_rfl)
/- (postil/stem.lexicon).head -/
theorem g509 : Good t509 := good [t508] ⟨g508, trivial⟩ [] trivial (by kernel_rfl) (by kernel_rfl)
/- (postil/stem.lexicon).decision -/
theorem g510 : Good t510 := good [t139, t492] ⟨g139, g492, trivial⟩ [] trivial (by kernel_rfl) (by kernel_rfl)
/- (postil/stem.lexicon).head -/
theorem g511 : Good t511 := good [t510] ⟨g510, trivial⟩ [] trivial (by kernel_rfl) (by kernel_rfl)
/- (postil/stem.lexicon).decision -/
theorem g512 : Good t512 := good [] trivial [] trivial (by kernel_rfl) (by kernel_rfl)
/- (postil/stem.lexicon).turned -/
theorem g513 : Good t513 := good [] trivial [] trivial (by kernel_rfl) (by kernel_rfl)
/- (postil/stem.lexicon).steps -/
theorem g514 : Good t514 := good [t513] ⟨g513, trivial⟩ [] trivial (by kernel_rfl) (by kernel_rfl)
/- (postil/stem.lexicon).head -/
theorem g515 : Good t515 := good [t512, t514] ⟨g512, g514, trivial⟩ [] trivial (by kernel_rfl) (by kernel_rfl)
/- postil/stem.comparePlaces -/
theorem g516 : Good t516 := good [] trivial [] trivial (by kernel_rfl) (by kernel_rfl)
/- postil/stem.compareDecisions -/
theorem g517 : Good t517 := good [t516] ⟨g516, trivial⟩ [] trivial (by kernel_rfl) (by kernel_rfl)
/- (postil/stem.lexicon).decision -/
theorem g518 : Good t518 := good [t139, t272, t517] ⟨g139, g272, g517, trivial⟩ [] trivial (by kernel_rfl) (by kernel_rfl)
/- (postil/stem.lexicon).head -/
theorem g519 : Good t519 := good [t518] ⟨g518, trivial⟩ [] trivial (by kernel_rfl) (by kernel_rfl)
/- (postil/stem.lexicon).heads -/
theorem g520 : Good t520 := good [t491, t494, t498, t503, t505, t507, t509, t511, t515, t519] ⟨g491, g494, g498, g503, g505, g507, g509, g511, g515, g519, trivial⟩ [] trivial (by kernel_rfl) (by kernel_rfl)
/- postil/stem.Changes -/
theorem g521 : Good t521 := good [t336, t486, t520] ⟨g336, g486, g520, trivial⟩ [] trivial (by kernel_rfl) (by kernel_rfl)
/- postil/stem.begin -/
theorem g522 : Good t522 := good [t9, t23, t26, t27, t30, t34, t38] ⟨g9, g23, g26, g27, g30, g34, g38, trivial⟩ [] trivial (by kernel_rfl) (by kernel_rfl)
/- postil/stem.beginAt -/
theorem g523 : Good t523 := good [t136, t522] ⟨g136, g522, trivial⟩ [] trivial (by kernel_rfl) (by kernel_rfl)
/- postil/stem.HeadOf -/
theorem g524 : Good t524 := good [t494, t523] ⟨g494, g523, trivial⟩ [] trivial (by kernel_rfl) (by kernel_rfl)
/- postil/stem.beginAt -/
theorem g525 : Good t525 := good [t222, t522] ⟨g222, g522, trivial⟩ [] trivial (by kernel_rfl) (by kernel_rfl)
/- postil/stem.HeadOf -/
theorem g526 : Good t526 := good [t509, t525] ⟨g509, g525, trivial⟩ [] trivial (by kernel_rfl) (by kernel_rfl)
/- postil/stem.beginAt -/
theorem g527 : Good t527 := good [t237, t522] ⟨g237, g522, trivial⟩ [] trivial (by kernel_rfl) (by kernel_rfl)
/- postil/stem.HeadOf -/
theorem g528 : Good t528 := good [t511, t527] ⟨g511, g527, trivial⟩ [] trivial (by kernel_rfl) (by kernel_rfl)
/- postil/tome.compareHeads -/
theorem g529 : Good t529 := good [] trivial [] trivial (by kernel_rfl) (by kernel_rfl)
/- postil/tome.compareHeads -/
theorem g530 : Good t530 := good [] trivial [] trivial (by kernel_rfl) (by kernel_rfl)
/- postil/tome.headsBy -/
theorem g531 : Good t531 := good [t142, t226, t241, t311, t332, t524, t526, t528, t529, t530] ⟨g142, g226, g241, g311, g332, g524, g526, g528, g529, g530, trivial⟩ [] trivial (by kernel_rfl) (by kernel_rfl)
/- postil/tome.Changed -/
theorem g532 : Good t532 := good [t468, t487, t521, t531] ⟨g468, g487, g521, g531, trivial⟩ [] trivial (by kernel_rfl) (by kernel_rfl)
/- postil/tome.beginVolume -/
theorem g533 : Good t533 := good [t116, t466] ⟨g116, g466, trivial⟩ [] trivial (by kernel_rfl) (by kernel_rfl)
/- postil/tome.Find -/
theorem g534 : Good t534 := good [t278, t533] ⟨g278, g533, trivial⟩ [] trivial (by kernel_rfl) (by kernel_rfl)
/- postil/postillaw10.sea -/
theorem g535 : Good t535 := good [] trivial [] trivial (by kernel_rfl) (by kernel_rfl)
/- postil/postilref10.SameRows -/
theorem g536 : Good t536 := good [] trivial [] trivial (by kernel_rfl) (by kernel_rfl)
/- postil/postilref10.SameEntry -/
theorem g537 : Good t537 := good [t536] ⟨g536, trivial⟩ [] trivial (by kernel_rfl) (by kernel_rfl)
/- postil/postillaw10.sea -/
theorem g538 : Good t538 := good [] trivial [] trivial (by kernel_rfl) (by kernel_rfl)
/- postil/postilref10.SameRows -/
theorem g539 : Good t539 := good [] trivial [] trivial (by kernel_rfl) (by kernel_rfl)
/- postil/postilref10.SameEntry -/
theorem g540 : Good t540 := good [t539] ⟨g539, trivial⟩ [] trivial (by kernel_rfl) (by kernel_rfl)
/- postil/postilref04.SameHeads -/
theorem g541 : Good t541 := good [] trivial [] trivial (by kernel_rfl) (by kernel_rfl)
/- postil/tome.Lacks -/
theorem k542 : GoodM u542 := goodm [t116] ⟨g116, trivial⟩ [] trivial (by kernel_rfl) (by kernel_rfl)
/- postil/tome.dotted -/
theorem g543 : Good t543 := good [] trivial [] trivial (by kernel_rfl) (by kernel_rfl)
/- postil/tome.reference -/
theorem g544 : Good t544 := good [t543] ⟨g543, trivial⟩ [] trivial (by kernel_rfl) (by kernel_rfl)
/- postil/tome.pieces$1 -/
theorem g545 : Good t545 := good [t544] ⟨g544, trivial⟩ [] trivial (by kernel_rfl) (by kernel_rfl)
/- (postil/tome.records).printed -/
theorem g546 : Good t546 := good [t545] ⟨g545, trivial⟩ [] trivial (by kernel_rfl) (by kernel_rfl)
/- postil/tome.dotted -/
theorem g547 : Good t547 := good [] trivial [] trivial (by kernel_rfl) (by kernel_rfl)
/- postil/tome.reference -/
theorem g548 : Good t548 := good [t547] ⟨g547, trivial⟩ [] trivial (by kernel_rfl) (by kernel_rfl)
/- postil/tome.pieces$1 -/
theorem g549 : Good t549 := good [t548] ⟨g548, trivial⟩ [] trivial (by kernel_rfl) (by kernel_rfl)
/- (postil/tome.records).printed -/
theorem g550 : Good t550 := good [t549] ⟨g549, trivial⟩ [] trivial (by kernel_rfl) (by kernel_rfl)
/- postil/tome.reference -/
theorem g551 : Good t551 := good [] trivial [] trivial (by kernel_rfl) (by kernel_rfl)
/- postil/tome.pieces$1 -/
theorem g552 : Good t552 := good [t551] ⟨g551, trivial⟩ [] trivial (by kernel_rfl) (by kernel_rfl)
/- (postil/tome.records).printed -/
theorem g553 : Good t553 := good [t552] ⟨g552, trivial⟩ [] trivial (by kernel_rfl) (by kernel_rfl)
/- (postil/tome.records).lines -/
theorem g554 : Good t554 := good [t546, t550, t553] ⟨g546, g550, g553, trivial⟩ [] trivial (by kernel_rfl) (by kernel_rfl)
/- postil/tome.Print -/
theorem g555 : Good t555 := good [t361, t369, t554] ⟨g361, g369, g554, trivial⟩ [] trivial (by kernel_rfl) (by kernel_rfl)
/- postil/postilref01.SameWords -/
theorem g556 : Good t556 := good [] trivial [] trivial (by kernel_rfl) (by kernel_rfl)
/- postil/postillaw10.prints -/
theorem g557 : Good t557 := good [t555, t556] ⟨g555, g556, trivial⟩ [] trivial (by kernel_rfl) (by kernel_rfl)
/- strings.Trim -/
theorem g558 : Good t558 := good [t10] ⟨g10, trivial⟩ [] trivial (by kernel_rfl) (by kernel_rfl)
/- postil/stem.areLetters -/
theorem g559 : Good t559 := good [t558] ⟨g558, trivial⟩ [] trivial (by kernel_rfl) (by kernel_rfl)
/- postil/stem.isWord -/
theorem g560 : Good t560 := good [t559] ⟨g559, trivial⟩ [] trivial (by kernel_rfl) (by kernel_rfl)
/- postil/stem.isHead -/
theorem g561 : Good t561 := good [t560] ⟨g560, trivial⟩ [] trivial (by kernel_rfl) (by kernel_rfl)
/- slices.Index[[]postil/api.Head,postil/api.Head] -/
theorem g562 : Good t562 := good [] trivial [] trivial (by kernel_rfl) (by kernel_rfl)
/- slices.Contains[[]postil/api.Head,postil/api.Head] -/
theorem g563 : Good t563 := good [t562] ⟨g562, trivial⟩ [] trivial (by kernel_rfl) (by kernel_rfl)
/- postil/stem.beginUnder -/
theorem g564 : Good t564 := good [t39, t336, t561, t563] ⟨g39, g336, g561, g563, trivial⟩ [] trivial (by kernel_rfl) (by kernel_rfl)
/- postil/stem.Under -/
theorem g565 : Good t565 := good [t564] ⟨g564, trivial⟩ [] trivial (by kernel_rfl) (by kernel_rfl)
/- slices.Index[[]postil/api.Place,postil/api.Place] -/
theorem g566 : Good t566 := good [] trivial [] trivial (by kernel_rfl) (by kernel_rfl)
/- slices.Contains[[]postil/api.Place,postil/api.Place] -/
theorem g567 : Good t567 := good [t566] ⟨g566, trivial⟩ [] trivial (by kernel_rfl) (by kernel_rfl)
/- slices.Index[[]postil/api.Place,postil/api.Place] -/
theorem g568 : Good t568 := good [] trivial [] trivial (by kernel_rfl) (by kernel_rfl)
/- slices.Contains[[]postil/api.Place,postil/api.Place] -/
theorem g569 : Good t569 := good [t568] ⟨g568, trivial⟩ [] trivial (by kernel_rfl) (by kernel_rfl)
/- slices.Index[[]postil/api.Place,postil/api.Place] -/
theorem g570 : Good t570 := good [] trivial [] trivial (by kernel_rfl) (by kernel_rfl)
/- slices.Contains[[]postil/api.Place,postil/api.Place] -/
theorem g571 : Good t571 := good [t570] ⟨g570, trivial⟩ [] trivial (by kernel_rfl) (by kernel_rfl)
/- slices.Index[[]postil/api.Place,postil/api.Place] -/
theorem g572 : Good t572 := good [] trivial [] trivial (by kernel_rfl) (by kernel_rfl)
/- slices.Contains[[]postil/api.Place,postil/api.Place] -/
theorem g573 : Good t573 := good [t572] ⟨g572, trivial⟩ [] trivial (by kernel_rfl) (by kernel_rfl)
/- slices.Index[[]postil/api.Place,postil/api.Place] -/
theorem g574 : Good t574 := good [] trivial [] trivial (by kernel_rfl) (by kernel_rfl)
/- slices.Contains[[]postil/api.Place,postil/api.Place] -/
theorem g575 : Good t575 := good [t574] ⟨g574, trivial⟩ [] trivial (by kernel_rfl) (by kernel_rfl)
/- slices.Index[[]postil/api.Place,postil/api.Place] -/
theorem g576 : Good t576 := good [] trivial [] trivial (by kernel_rfl) (by kernel_rfl)
/- slices.Contains[[]postil/api.Place,postil/api.Place] -/
theorem g577 : Good t577 := good [t576] ⟨g576, trivial⟩ [] trivial (by kernel_rfl) (by kernel_rfl)
/- slices.Index[[]postil/api.Place,postil/api.Place] -/
theorem g578 : Good t578 := good [] trivial [] trivial (by kernel_rfl) (by kernel_rfl)
/- slices.Contains[[]postil/api.Place,postil/api.Place] -/
theorem g579 : Good t579 := good [t578] ⟨g578, trivial⟩ [] trivial (by kernel_rfl) (by kernel_rfl)
/- slices.Index[[]postil/api.Place,postil/api.Place] -/
theorem g580 : Good t580 := good [] trivial [] trivial (by kernel_rfl) (by kernel_rfl)
/- slices.Contains[[]postil/api.Place,postil/api.Place] -/
theorem g581 : Good t581 := good [t580] ⟨g580, trivial⟩ [] trivial (by kernel_rfl) (by kernel_rfl)
/- slices.Index[[]postil/api.Place,postil/api.Place] -/
theorem g582 : Good t582 := good [] trivial [] trivial (by kernel_rfl) (by kernel_rfl)
/- slices.Contains[[]postil/api.Place,postil/api.Place] -/
theorem g583 : Good t583 := good [t582] ⟨g582, trivial⟩ [] trivial (by kernel_rfl) (by kernel_rfl)
/- slices.Index[[]postil/api.Place,postil/api.Place] -/
theorem g584 : Good t584 := good [] trivial [] trivial (by kernel_rfl) (by kernel_rfl)
/- slices.Contains[[]postil/api.Place,postil/api.Place] -/
theorem g585 : Good t585 := good [t584] ⟨g584, trivial⟩ [] trivial (by kernel_rfl) (by kernel_rfl)
/- postil/tome.beginUnder -/
theorem g586 : Good t586 := good [t116, t565, t567, t569, t571, t573, t575, t577, t579, t581, t583, t585] ⟨g116, g565, g567, g569, g571, g573, g575, g577, g579, g581, g583, g585, trivial⟩ [] trivial (by kernel_rfl) (by kernel_rfl)
/- (postil/tome.records).sure -/
theorem g587 : Good t587 := good [t185] ⟨g185, trivial⟩ [] trivial (by kernel_rfl) (by kernel_rfl)
/- (postil/tome.records).spot -/
theorem g588 : Good t588 := good [t178, t183, t587] ⟨g178, g183, g587, trivial⟩ [] trivial (by kernel_rfl) (by kernel_rfl)
/- (postil/tome.records).spots -/
theorem g589 : Good t589 := good [t588] ⟨g588, trivial⟩ [] trivial (by kernel_rfl) (by kernel_rfl)
/- (postil/tome.records).volume -/
theorem g590 : Good t590 := good [t589] ⟨g589, trivial⟩ [] trivial (by kernel_rfl) (by kernel_rfl)
/- postil/tome.dotted -/
theorem g591 : Good t591 := good [] trivial [] trivial (by kernel_rfl) (by kernel_rfl)
/- postil/tome.reference -/
theorem g592 : Good t592 := good [t591] ⟨g591, trivial⟩ [] trivial (by kernel_rfl) (by kernel_rfl)
/- postil/tome.pieces$1 -/
theorem g593 : Good t593 := good [t592] ⟨g592, trivial⟩ [] trivial (by kernel_rfl) (by kernel_rfl)
/- (postil/tome.records).printed -/
theorem g594 : Good t594 := good [t593] ⟨g593, trivial⟩ [] trivial (by kernel_rfl) (by kernel_rfl)
/- (postil/tome.records).lines -/
theorem g595 : Good t595 := good [t594] ⟨g594, trivial⟩ [] trivial (by kernel_rfl) (by kernel_rfl)
/- postil/tome.Print -/
theorem g596 : Good t596 := good [t586, t590, t595] ⟨g586, g590, g595, trivial⟩ [] trivial (by kernel_rfl) (by kernel_rfl)
/- postil/postilref01.SameWords -/
theorem g597 : Good t597 := good [] trivial [] trivial (by kernel_rfl) (by kernel_rfl)
/- postil/postillaw10.prints -/
theorem g598 : Good t598 := good [t596, t597] ⟨g596, g597, trivial⟩ [] trivial (by kernel_rfl) (by kernel_rfl)
/- postil/postillaw10.alive -/
theorem g599 : Good t599 := good [t335, t370, t465, t467, t532, t534, t535, t537, t538, t540, t541, t557, t598] ⟨g335, g370, g465, g467, g532, g534, g535, g537, g538, g540, g541, g557, g598, trivial⟩ [u542] ⟨k542, trivial⟩ (by kernel_rfl) (by kernel_rfl)
/- strings.Trim -/
theorem g600 : Good t600 := good [t10] ⟨g10, trivial⟩ [] trivial (by kernel_rfl) (by kernel_rfl)
/- postil/stem.areLetters -/
theorem g601 : Good t601 := good [t600] ⟨g600, trivial⟩ [] trivial (by kernel_rfl) (by kernel_rfl)
/- postil/stem.isWord -/
theorem g602 : Good t602 := good [t601] ⟨g601, trivial⟩ [] trivial (by kernel_rfl) (by kernel_rfl)
/- postil/stem.isHead -/
theorem g603 : Good t603 := good [t602] ⟨g602, trivial⟩ [] trivial (by kernel_rfl) (by kernel_rfl)
/- slices.Index[[]postil/api.Head,postil/api.Head] -/
theorem g604 : Good t604 := good [] trivial [] trivial (by kernel_rfl) (by kernel_rfl)
/- slices.Contains[[]postil/api.Head,postil/api.Head] -/
theorem g605 : Good t605 := good [t604] ⟨g604, trivial⟩ [] trivial (by kernel_rfl) (by kernel_rfl)
/- postil/stem.beginUnder -/
theorem g606 : Good t606 := good [t39, t336, t603, t605] ⟨g39, g336, g603, g605, trivial⟩ [] trivial (by kernel_rfl) (by kernel_rfl)
/- postil/stem.Under -/
theorem g607 : Good t607 := good [t606] ⟨g606, trivial⟩ [] trivial (by kernel_rfl) (by kernel_rfl)
/- slices.Index[[]postil/api.Place,postil/api.Place] -/
theorem g608 : Good t608 := good [] trivial [] trivial (by kernel_rfl) (by kernel_rfl)
/- slices.Contains[[]postil/api.Place,postil/api.Place] -/
theorem g609 : Good t609 := good [t608] ⟨g608, trivial⟩ [] trivial (by kernel_rfl) (by kernel_rfl)
/- slices.Index[[]postil/api.Place,postil/api.Place] -/
theorem g610 : Good t610 := good [] trivial [] trivial (by kernel_rfl) (by kernel_rfl)
/- slices.Contains[[]postil/api.Place,postil/api.Place] -/
theorem g611 : Good t611 := good [t610] ⟨g610, trivial⟩ [] trivial (by kernel_rfl) (by kernel_rfl)
/- slices.Index[[]postil/api.Place,postil/api.Place] -/
theorem g612 : Good t612 := good [] trivial [] trivial (by kernel_rfl) (by kernel_rfl)
/- slices.Contains[[]postil/api.Place,postil/api.Place] -/
theorem g613 : Good t613 := good [t612] ⟨g612, trivial⟩ [] trivial (by kernel_rfl) (by kernel_rfl)
/- slices.Index[[]postil/api.Place,postil/api.Place] -/
theorem g614 : Good t614 := good [] trivial [] trivial (by kernel_rfl) (by kernel_rfl)
/- slices.Contains[[]postil/api.Place,postil/api.Place] -/
theorem g615 : Good t615 := good [t614] ⟨g614, trivial⟩ [] trivial (by kernel_rfl) (by kernel_rfl)
/- slices.Index[[]postil/api.Place,postil/api.Place] -/
theorem g616 : Good t616 := good [] trivial [] trivial (by kernel_rfl) (by kernel_rfl)
/- slices.Contains[[]postil/api.Place,postil/api.Place] -/
theorem g617 : Good t617 := good [t616] ⟨g616, trivial⟩ [] trivial (by kernel_rfl) (by kernel_rfl)
/- slices.Index[[]postil/api.Place,postil/api.Place] -/
theorem g618 : Good t618 := good [] trivial [] trivial (by kernel_rfl) (by kernel_rfl)
/- slices.Contains[[]postil/api.Place,postil/api.Place] -/
theorem g619 : Good t619 := good [t618] ⟨g618, trivial⟩ [] trivial (by kernel_rfl) (by kernel_rfl)
/- slices.Index[[]postil/api.Place,postil/api.Place] -/
theorem g620 : Good t620 := good [] trivial [] trivial (by kernel_rfl) (by kernel_rfl)
/- slices.Contains[[]postil/api.Place,postil/api.Place] -/
theorem g621 : Good t621 := good [t620] ⟨g620, trivial⟩ [] trivial (by kernel_rfl) (by kernel_rfl)
/- slices.Index[[]postil/api.Place,postil/api.Place] -/
theorem g622 : Good t622 := good [] trivial [] trivial (by kernel_rfl) (by kernel_rfl)
/- slices.Contains[[]postil/api.Place,postil/api.Place] -/
theorem g623 : Good t623 := good [t622] ⟨g622, trivial⟩ [] trivial (by kernel_rfl) (by kernel_rfl)
/- slices.Index[[]postil/api.Place,postil/api.Place] -/
theorem g624 : Good t624 := good [] trivial [] trivial (by kernel_rfl) (by kernel_rfl)
/- slices.Contains[[]postil/api.Place,postil/api.Place] -/
theorem g625 : Good t625 := good [t624] ⟨g624, trivial⟩ [] trivial (by kernel_rfl) (by kernel_rfl)
/- slices.Index[[]postil/api.Place,postil/api.Place] -/
theorem g626 : Good t626 := good [] trivial [] trivial (by kernel_rfl) (by kernel_rfl)
/- slices.Contains[[]postil/api.Place,postil/api.Place] -/
theorem g627 : Good t627 := good [t626] ⟨g626, trivial⟩ [] trivial (by kernel_rfl) (by kernel_rfl)
/- postil/tome.beginUnder -/
theorem g628 : Good t628 := good [t116, t607, t609, t611, t613, t615, t617, t619, t621, t623, t625, t627] ⟨g116, g607, g609, g611, g613, g615, g617, g619, g621, g623, g625, g627, trivial⟩ [] trivial (by kernel_rfl) (by kernel_rfl)
/- (postil/tome.records).sure -/
theorem g629 : Good t629 := good [t133] ⟨g133, trivial⟩ [] trivial (by kernel_rfl) (by kernel_rfl)
/- (postil/tome.records).spot -/
theorem g630 : Good t630 := good [t123, t131, t629] ⟨g123, g131, g629, trivial⟩ [] trivial (by kernel_rfl) (by kernel_rfl)
/- (postil/tome.records).sure -/
theorem g631 : Good t631 := good [t219] ⟨g219, trivial⟩ [] trivial (by kernel_rfl) (by kernel_rfl)
/- (postil/tome.records).spot -/
theorem g632 : Good t632 := good [t212, t217, t631] ⟨g212, g217, g631, trivial⟩ [] trivial (by kernel_rfl) (by kernel_rfl)
/- (postil/tome.records).spots -/
theorem g633 : Good t633 := good [t630, t632] ⟨g630, g632, trivial⟩ [] trivial (by kernel_rfl) (by kernel_rfl)
/- (postil/tome.records).volume -/
theorem g634 : Good t634 := good [t308, t633] ⟨g308, g633, trivial⟩ [] trivial (by kernel_rfl) (by kernel_rfl)
/- postil/tome.Of -/
theorem g635 : Good t635 := good [t628, t634] ⟨g628, g634, trivial⟩ [] trivial (by kernel_rfl) (by kernel_rfl)
/- postil/postilref10.SameRows -/
theorem g636 : Good t636 := good [] trivial [] trivial (by kernel_rfl) (by kernel_rfl)
/- postil/postilref10.SameEntry -/
theorem g637 : Good t637 := good [t636] ⟨g636, trivial⟩ [] trivial (by kernel_rfl) (by kernel_rfl)
end Go.Ev
/- What calls answer that are met. Made by program. -/
namespace Go.Ev
set_option maxRecDepth 1000000
/- postil/stem.Check -/
theorem k638 : GoodM u638 := goodm [t9, t16, t22, t26, t27, t30, t34, t38] ⟨g9, g16, g22, g26, g27, g30, g34, g38, trivial⟩ [] trivial (by kernel_rfl) (by kernel_rfl)
/- postil/chart.clashes -/
theorem g639 : Good t639 := good [] trivial [] trivial (by kernel_rfl) (by kernel_rfl)
/- postil/stem.Check -/
theorem k640 : GoodM u640 := goodm [t9, t16, t22, t26, t27, t30, t34, t38] ⟨g9, g16, g22, g26, g27, g30, g34, g38, trivial⟩ [] trivial (by kernel_rfl) (by kernel_rfl)
/- postil/slip.isCut -/
theorem g641 : Good t641 := good [] trivial [] trivial (by kernel_rfl) (by kernel_rfl)
/- postil/slip.Check -/
theorem g642 : Good t642 := good [t641] ⟨g641, trivial⟩ [] trivial (by kernel_rfl) (by kernel_rfl)
/- postil/stem.Check -/
theorem k643 : GoodM u643 := goodm [t9, t16, t22, t26, t27, t30, t34, t38] ⟨g9, g16, g22, g26, g27, g30, g34, g38, trivial⟩ [] trivial (by kernel_rfl) (by kernel_rfl)
/- postil/tome.doubted -/
theorem k644 : GoodM u644 := goodm [t0, t1, t2, t3, t5, t9, t41, t42, t43, t44, t46, t47, t48, t49, t53, t58] ⟨g0, g1, g2, g3, g5, g9, g41, g42, g43, g44, g46, g47, g48, g49, g53, g58, trivial⟩ [u643] ⟨k643, trivial⟩ (by kernel_rfl) (by kernel_rfl)
/- postil/stem.isRule -/
theorem g645 : Good t645 := good [] trivial [] trivial (by kernel_rfl) (by kernel_rfl)
/- postil/stem.areRules$1 -/
theorem g646 : Good t646 := good [t645] ⟨g645, trivial⟩ [] trivial (by kernel_rfl) (by kernel_rfl)
/- postil/stem.isHead -/
theorem g647 : Good t647 := good [t26] ⟨g26, trivial⟩ [] trivial (by kernel_rfl) (by kernel_rfl)
/- slices.Index[[]postil/api.Head,postil/api.Head] -/
theorem g648 : Good t648 := good [] trivial [] trivial (by kernel_rfl) (by kernel_rfl)
/- slices.Contains[[]postil/api.Head,postil/api.Head] -/
theorem g649 : Good t649 := good [t648] ⟨g648, trivial⟩ [] trivial (by kernel_rfl) (by kernel_rfl)
/- postil/stem.beginUnder -/
theorem g650 : Good t650 := good [t39, t336, t647, t649] ⟨g39, g336, g647, g649, trivial⟩ [] trivial (by kernel_rfl) (by kernel_rfl)
/- postil/stem.Under -/
theorem g651 : Good t651 := good [t650] ⟨g650, trivial⟩ [] trivial (by kernel_rfl) (by kernel_rfl)
/- postil/tome.beginUnder -/
theorem g652 : Good t652 := good [t116, t651] ⟨g116, g651, trivial⟩ [] trivial (by kernel_rfl) (by kernel_rfl)
/- postil/tome.Of -/
theorem g653 : Good t653 := good [t652] ⟨g652, trivial⟩ [] trivial (by kernel_rfl) (by kernel_rfl)
/- slices.Concat[[]postil/api.Decision,postil/api.Decision] -/
theorem g654 : Good t654 := good [] trivial [] trivial (by kernel_rfl) (by kernel_rfl)
/- (postil/stem.lexicon).isDecision -/
theorem g655 : Good t655 := good [] trivial [] trivial (by kernel_rfl) (by kernel_rfl)
/- (postil/stem.lexicon).areDecisions -/
theorem g656 : Good t656 := good [t471, t476, t481, t655] ⟨g471, g476, g481, g655, trivial⟩ [] trivial (by kernel_rfl) (by kernel_rfl)
/- postil/stem.beginMore -/
theorem g657 : Good t657 := good [t39, t654, t656] ⟨g39, g654, g656, trivial⟩ [] trivial (by kernel_rfl) (by kernel_rfl)
/- postil/stem.Add -/
theorem g658 : Good t658 := good [t657] ⟨g657, trivial⟩ [] trivial (by kernel_rfl) (by kernel_rfl)
/- postil/tome.Changed -/
theorem g659 : Good t659 := good [t468, t658] ⟨g468, g658, trivial⟩ [] trivial (by kernel_rfl) (by kernel_rfl)
/- (postil/leaf.text).hasPlace -/
theorem g660 : Good t660 := good [t64] ⟨g64, trivial⟩ [] trivial (by kernel_rfl) (by kernel_rfl)
/- postil/leaf.At -/
theorem g661 : Good t661 := good [t8, t660] ⟨g8, g660, trivial⟩ [] trivial (by kernel_rfl) (by kernel_rfl)
/- postil/tome.Find -/
theorem g662 : Good t662 := good [t533, t661] ⟨g533, g661, trivial⟩ [] trivial (by kernel_rfl) (by kernel_rfl)
/- postil/tome.isVolume -/
theorem g663 : Good t663 := good [] trivial [] trivial (by kernel_rfl) (by kernel_rfl)
/- postil/tome.beginVolume -/
theorem g664 : Good t664 := good [t116, t663] ⟨g116, g663, trivial⟩ [] trivial (by kernel_rfl) (by kernel_rfl)
/- postil/tome.Find -/
theorem g665 : Good t665 := good [t278, t664] ⟨g278, g664, trivial⟩ [] trivial (by kernel_rfl) (by kernel_rfl)
end Go.Ev
