/- What the proof of this claim stands on, part 3: an evaluator of the model, proved right, and what it answers for functions of the program. -/
import Derived.Test.YtkdhmidpmcbbiaaPk01
import Derived.Lib.Bytealg
import Derived.ChangeReads
import Derived.ChangeOld
import Derived.ChangeArms
import Derived.RowKit3
import Derived.WalkKit
import Derived.ProofKit
import Derived.OpenShut
import Derived.KernelRfl
import Derived.Lib.Overlaps
import Derived.Test.YtkdhmidpmcbbiaaProg
/- Loops, functions, iterators. -/
namespace Go.Ev
section
variable {C : Cfg} {me : FuncId} {rd : Option Nat}

/-! ### loops -/
def goP (o : Out) (K : Post) : Prop := match o with | .go e a H => AtK K e a H | _ => False
def Lp (C : Cfg) (me : FuncId) (rd : Option Nat) (ks : List Tmp) (c : Code) (a : AAct) (H : Heap) (K : Post) : Prop := bindO (lim C (.loop me rd ks c a H)) fun o => goP o K
@[congr] theorem Lp_congr {ks ks' : List Tmp} {c : Code} {a a' : AAct} {H H' : Heap} {K : Post} (hk : ks = ks') (ha : a = a') (hH : H = H') : Lp C me rd ks c a H K = Lp C me rd ks' c a' H' K := by rw [hk, ha, hH]
@[go_sem ↓] theorem wp_loopE (c : Code) (a : AAct) (H : Heap) (K : Post) : Wp C me rd (.loop c) a H K = Lp C me rd (a.tmps.map (·.1)) c a H K := by
  show bindO (match lim C (.loop me rd (a.tmps.map (·.1)) c a H) with | some (.go e a' H') => some (e, a', H') | _ => none) _ = bindO _ _
  cases lim C (.loop me rd (a.tmps.map (·.1)) c a H) with
  | none => rfl
  | some o => cases o <;> rfl
def trimK (n : Nat) (K : AAct → Heap → Prop) (a : AAct) (H : Heap) : Prop := K a (H.trim n (a.tmps.map (·.2)) a.marks)
def loopK (C : Cfg) (me : FuncId) (rd : Option Nat) (ks : List Tmp) (c : Code) (n : Nat) (K : Post) : Post := fun e a H =>
  match e with
  | .normal => Lp C me rd ks c (a.only ks) (H.trim n ((a.only ks).tmps.map (·.2)) (a.only ks).marks) K
  | .exit i => AtK K (.exit i) (a.only ks) (H.trim n ((a.only ks).tmps.map (·.2)) (a.only ks).marks)
  | .ret => AtK K .ret a H
@[go_sem ↓] theorem loopK_normal (ks : List Tmp) (c : Code) (n : Nat) (K : Post) (a : AAct) (H : Heap) : AtK (loopK C me rd ks c n K) .normal a H = Lp C me rd ks c (a.only ks) (H.trim n ((a.only ks).tmps.map (·.2)) (a.only ks).marks) K := rfl
@[go_sem ↓] theorem loopK_exit (ks : List Tmp) (c : Code) (n i : Nat) (K : Post) (a : AAct) (H : Heap) : AtK (loopK C me rd ks c n K) (.exit i) a H = AtK K (.exit i) (a.only ks) (H.trim n ((a.only ks).tmps.map (·.2)) (a.only ks).marks) := rfl
@[go_sem ↓] theorem loopK_ret (ks : List Tmp) (c : Code) (n : Nat) (K : Post) (a : AAct) (H : Heap) : AtK (loopK C me rd ks c n K) .ret a H = AtK K .ret a H := rfl

theorem lim_eq (t : Task) : lim C t = taskA C (lim C) t := by
  cases h : taskA C (lim C) t with
  | some x => exact lim_step.2 h
  | none =>
    cases h' : lim C t with
    | none => rfl
    | some x => rw [lim_step.1 h'] at h; cases h

theorem Lp_step (ks : List Tmp) (c : Code) (a : AAct) (H : Heap) (K : Post) : Lp C me rd ks c a H K = Wp C me rd c a H (loopK C me rd ks c H.size K) := by
  unfold Lp
  rw [lim_eq]
  unfold Wp
  simp only [taskA]
  rcases codeA C (lim C) me rd c a H with _ | ⟨e, a', H'⟩
  · rfl
  · cases e <;> rfl

@[go_sem] theorem only_mk (s : Nat) (l : List (Tmp × AV)) (m : List Nat) (ks : List Tmp) : (AAct.mk s l m).only ks = ⟨s, ks.filterMap fun k => (assoc k l).map fun v => (k, v), m⟩ := rfl

/-! ### memory that is as it was -/
theorem trim_size (H : Heap) (vs : List AV) (ms : List Nat) : H.trim H.size vs ms = H := by
  unfold Heap.trim
  have : H.objs.take H.size = H.objs := List.take_length
  split
  · rw [this]
  · rfl
theorem settle_size (H : Heap) : settleH H.size H = H := by
  unfold settleH
  have h : H.objs.take H.size = H.objs := List.take_length
  split
  · rw [h]
  · rfl
@[go_sem] theorem trim_same (H : Heap) (vs : List AV) (ms : List Nat) : H.trim H.size vs ms = H := trim_size H vs ms
@[go_sem] theorem settle_same (H : Heap) : settleH H.size H = H := settle_size H

/-! ### functions -/
def Fn' (C : Cfg) (f : FuncId) (args : List AV) (H : Heap) (K : PostO) : Prop := bindO (lim C (.call f args H)) fun o => retP o K
def finK (C : Cfg) (rs : List ResultVar) (K : PostO) : Post := fun e a H =>
  match e with
  | .exit _ => False
  | _ => bindO (killAll a.marks H) fun H2 => bindO (resultsA C a H2 rs) fun vs => AtO K (oneOf vs) H2
@[go_sem ↓] theorem finK_exit (rs : List ResultVar) (K : PostO) (i : Nat) (a : AAct) (H : Heap) : AtK (finK C rs K) (.exit i) a H = False := rfl
@[go_sem ↓] theorem finK_ret (rs : List ResultVar) (K : PostO) (a : AAct) (H : Heap) : AtK (finK C rs K) .ret a H = bindO (killAll a.marks H) fun H2 => bindO (resultsA C a H2 rs) fun vs => AtO K (oneOf vs) H2 := rfl
@[go_sem ↓] theorem finK_normal (rs : List ResultVar) (K : PostO) (a : AAct) (H : Heap) : AtK (finK C rs K) .normal a H = bindO (killAll a.marks H) fun H2 => bindO (resultsA C a H2 rs) fun vs => AtO K (oneOf vs) H2 := rfl
theorem fn_step {f : FuncId} {args : List AV} {H : Heap} {K : PostO} {fn : Func} (hf : C.P.funcs[f]? = some fn) {c : Code} (hc : fn.body = some c) (hlay : C.lay f = none := by rfl) :
    Fn' C f args H K = Wp C f none c ⟨args.length + (fn.ntmps - args.length), number 0 args, []⟩ H (finK C fn.results.toList K) := by
  unfold Fn'
  rw [lim_eq]
  unfold Wp
  simp only [taskA, hlay, hf, hc]
  rcases codeA C (lim C) f none c ⟨args.length + (fn.ntmps - args.length), number 0 args, []⟩ H with _ | ⟨e, a', H'⟩
  · rfl
  · cases e with
    | exit i => rfl
    | normal =>
      simp only [bindO_some, finK]
      rcases killAll a'.marks H' with _ | H2
      · rfl
      · simp only [bindO_some]; cases resultsA C a' H2 fn.results.toList <;> rfl
    | ret =>
      simp only [bindO_some, finK]
      rcases killAll a'.marks H' with _ | H2
      · rfl
      · simp only [bindO_some]; cases resultsA C a' H2 fn.results.toList <;> rfl
@[go_sem] theorem kill_nil (H : Heap) : killAll [] H = some H := rfl
@[go_sem] theorem results_nil (a : AAct) (H : Heap) : resultsA C a H [] = some [] := rfl
@[go_sem] theorem results_tmp (s : Nat) (l : List (Tmp × AV)) (m : List Nat) (H : Heap) (t : Tmp) (r : List ResultVar) : resultsA C ⟨s, l, m⟩ H (.tmp t :: r) = consO (assoc t l) (resultsA C ⟨s, l, m⟩ H r) := rfl
@[go_sem] theorem results_cell (s : Nat) (l : List (Tmp × AV)) (m : List Nat) (H : Heap) (t : Tmp) (ty : TypeId) (r : List ResultVar) : resultsA C ⟨s, l, m⟩ H (.cell t ty :: r) = consO ((assoc t l).bind (loadA C.P H ty)) (resultsA C ⟨s, l, m⟩ H r) := rfl
@[go_sem] theorem oneOf_one (v : AV) : oneOf [v] = v := rfl
@[go_sem] theorem oneOf_two (v w : AV) (r : List AV) : oneOf (v :: w :: r) = .tup (v :: w :: r) := rfl
@[go_sem] theorem oneOf_nil : oneOf [] = .tup [] := rfl
@[go_sem] theorem number_nil (n : Nat) : number n [] = [] := rfl
@[go_sem] theorem number_cons (n : Nat) (x : AV) (r : List AV) : number n (x :: r) = (n, x) :: number (n + 1) r := rfl

/-- what a function answers on arguments that lead to no object, in memory of its own -/
def ansK (v : AV) : PostO := fun x H => freezeV { H with lock := 0 } 1000000 x = some v
@[go_sem] theorem ansK_at (v x : AV) (l : List (Option AObj)) (k : Nat) : AtO (ansK v) x ⟨l, k⟩ = (freezeV ⟨l, 0⟩ 1000000 x = some v) := rfl
def Ans (C : Cfg) (f : FuncId) (args : List AV) (v : AV) : Prop :=
  Fn' C f args { objs := [], lock := 0 } (ansK v)
theorem Ans.iff {f : FuncId} {args : List AV} {v : AV} : Ans C f args v ↔ ∃ x H, lim C (.call f args { objs := [], lock := 0 }) = some (.ret x H) ∧ freezeV { H with lock := 0 } 1000000 x = some v := by
  unfold Ans Fn' ansK
  rw [bindO_iff]
  constructor
  · rintro ⟨o, h1, h2⟩
    cases o with
    | ret x H => exact ⟨x, H, h1, h2⟩
    | go => exact h2.elim
  · rintro ⟨x, H, h1, h2⟩; exact ⟨_, h1, h2⟩
theorem Ans.call {f : FuncId} {args : List AV} {v : AV} (h : Ans C f args v) {d : Option Tmp} (hx : C.ext f = none) (hp : C.pure me f d = true) (hb : boundL args = 0) (H : Heap) (hh : C.exh f = none := by rfl) : callA C (lim C) me f d args H = some (v, H) := by
  obtain ⟨x, H', h1, h2⟩ := Ans.iff.1 h
  have hk : callKind C me f d args = 1 := by unfold callKind; rw [hp, hb]; rfl
  unfold callA standA standH; rw [hx]; simp only; rw [hh]; simp only
  unfold callB; rw [hk]; simp only [h1, h2, Option.map_some]

/-! ### slices that nothing turns -/
def SlOf (sz : Nat) (xs : List AV) (x : AV) : Prop := (x = .v (.slice none 0 0) ∧ xs = []) ∨ ∃ cap, x = .vs sz xs cap
def slLen (x : AV) : Option AV := match x with | .v (.slice none 0 0) => some (.v (.int .i64 0)) | .vs _ xs _ => some (.v (.int .i64 xs.length)) | .sl _ _ _ len _ => some (.v (.int .i64 len)) | _ => none
theorem len_sl {P : Program} {t e : TypeId} (h : P.underlying t = some (.slice e)) (H : Heap) (x : AV) : lenA P H [t] [x] = slLen x := len_slice h H x []
def slIdx (s : Nat) (x ix : AV) : Option AV :=
  match ix with
  | .v (.int _ i) =>
    match x with
    | .sl b v off len _ => if 0 ≤ i ∧ i < (len : Int) then some (.ptr b v (off + i.toNat * s)) else none
    | .vs sz xs _ => if 0 ≤ i ∧ i < (xs.length : Int) ∧ sz = s then (xs[i.toNat]?).map fun y => .ro y 0 else none
    | _ => none
  | _ => none
theorem idx_sl {P : Program} {t e : TypeId} {s : Nat} (h : P.underlying t = some (.slice e)) (hs : sizeT P e = some s) (x ix : AV) : indexAddrA P t x ix = slIdx s x ix := by
  unfold indexAddrA slIdx; rw [h]
  rcases ix with v | _ | _ | _ | _ | _ | _ | _ | _ | _ | _ <;> try rfl
  cases v <;> try rfl
  simp only; rw [hs]
  cases x <;> rfl
theorem SlOf.len {sz : Nat} {xs : List AV} {x : AV} (h : SlOf sz xs x) : slLen x = some (.v (.int .i64 (xs.length : Nat))) := by
  rcases h with ⟨rfl, rfl⟩ | ⟨cap, rfl⟩ <;> rfl
theorem SlOf.idx {sz : Nat} {xs : List AV} {x y : AV} (h : SlOf sz xs x) {j : Nat} (hy : xs[j]? = some y) (k : IntKind) : slIdx sz x (.v (.int k (j : Nat))) = some (.ro y 0) := by
  rcases h with ⟨rfl, rfl⟩ | ⟨cap, rfl⟩
  · simp at hy
  · have := (List.getElem?_eq_some_iff.1 hy).1
    unfold slIdx; simp only [Int.toNat_natCast, hy, Option.map_some]
    rw [if_pos ⟨by omega, by omega, trivial⟩]
theorem SlOf.bound {sz : Nat} {xs : List AV} {x : AV} (h : SlOf sz xs x) : bound x = 0 := by
  rcases h with ⟨rfl, rfl⟩ | ⟨cap, rfl⟩ <;> rfl
theorem SlOf.flat {sz : Nat} {xs : List AV} {x : AV} (h : SlOf sz xs x) : x.flat = true := by
  rcases h with ⟨rfl, rfl⟩ | ⟨cap, rfl⟩ <;> rfl
theorem SlOf.cells {sz : Nat} {xs : List AV} {x : AV} (h : SlOf sz xs x) : x.cells = [x] := by
  rcases h with ⟨rfl, rfl⟩ | ⟨cap, rfl⟩ <;> rfl
/-- building a slice of a literal -/
def bsFin (mt : Bool) (e n : Nat) (H : Heap) (slot len : Nat) (cs : List AV) : Option (AV × Heap) :=
  if cs.all AV.flat = true then (if mt = true ∨ boundL cs ≠ 0 then some (.sl slot 0 0 len (some len), H.put slot (.cells 0 (boundL cs) e n false cs)) else some (.vs n (chunk n len cs) (some len), H)) else none
theorem buildSl_eq {P : Program} {t e n : Nat} {z : AV} (hu : P.underlying t = some (.slice e)) (hs : sizeT P e = some n) (hz : zeroT P e = some z) (hn : 0 < n) (hl : z.cells.length = n) (mt : Bool) (H : Heap) (slot len : Nat) (parts : List (Nat × AV)) :
    buildSliceA P mt H slot t len parts = if len * n ≤ 65536 then (fillA (fun i => some (i * n, n)) (repeatCells z.cells len) parts).bind (bsFin mt e n H slot len) else none := by
  unfold buildSliceA
  rw [hu]; simp only; rw [hs, hz]; simp only [hn, hl, and_true]
  split
  · cases fillA (fun i => some (i * n, n)) (repeatCells z.cells len) parts with
    | none => rfl
    | some cs =>
      simp only [Option.bind_some, bsFin]
      cases hf : cs.all AV.flat
      · rfl
      · simp only [Bool.true_eq_false, if_false, if_true]
        have : Nat.beq (boundL cs) 0 = decide (boundL cs = 0) := by
          cases boundL cs <;> rfl
        rw [this]
        cases mt <;> by_cases hb : boundL cs = 0 <;> simp [hb]
  · rfl
@[go_sem] theorem fillA_nil (place : Nat → Option (Nat × Nat)) (cells : List AV) : fillA place cells [] = some cells := rfl
def fill1 (place : Nat → Option (Nat × Nat)) (cells : List AV) (v : AV) (rest : List (Nat × AV)) (p : Option (Nat × Nat)) : Option (List AV) :=
  match p with
  | none => none
  | some (off, size) => if v.cells.length = size ∧ off + size ≤ cells.length then fillA place (splice off v.cells cells) rest else none
@[go_sem] theorem fillA_cons (place : Nat → Option (Nat × Nat)) (cells : List AV) (i : Nat) (v : AV) (rest : List (Nat × AV)) : fillA place cells ((i, v) :: rest) = fill1 place cells v rest (place i) := by
  unfold fill1; simp only [fillA]
  cases place i <;> rfl
@[go_sem] theorem fill1_some (place : Nat → Option (Nat × Nat)) (cells : List AV) (v : AV) (rest : List (Nat × AV)) (off size : Nat) : fill1 place cells v rest (some (off, size)) = if v.cells.length = size ∧ off + size ≤ cells.length then fillA place (splice off v.cells cells) rest else none := rfl
theorem wrap_succ (j : Nat) (h : j + 1 < 2 ^ 63) : IntKind.i64.wrap ((j : Int) + 1) = ((j + 1 : Nat) : Int) := by
  rw [wrap_in _ (by omega) (by omega)]; omega
end
end Go.Ev
/- Functions that stand for themselves: what is known of them. -/
namespace Go.Ev

theorem cmp_bytes : ∀ (a b : List UInt8), Lib.compareBytes a b = if bytesLt a b then -1 else if bytesLt b a then 1 else 0
  | [], [] => by simp [Lib.compareBytes, bytesLt]
  | [], _ :: _ => by simp [Lib.compareBytes, bytesLt]
  | _ :: _, [] => by simp [Lib.compareBytes, bytesLt]
  | x :: a, y :: b => by
    have ih := cmp_bytes a b
    unfold Lib.compareBytes bytesLt
    simp only [UInt8.lt_iff_toNat_lt]
    by_cases h1 : x.toNat < y.toNat
    · have e1 : Nat.blt x.toNat y.toNat = true := Nat.ble_eq_true_of_le h1
      simp [h1, e1]
    · have e1 : Nat.blt x.toNat y.toNat = false := by
        cases hb : Nat.blt x.toNat y.toNat
        · rfl
        · exact absurd (Nat.le_of_ble_eq_true hb) h1
      by_cases h2 : y.toNat < x.toNat
      · have e2 : Nat.blt y.toNat x.toNat = true := Nat.ble_eq_true_of_le h2
        have e3 : (x.toNat == y.toNat) = false := by simp; omega
        simp [h1, h2, e1, e2, e3]
      · have e2 : Nat.blt y.toNat x.toNat = false := by
          cases hb : Nat.blt y.toNat x.toNat
          · rfl
          · exact absurd (Nat.le_of_ble_eq_true hb) h2
        have e3 : x.toNat = y.toNat := by omega
        simp [e3, ih]

theorem ext_cmp {P : Program} {f : FuncId} {fn : Func} (hf : P.funcs[f]? = some fn) (hb : fn.body = none) (hn : (fn.name == "runtime.NumGoroutine") = false) (h1 : (Extern.findNext fn).isNone = true) (h2 : Extern.find fn = some Extern.BytealgCompare.compare)
    {args : List AV} {v : AV} (h : cmpStr args = some v) (Z : Fzn) (ρ : Pls) (H : Heap) (w : World) (vals : List Value) (hs : Sim Z ρ H w) (hl : RepL Z ρ args vals) : FnMeets P f vals w (After Z ρ H w v H) := by
  unfold cmpStr at h
  split at h
  · rename_i a b
    obtain ⟨v1, ws, rfl, hv1, hl⟩ := hl.uncons
    obtain ⟨v2, ws, rfl, hv2, hl⟩ := hl.uncons
    have : ws = [] := by have := hl.1; exact List.length_eq_zero_iff.1 this.symm
    subst this
    obtain ⟨rfl, -⟩ := hv1.v_inv
    obtain ⟨rfl, -⟩ := hv2.v_inv
    simp only [Option.some.injEq] at h
    subst h
    refine Or.inl ⟨.int .i64 (Lib.compareBytes a.data.toList b.data.toList), w, ?_, Z, ρ, ?_, hs, Ext.refl _ _ _ _⟩
    · have hfn : Extern.findNext fn = none := Option.isNone_iff_eq_none.1 h1
      have := Lib.run_compareString (P := P) a b w
      have hn' : ¬ fn.name = "runtime.NumGoroutine" := by
        intro e; rw [e] at hn; simp at hn
      simp [callFunc, hf, hn', hb, hfn, h2, this]
    · rw [cmp_bytes]; exact .v rfl
  · cases h

/-- what a function with code answers on closed arguments, it may stand for -/
theorem ext_of_ans {C : Cfg} (hgo : NoGo C.P) (hm : C.P.follows .mixedOrders = true) (hext : ExtOK C) {f : FuncId} {args : List AV} {v : AV} (h : Ans C f args v) (hb : boundL args = 0)
    (Z : Fzn) (ρ : Pls) (H : Heap) (w : World) (vals : List Value) (hs : Sim Z ρ H w) (hl : RepL Z ρ args vals) : FnMeets C.P f vals w (After Z ρ H w v H) := by
  obtain ⟨x, H', h1, h2⟩ := Ans.iff.1 h
  obtain ⟨n, hn⟩ := lim_iff.1 h1
  have hrec : RecOK C.P (evT C n) := (ev_sound hgo hext (draw_ok hm hext) n).1
  let D : Cfg := { C with pure := fun _ _ _ => true }
  have hk : callKind D f f none args = 1 := by unfold callKind; rw [hb]; rfl
  have hB : callB D (evT C n) f f none args H = some (v, H) := by
    unfold callB; rw [hk]; simp only [hn, h2, Option.map_some]
  obtain ⟨hbody, hc⟩ := callB_sound (C := D) hrec hs hl hB
  exact Or.inr ⟨hbody.run _ _, hc⟩

/-- more functions that stand for themselves -/
def moreExt (e : FuncId → Option (List AV → Option AV)) (f : FuncId) (g : List AV → Option AV) : FuncId → Option (List AV → Option AV) := fun f' => if Nat.beq f' f then some g else e f'
theorem extOK_more {C C' : Cfg} (hP : C'.P = C.P) {f : FuncId} {g : List AV → Option AV} (hg : ∀ args v, g args = some v → ∀ (Z : Fzn) (ρ : Pls) (H : Heap) (w : World) (vals : List Value), Sim Z ρ H w → RepL Z ρ args vals → FnMeets C.P f vals w (After Z ρ H w v H))
    (hext : ExtOK C) (he : C'.ext = moreExt C.ext f g) (hlay : C'.lay = C.lay := by rfl) (hexh : C'.exh = C.exh := by rfl) : ExtOK C' := by
  refine ⟨fun f' g' hf' args v hv Z ρ H w vals hs hl => ?_, fun f' g' hf' => by rw [hP]; rw [hlay] at hf'; exact hext.lay f' g' hf', fun f' g' hf' => by rw [hP]; rw [hexh] at hf'; exact hext.exh f' g' hf'⟩
  rw [hP]
  rw [he] at hf'
  unfold moreExt at hf'
  split at hf'
  · rename_i hb
    have := Nat.eq_of_beq_eq_true hb
    subst this
    simp only [Option.some.injEq] at hf'
    subst hf'
    exact hg args v hv Z ρ H w vals hs hl
  · exact hext.ext f' g' hf' args v hv Z ρ H w vals hs hl

/-! ### answers that are told by heart -/
def eqV : Value → Value → Bool
  | .int k n, .int k' n' => decide (k = k') && decide (n = n')
  | .bool a, .bool b => a == b
  | .string a, .string b => bytesEq a.data.toList b.data.toList
  | .slice none 0 0, .slice none 0 0 => true
  | _, _ => false
theorem eqV_eq {x y : Value} (h : eqV x y = true) : x = y := by
  unfold eqV at h
  split at h
  · simp at h; rw [h.1, h.2]
  · simp at h; rw [h]
  · rw [bytesEq_iff, decide_eq_true_eq, ← str_ext] at h; rw [h]
  · rfl
  · cases h
def listEq (f : AV → AV → Bool) : List AV → List AV → Bool
  | [], [] => true
  | x :: r, y :: s => f x y && listEq f r s
  | _, _ => false
theorem listEq_eq {f : AV → AV → Bool} (hf : ∀ x y, f x y = true → x = y) : ∀ {l m : List AV}, listEq f l m = true → l = m
  | [], [], _ => rfl
  | [], _ :: _, h => by simp [listEq] at h
  | _ :: _, [], h => by simp [listEq] at h
  | x :: r, y :: s, h => by
    simp only [listEq, Bool.and_eq_true] at h
    rw [hf _ _ h.1, listEq_eq hf h.2]
def capEq : Option Nat → Option Nat → Bool
  | none, none => true
  | some k, some k' => Nat.beq k k'
  | _, _ => false
theorem capEq_eq {c c' : Option Nat} (h : capEq c c' = true) : c = c' := by
  unfold capEq at h
  split at h
  · rfl
  · rw [Nat.eq_of_beq_eq_true h]
  · cases h
def eqStep (rec : AV → AV → Bool) (x y : AV) : Bool :=
  match x, y with
  | .v x, .v y => eqV x y
  | .agg a, .agg b => listEq rec a b
  | .vs s a c, .vs s' a' c' => Nat.beq s s' && listEq rec a a' && capEq c c'
  | _, _ => false
def eqA (n : Nat) : AV → AV → Bool := Nat.rec (fun _ _ => false) (fun _ rec => eqStep rec) n
theorem eqA_eq : ∀ (n : Nat) (x y : AV), eqA n x y = true → x = y
  | 0, _, _, h => by cases h
  | n + 1, x, y, h => by
    have h' : eqStep (eqA n) x y = true := h
    unfold eqStep at h'
    split at h'
    · rw [eqV_eq h']
    · rw [listEq_eq (eqA_eq n) h']
    · simp only [Bool.and_eq_true] at h'
      obtain ⟨⟨h1, h2⟩, h3⟩ := h'
      rw [Nat.eq_of_beq_eq_true h1, listEq_eq (eqA_eq n) h2, capEq_eq h3]
    · cases h'
/-- the answer at these arguments -/
def atArgs (K : List AV) (R : AV) : List AV → Option AV := fun args => if listEq (eqA 30) args K then some R else none
theorem atArgs_some {K : List AV} {R : AV} {args : List AV} {v : AV} (h : atArgs K R args = some v) : args = K ∧ v = R := by
  unfold atArgs at h
  split at h
  · rename_i hq
    exact ⟨listEq_eq (eqA_eq 30) hq, by simpa using h.symm⟩
  · cases h
end Go.Ev
/- From what a statement says of its arguments to values of the evaluator, and back. -/
namespace Go.Ev

/-- the fields lie one behind the other, from k on up to the end -/
def tiled (P : Program) : Nat → List Field → Nat → Bool
  | k, [], e => k == e
  | k, f :: r, e => f.offset == k && tiled P (k + P.cellsOf f.type) r e

/-- types of plain data, by depth -/
def plainT (P : Program) : Nat → TypeId → Bool
  | 0, _ => false
  | n + 1, t =>
    match P.underlying t with
    | some .bool => true
    | some (.int _) => true
    | some .string => true
    | some (.slice e) => decide (0 < P.cellsOf e) && plainT P n e
    | some (.struct fs) => tiled P 0 fs.toList (P.cellsOf t) && fs.toList.all fun f => plainT P n f.type
    | _ => false

/-- an element of a slice, of its cells -/
def elemOf (cs : List AV) : AV := match cs with | [c] => c | cs => .agg cs

/-- what plain data is -/
def Plain (P : Program) : Nat → TypeId → List AV → Prop
  | 0, _, _ => False
  | n + 1, t, cs =>
    match P.underlying t with
    | some .bool => ∃ b, cs = [.v (.bool b)]
    | some (.int k) => ∃ m, cs = [.v (.int k m)] ∧ (Lit.int k m).wf = true
    | some .string => ∃ s, cs = [.v (.string s)] ∧ s.size ≤ maxLen
    | some (.slice e) => ∃ x xs, cs = [x] ∧ SlOf (P.cellsOf e) xs x ∧ xs.length ≤ maxLen ∧ ∀ y ∈ xs, ∃ c, y = elemOf c ∧ c.length = P.cellsOf e ∧ Plain P n e c
    | some (.struct fs) => cs.length = P.cellsOf t ∧ ∀ f ∈ fs.toList, Plain P n f.type ((cs.drop f.offset).take (P.cellsOf f.type))
    | _ => False

theorem elem_cells {cs : List AV} (h : ∀ c ∈ cs, c.flat = true) : (elemOf cs).cells = cs := by
  unfold elemOf
  split
  · rename_i c
    have := h c (by simp)
    cases c <;> simp_all [AV.cells, AV.flat]
  · rfl

theorem exists_list {α : Type} {Q : Nat → α → Prop} : ∀ (n : Nat), (∀ i, i < n → ∃ y, Q i y) → ∃ l : List α, l.length = n ∧ ∀ i y, l[i]? = some y → Q i y
  | 0, _ => ⟨[], rfl, fun i y h => by simp at h⟩
  | n + 1, h => by
    obtain ⟨l, hl, hq⟩ := exists_list n fun i hi => h i (by omega)
    obtain ⟨y, hy⟩ := h n (by omega)
    refine ⟨l ++ [y], by simp [hl], fun i z hz => ?_⟩
    by_cases hi : i < l.length
    · rw [List.getElem?_append_left hi] at hz; exact hq i z hz
    · have hlt := (List.getElem?_eq_some_iff.1 hz).1
      simp at hlt
      have : i = l.length := by omega
      subst this
      simp at hz; subst hz; rw [hl]; exact hy

theorem tile_rep {Z : Fzn} {ρ : Pls} {P : Program} {Q : Field → List AV → Prop} : ∀ (fs : List Field) (k e : Nat) (cs : List Value), tiled P k fs e = true → cs.length = e →
    (∀ f ∈ fs, ∃ a, RepL Z ρ a ((cs.drop f.offset).take (P.cellsOf f.type)) ∧ Q f a ∧ ∀ c ∈ a, c.flat = true) →
    k ≤ e → ∃ A, RepL Z ρ A (cs.drop k) ∧ (∀ c ∈ A, c.flat = true) ∧ ∀ f ∈ fs, k ≤ f.offset ∧ f.offset + P.cellsOf f.type ≤ e ∧ Q f ((A.drop (f.offset - k)).take (P.cellsOf f.type))
  | [], k, e, cs, ht, hl, _, _ => by
    have : k = e := by simpa [tiled] using ht
    subst this
    refine ⟨[], ?_, by simp, by simp⟩
    rw [List.drop_of_length_le (by omega)]; exact RepL.nil
  | f :: r, k, e, cs, ht, hl, hf, hk => by
    simp only [tiled, Bool.and_eq_true, beq_iff_eq] at ht
    obtain ⟨ho, ht⟩ := ht
    have hle : ∀ (fs : List Field) (k : Nat), tiled P k fs e = true → k ≤ e := by
      intro fs
      induction fs with
      | nil => intro k h; have : k = e := by simpa [tiled] using h
               omega
      | cons g s ih => intro k h; simp only [tiled, Bool.and_eq_true] at h; have := ih _ h.2; omega
    have hle' := hle _ _ ht
    obtain ⟨A, hA, hAf, hAq⟩ := tile_rep r (k + P.cellsOf f.type) e cs ht hl (fun g hg => hf g (List.mem_cons_of_mem _ hg)) hle'
    obtain ⟨a, ha, hq, haf⟩ := hf f List.mem_cons_self
    have hal : a.length = P.cellsOf f.type := by rw [ha.1]; simp; omega
    refine ⟨a ++ A, ?_, ?_, ?_⟩
    · have : cs.drop k = (cs.drop f.offset).take (P.cellsOf f.type) ++ cs.drop (k + P.cellsOf f.type) := by
        rw [ho, ← List.drop_drop]; exact (List.take_append_drop _ _).symm
      rw [this]; exact ha.append hA
    · intro c hc
      rcases List.mem_append.1 hc with h | h
      · exact haf c h
      · exact hAf c h
    · intro g hg
      rcases List.mem_cons.1 hg with rfl | hg
      · refine ⟨by omega, by omega, ?_⟩
        rw [ho, Nat.sub_self, List.drop_zero, List.take_append_of_le_length (by omega), List.take_of_length_le (by omega)]
        exact hq
      · obtain ⟨h1, h2, h3⟩ := hAq g hg
        refine ⟨by omega, h2, ?_⟩
        have : (a ++ A).drop (g.offset - k) = A.drop (g.offset - (k + P.cellsOf f.type)) := by
          rw [List.drop_append, List.drop_of_length_le (by omega), List.nil_append, hal]; congr 1; omega
        rw [this]; exact h3

section
variable {HH : Type} {enc : TypeId × Value → HH} {P : Program} {w : World}

theorem cells_at {a : Addr} {n : Nat} {cs : List Value} (h : w.cells? 0 a n = some cs) (hn : 0 < n) : a.spot = none ∧ ∃ arr e fr, w.heap[a.block]? = some (.cells arr e fr) ∧ cs.length = n ∧ ∀ j, j < n → arr[a.off + j]? = cs[j]? := by
  obtain ⟨_, hl, hc⟩ := World.cells?_some h
  have h0 := hc 0 hn
  obtain ⟨c0, hc0⟩ : ∃ c0, cs[0]? = some c0 := ⟨cs[0]'(by omega), List.getElem?_eq_getElem _⟩
  have hsp : a.spot = none := by
    have := World.cell?_spot (h0.trans hc0)
    simpa [Addr.add] using this
  have hcell := h0.trans hc0
  have hb : ∀ j, (a.add j).block = a.block := by intro j; unfold Addr.add; split <;> rfl
  have hs : ∀ j, (a.add j).spot = none := by
    intro j; unfold Addr.add; split
    · exact hsp
    · rfl
  have ho : ∀ j, (a.add j).off = a.off + j := by
    intro j; unfold Addr.add; split
    · rename_i hj; subst hj; rfl
    · rfl
  refine ⟨hsp, ?_⟩
  unfold World.cell? at hcell
  rw [hb] at hcell
  split at hcell
  · rename_i arr e fr hh
    refine ⟨arr, e, fr, hh, hl, fun j hj => ?_⟩
    have := hc j hj
    unfold World.cell? at this
    rw [hb, hh] at this
    simp only [hs, ho, Option.isSome_none, Bool.false_eq_true, if_false] at this
    exact this
  · cases hcell

theorem plain_rep : ∀ (N t fuel : Nat) (cs : List Value) (x : DataW HH × List MemPlace), plainT P N t = true → DataW.trod enc P w 0 (fun _ => true) true fuel t cs = some x →
    ∃ A, RepL (allZ w) noPls A cs ∧ Plain P N t A ∧ ∀ c ∈ A, c.flat = true
  | 0, _, _, _, _, hp, _ => by simp [plainT] at hp
  | N + 1, t, fuel, cs, x, hp, h => by
    unfold plainT at hp
    cases hu : P.underlying t with
    | none => rw [hu] at hp; simp at hp
    | some u =>
      rw [hu] at hp
      cases u <;> simp only [Bool.false_eq_true] at hp
      case bool =>
        obtain ⟨b, rfl, -⟩ := DataW.trod_bool hu h
        exact ⟨[.v (.bool b)], RepL.cons (.v rfl) RepL.nil, by unfold Plain; rw [hu]; exact ⟨b, rfl⟩, by simp [AV.flat]⟩
      case int k =>
        obtain ⟨n, rfl, -, hw⟩ := DataW.trod_int hu h
        exact ⟨[.v (.int k n)], RepL.cons (.v rfl) RepL.nil, by unfold Plain; rw [hu]; exact ⟨n, rfl, hw⟩, by simp [AV.flat]⟩
      case string =>
        obtain ⟨n, rfl, -, hw⟩ := DataW.trod_string hu h
        exact ⟨[.v (.string n)], RepL.cons (.v rfl) RepL.nil, by unfold Plain; rw [hu]; exact ⟨n, rfl, hw⟩, by simp [AV.flat]⟩
      case struct fs =>
        rw [Bool.and_eq_true, List.all_eq_true] at hp
        obtain ⟨xs, n, -, -, hl, hlen, hf⟩ := DataW.trod_struct hu h
        have hall : ∀ f ∈ fs.toList, ∃ a, RepL (allZ w) noPls a ((cs.drop f.offset).take (P.cellsOf f.type)) ∧ Plain P N f.type a ∧ ∀ c ∈ a, c.flat = true := by
          intro f hfm
          obtain ⟨i, hi⟩ := List.getElem?_of_mem hfm
          have hi' : fs[i]? = some f := by simpa using hi
          have hxi := hf i f hi'
          have hlt : i < xs.length := by
            rw [hlen]
            have := (List.getElem?_eq_some_iff.1 hi).1
            simpa using this
          rw [List.getElem?_eq_getElem hlt] at hxi
          exact plain_rep N f.type n _ _ (hp.2 f hfm) hxi
        obtain ⟨A, hA, hAf, hAq⟩ := tile_rep fs.toList 0 (P.cellsOf t) cs hp.1 hl hall (Nat.zero_le _)
        rw [List.drop_zero] at hA
        refine ⟨A, hA, ?_, hAf⟩
        unfold Plain; rw [hu]
        refine ⟨by rw [hA.1]; exact hl, fun f hf => ?_⟩
        have := (hAq f hf).2.2
        rwa [Nat.sub_zero] at this
      case slice e =>
        simp only [Bool.and_eq_true, decide_eq_true_eq] at hp
        rcases DataW.trod_slice hu h with ⟨rfl, -⟩ | ⟨a, len, cap, elems, rest, n, -, rfl, -, -, hlc, hcm, hel, hget, -, -⟩
        · refine ⟨[.v (.slice none 0 0)], RepL.cons (.v rfl) RepL.nil, ?_, by simp [AV.flat]⟩
          unfold Plain; rw [hu]
          exact ⟨_, [], rfl, Or.inl ⟨rfl, rfl⟩, Nat.zero_le _, by simp⟩
        · have hone : ∀ i, i < len → ∃ y : AV, ∃ A ci, w.cells? 0 (a.add (i * P.cellsOf e)) (P.cellsOf e) = some ci ∧ RepL (allZ w) noPls A ci ∧ Plain P N e A ∧ (∀ c ∈ A, c.flat = true) ∧ y = elemOf A := by
            intro i hi
            have := hget i hi
            rw [List.getElem?_eq_getElem (by omega), Option.bind_eq_some_iff] at this
            obtain ⟨ci, hc1, hc2⟩ := this
            obtain ⟨A, h1, h2, h3⟩ := plain_rep N e n ci _ hp.2 hc2
            exact ⟨_, A, ci, hc1, h1, h2, h3, rfl⟩
          obtain ⟨xs, hxl, hxq⟩ := exists_list len hone
          have hsz : ∀ y ∈ xs, y.cells.length = P.cellsOf e := by
            intro y hy
            obtain ⟨i, hi⟩ := List.getElem?_of_mem hy
            obtain ⟨A, ci, h1, h2, h3, h4, rfl⟩ := hxq i y hi
            rw [elem_cells h4, h2.1]
            exact (World.cells?_some h1).2.1
          have hplain : Plain P (N + 1) t [.vs (P.cellsOf e) xs (some cap)] := by
            unfold Plain; rw [hu]
            refine ⟨_, xs, rfl, Or.inr ⟨_, rfl⟩, by omega, fun y hy => ?_⟩
            obtain ⟨i, hi⟩ := List.getElem?_of_mem hy
            obtain ⟨A, ci, h1, h2, h3, h4, rfl⟩ := hxq i y hi
            exact ⟨A, rfl, by rw [h2.1]; exact (World.cells?_some h1).2.1, h3⟩
          by_cases h0 : len = 0
          · subst h0
            have : xs = [] := List.length_eq_zero_iff.1 hxl
            subst this
            exact ⟨_, RepL.cons (.vs0 (by simp)) RepL.nil, hplain, by simp [AV.flat]⟩
          · -- the block
            have hpos := hp.1
            obtain ⟨y0, hy0⟩ : ∃ y, xs[0]? = some y := ⟨xs[0]'(by omega), List.getElem?_eq_getElem _⟩
            obtain ⟨A0, c0, hc0, -⟩ := hxq 0 y0 hy0
            obtain ⟨hsp0, arr, et, fr, hh, -, -⟩ := cells_at hc0 hpos
            have hb : ∀ j, (a.add j).block = a.block := by intro j; unfold Addr.add; split <;> rfl
            have ho : ∀ j, (a.add j).off = a.off + j := by
              intro j; unfold Addr.add; split
              · rename_i hj; subst hj; rfl
              · rfl
            rw [hb] at hh
            have hsp : a.spot = none := by simpa [Addr.add] using hsp0
            have hall : ∀ i j, i < len → j < P.cellsOf e → ∃ A ci, xs[i]? = some (elemOf A) ∧ (∀ c ∈ A, c.flat = true) ∧ RepL (allZ w) noPls A ci ∧ ci.length = P.cellsOf e ∧ arr[a.off + i * P.cellsOf e + j]? = ci[j]? := by
              intro i j hi hj
              obtain ⟨y, hy⟩ : ∃ y, xs[i]? = some y := ⟨xs[i]'(by omega), List.getElem?_eq_getElem _⟩
              obtain ⟨A, ci, h1, h2, h3, h4, rfl⟩ := hxq i y hy
              obtain ⟨-, arr', et', fr', hh', hl', hg⟩ := cells_at h1 hpos
              rw [hb, hh] at hh'
              obtain ⟨rfl, rfl, rfl⟩ : arr = arr' ∧ et = et' ∧ fr = fr' := by simpa using hh'
              have := hg j hj
              rw [ho] at this
              exact ⟨A, ci, hy, h4, h2, hl', this⟩
            have hfl : (xs.flatMap AV.cells).length = len * P.cellsOf e := by rw [flat_len hsz, hxl]
            have hfit : a.off + len * P.cellsOf e ≤ arr.size := by
              obtain ⟨A, ci, -, -, -, hl', hg⟩ := hall (len - 1) (P.cellsOf e - 1) (by omega) (by omega)
              rw [List.getElem?_eq_getElem (by omega)] at hg
              have := (Array.getElem?_eq_some_iff.1 hg).1
              have e1 : (len - 1) * P.cellsOf e + P.cellsOf e = len * P.cellsOf e := by
                have : len = (len - 1) + 1 := by omega
                conv => rhs; rw [this, Nat.succ_mul]
              omega
            refine ⟨[.vs (P.cellsOf e) xs (some cap)], RepL.cons ?_ RepL.nil, hplain, by simp [AV.flat]⟩
            have hval : (Value.slice (some a) len cap) = .slice (some ⟨a.block, (arr.toList.take a.off).length, none⟩) xs.length cap := by
              have : (arr.toList.take a.off).length = a.off := by simp; omega
              rw [this, hxl]; cases a; simp_all
            rw [hval]
            refine .vs (vs := (arr.toList.drop a.off).take (len * P.cellsOf e)) (post := (arr.toList.drop a.off).drop (len * P.cellsOf e)) (pre := arr.toList.take a.off) (e := et) (fz := fr) (arr := arr) hh ?_ hsz ?_ ?_ (by simp) (by omega)
            · rw [List.append_assoc, List.take_append_drop, List.take_append_drop]
            · rw [hfl]; simp; omega
            · intro i c v hc hv
              have hi := (List.getElem?_eq_some_iff.1 hc).1
              rw [hfl] at hi
              have hq : i / P.cellsOf e < len := Nat.div_lt_of_lt_mul (by rw [Nat.mul_comm]; exact hi)
              have hr : i % P.cellsOf e < P.cellsOf e := Nat.mod_lt _ hpos
              have hdm : i / P.cellsOf e * P.cellsOf e + i % P.cellsOf e = i := by rw [Nat.mul_comm]; exact Nat.div_add_mod _ _
              obtain ⟨A, ci, hx, hA, hR, hl', hg⟩ := hall _ _ hq hr
              have hfa := (flat_at hsz hx).1
              rw [elem_cells hA] at hfa
              have hcA : A[i % P.cellsOf e]? = some c := by
                rw [← hfa, List.getElem?_take, if_pos hr, List.getElem?_drop, hdm]; exact hc
              have hvA : ci[i % P.cellsOf e]? = some v := by
                rw [← hg]
                rw [List.getElem?_take, if_pos hi, List.getElem?_drop] at hv
                rw [show a.off + i / P.cellsOf e * P.cellsOf e + i % P.cellsOf e = a.off + i by omega]
                simpa using hv
              exact hR.2 _ _ _ hcA hvA

/-- what is not looked at of spare places -/
theorem plain_spare {base : Nat} {sp : Nat → Bool} : ∀ (N t fuel : Nat) (cs : List Value) (x : DataW HH × List MemPlace), plainT P N t = true → DataW.trod enc P w base (fun _ => true) true fuel t cs = some x →
    (∀ p ∈ x.2, sp p.block = true) → DataW.trod enc P w base sp true fuel t cs = some x
  | 0, _, _, _, _, hp, _, _ => by simp [plainT] at hp
  | N + 1, t, fuel, cs, x, hp, h, hs => by
    unfold plainT at hp
    cases fuel with
    | zero => simp [DataW.trod] at h
    | succ n =>
      cases hu : P.underlying t with
      | none => rw [hu] at hp; simp at hp
      | some u =>
        rw [hu] at hp
        cases u <;> simp only [Bool.false_eq_true] at hp
        case bool => obtain ⟨b, rfl, rfl⟩ := DataW.trod_bool hu h; rw [DataW.trod_step]; unfold DataW.trodStep; rw [hu]
        case int k => obtain ⟨m, rfl, rfl, hw⟩ := DataW.trod_int hu h; rw [DataW.trod_step]; unfold DataW.trodStep; rw [hu]; simp [hw]
        case string => obtain ⟨m, rfl, rfl, hw⟩ := DataW.trod_string hu h; rw [DataW.trod_step]; unfold DataW.trodStep; rw [hu]; simp [hw]
        case struct fs =>
          rw [Bool.and_eq_true, List.all_eq_true] at hp
          rw [DataW.trod_step] at h ⊢
          unfold DataW.trodStep at h ⊢
          rw [hu] at h ⊢
          simp only at h ⊢
          split at h
          · rename_i hl
            rw [if_pos hl]
            simp only [Option.map_eq_some_iff] at h ⊢
            obtain ⟨xs, hxs, rfl⟩ := h
            refine ⟨xs, mapM_carry hxs fun f y hf hy hfy => plain_spare N f.type n _ y (hp.2 f hf) hfy fun p hpm => hs p ?_, rfl⟩
            exact List.mem_flatMap.2 ⟨y, hy, hpm⟩
          · cases h
        case slice e =>
          simp only [Bool.and_eq_true, decide_eq_true_eq] at hp
          have h0 := h
          rw [DataW.trod_step] at h ⊢
          unfold DataW.trodStep at h ⊢
          rw [hu] at h ⊢
          rcases DataW.trod_slice hu h0 with ⟨rfl, rfl⟩ | ⟨a, len, cap, elems, rest, n', hn', rfl, rfl, -, hlc, hcm, hel, hget, hrest, -⟩
          · rfl
          · simp only at h ⊢
            split at h
            · rename_i hc
              rw [if_pos hc]
              simp only [if_true, Option.bind_eq_some_iff, Option.map_eq_some_iff] at h ⊢
              obtain ⟨es, hes, rs, hrs, heq⟩ := h
              have hin : ∀ y, y ∈ es ++ rs → ∀ p ∈ y.2, sp p.block = true := by
                intro y hy p hpm
                refine hs p ?_
                have := congrArg Prod.snd heq
                simp only at this
                rw [← this]
                exact List.mem_append_right _ (List.mem_flatMap.2 ⟨y, hy, hpm⟩)
              refine ⟨es, mapM_carry hes fun i y _ hy hfy => ?_, rs, ?_, heq⟩
              · obtain ⟨ci, h1, h2⟩ := Option.bind_eq_some_iff.1 hfy
                rw [h1]
                exact plain_spare N e n ci y hp.2 h2 (hin y (List.mem_append_left _ hy))
              · have hrl : rs.length = cap - len := by
                  have := mapM_some_length hrs
                  simpa using this
                by_cases hz : cap - len = 0
                · have : rs = [] := List.length_eq_zero_iff.1 (by omega)
                  subst this
                  split
                  · rw [hz] at hrs ⊢; exact hrs
                  · rfl
                · have hsp : sp a.block = true := by
                    have hel' : es.length = len := by
                      have := mapM_some_length hes
                      simpa using this
                    have := congrArg Prod.snd heq
                    simp only at this
                    have hm : MemPlace.cell a.block (a.off + 0) ∈ MemPlace.row a ((elems.length + rest.length) * P.cellsOf e) ++ (elems ++ rest).flatMap (·.2) := by
                      rw [← this]
                      refine List.mem_append_left _ (MemPlace.mem_row.2 ⟨0, ?_, rfl⟩)
                      exact Nat.mul_pos (by omega) hp.1
                    exact hs _ hm
                  rw [if_pos hsp]
                  refine mapM_carry hrs fun i y _ hy hfy => ?_
                  obtain ⟨ci, h1, h2⟩ := Option.bind_eq_some_iff.1 hfy
                  rw [h1]
                  exact plain_spare N e n ci y hp.2 h2 (hin y (List.mem_append_right _ hy))
            · cases h
end
end Go.Ev
/- A law: what the evaluator answers on all plain data is what the statement says. -/
namespace Go.Ev
open Go.ChangeShapes Go.WideShapes Go.ChangeAt Go.RowKit

/-- an argument of a type of plain data -/
def Arg (P : Program) (N : Nat) (t : TypeId) (x : AV) : Prop :=
  match P.underlying t with
  | some (.struct _) => ∃ A, x = .agg A ∧ Plain P N t A
  | _ => Plain P N t [x]

inductive ArgsOf (P : Program) (N : Nat) : List TypeId → List AV → Prop
  | nil : ArgsOf P N [] []
  | cons {t : TypeId} {ts : List TypeId} {x : AV} {xs : List AV} (h : Arg P N t x) (hs : ArgsOf P N ts xs) : ArgsOf P N (t :: ts) (x :: xs)

section
variable {HH : Type} {enc : TypeId × Value → HH} {P : Program} {w : World}

theorem arg_rep {N base : Nat} {t : TypeId} {v : Value} {d : DataW HH} {ps : List MemPlace} (hp : plainT P N t = true) (hok : Value.okWide P w .any base t v) (h : DataW.Trod enc P w 0 (fun _ => true) true t v d ps) :
    ∃ x, Rep (allZ w) noPls x v ∧ Arg P N t x := by
  obtain ⟨fuel, h⟩ := h
  obtain ⟨A, hA, hpl, hfl⟩ := plain_rep N t fuel _ _ hp h
  cases N with
  | zero => simp [plainT] at hp
  | succ N =>
    have one : ∀ (hv : v.cells.toList = [v]), (∃ c, A = [c]) → (∀ fs, P.underlying t ≠ some (.struct fs)) → ∃ x, Rep (allZ w) noPls x v ∧ Arg P (N + 1) t x := by
      rintro hv ⟨c, rfl⟩ hns
      rw [hv] at hA
      obtain ⟨v', ws, e, hr, -⟩ := hA.uncons
      cases e
      refine ⟨c, hr, ?_⟩
      unfold Arg
      split
      · rename_i fs hu; exact absurd hu (hns fs)
      · exact hpl
    unfold plainT at hp
    unfold Value.okWide at hok
    have hpl' := hpl
    unfold Plain at hpl'
    cases hu : P.underlying t with
    | none => rw [hu] at hp; simp at hp
    | some u =>
      rw [hu] at hp hok hpl'
      cases u <;> simp only [Bool.false_eq_true] at hp hok hpl'
      case bool =>
        obtain ⟨b, rfl⟩ := hpl'
        refine one ?_ ⟨_, rfl⟩ (by simp [hu])
        unfold Cell.okWide Cell.ok at hok; rw [hu] at hok
        cases v <;> first | rfl | simp at hok
      case int k =>
        obtain ⟨m, rfl, -⟩ := hpl'
        refine one ?_ ⟨_, rfl⟩ (by simp [hu])
        unfold Cell.okWide Cell.ok at hok; rw [hu] at hok
        cases v <;> first | rfl | simp at hok
      case string =>
        obtain ⟨m, rfl, -⟩ := hpl'
        refine one ?_ ⟨_, rfl⟩ (by simp [hu])
        unfold Cell.okWide Cell.ok at hok; rw [hu] at hok
        cases v <;> first | rfl | simp at hok
      case slice e =>
        obtain ⟨x, xs, rfl, -⟩ := hpl'
        refine one ?_ ⟨_, rfl⟩ (by simp [hu])
        unfold Cell.okWide Cell.ok at hok; rw [hu] at hok
        cases v <;> first | rfl | simp at hok
      case struct fs =>
        obtain ⟨cs, rfl, -, -⟩ := hok
        refine ⟨.agg A, ?_, ?_⟩
        · have := hA.agg
          simpa [Value.cells] using this
        · unfold Arg; rw [hu]; exact ⟨A, rfl, hpl⟩

theorem args_rep {N base : Nat} : ∀ {ts : List TypeId} {vs : List Value} {ds : List (DataW HH)} {ps : List MemPlace}, ts.all (plainT P N) = true → (∀ (j : Nat) t v, ts[j]? = some t → vs[j]? = some v → Value.okWide P w .any base t v) →
    DataW.TrodAll enc P w 0 (fun _ => true) true ts vs ds ps → ∃ xs, RepL (allZ w) noPls xs vs ∧ ArgsOf P N ts xs
  | [], vs, ds, ps, _, _, h => by
    cases vs <;> cases ds <;> simp [DataW.TrodAll] at h
    exact ⟨[], RepL.nil, .nil⟩
  | t :: ts, vs, ds, ps, hp, hok, h => by
    obtain ⟨v, vs', d, ds', p, q, rfl, rfl, rfl, h1, h2⟩ := trodAll_cons h
    simp only [List.all_cons, Bool.and_eq_true] at hp
    obtain ⟨x, hx, hax⟩ := arg_rep hp.1 (hok 0 t v rfl rfl) h1
    obtain ⟨xs, hxs, haxs⟩ := args_rep hp.2 (fun j t' v' ht hv => hok (j + 1) t' v' (by simpa using ht) (by simpa using hv)) h2
    exact ⟨x :: xs, RepL.cons hx hxs, .cons hax haxs⟩

theorem trod_after {w' : World} (hh : ∀ k, k < w.heap.size → w'.heap[k]? = w.heap[k]?) {N : Nat} {sp : Nat → Bool} : ∀ {ts : List TypeId} {vs : List Value} {ds : List (DataW HH)} {ps : List MemPlace}, ts.all (plainT P N) = true →
    DataW.TrodAll enc P w 0 (fun _ => true) true ts vs ds ps → (∀ p ∈ ps, sp p.block = true) → DataW.TrodAll enc P w' 0 sp true ts vs ds ps
  | [], vs, ds, ps, _, h, _ => by
    cases vs <;> cases ds <;> simp [DataW.TrodAll] at h ⊢
    exact h
  | t :: ts, vs, ds, ps, hp, h, hs => by
    obtain ⟨v, vs', d, ds', p, q, rfl, rfl, rfl, ⟨fuel, h1⟩, h2⟩ := trodAll_cons h
    simp only [List.all_cons, Bool.and_eq_true] at hp
    refine ⟨p, q, ⟨fuel, ?_⟩, trod_after hh hp.2 h2 fun p hp => hs p (List.mem_append_right _ hp), rfl⟩
    have hlt := DataW.trod_lt _ _ _ _ h1
    refine plain_spare N t fuel _ _ hp.1 (DataW.trod_carry _ _ _ _ h1 fun p hp => ?_) fun p hp => hs p (List.mem_append_left _ hp)
    have := hlt p hp
    cases p with
    | cell b off =>
      have hb : b < w.heap.size := this
      simp only [World.sameAt, World.cell?, hh b hb]
    | map b =>
      have hb : b < w.heap.size := this
      simp only [World.sameAt, hh b hb]

theorem trodAll_len {b : Nat} {sp : Nat → Bool} {hd : Bool} : ∀ {ts : List TypeId} {vs : List Value} {ds : List (DataW HH)} {ps : List MemPlace}, DataW.TrodAll enc P w b sp hd ts vs ds ps → ds.length = ts.length
  | [], vs, ds, ps, h => by cases vs <;> cases ds <;> simp [DataW.TrodAll] at h ⊢
  | t :: ts, vs, ds, ps, h => by
    obtain ⟨v, vs', d, ds', p, q, rfl, rfl, rfl, h1, h2⟩ := trodAll_cons h
    simp [trodAll_len h2]

theorem kept_of {w' : World} (hos : w'.os = w.os) (hout : w'.output = w.output) (hh : ∀ k, k < w.heap.size → w'.heap[k]? = w.heap[k]?) : w.keptBut w' (fun _ => False) := by
  refine ⟨hos, hout, fun i hi => ?_⟩
  rw [hh i hi]
  cases h : w.heap[i]? with
  | none => simp
  | some o => cases o <;> simp

/-- what the call leaves as it was: only what was there need not be frozen anew -/
theorem post_of_old {f : Func} {s : ChangeSpec} {apart fresh handsOn again : Bool} {W W' : World} {args : Array Value} {v : Value} {ds gs : List (DataW HH)} {before pa pv : List MemPlace}
    (hW : DataW.Whole enc P f.params.toList s.vars apart W args.toList ds gs before)
    (hres : ∀ (b : Nat) (sp : Nat → Bool) (hd : Bool), DataW.TrodAll enc P W' b sp hd f.resultTypes.toList (v.resultList f.resultTypes.size) (s.fn HH (ds ++ gs)).results [])
    (hargs : ∀ sp : Nat → Bool, (∀ p ∈ before, sp p.block = true) → DataW.TrodAll enc P W' 0 sp true f.params.toList args.toList (s.fn HH (ds ++ gs)).args pa)
    (hvars : ∀ sp : Nat → Bool, (∀ p ∈ before, sp p.block = true) → DataW.TrodVars enc P W' sp s.vars (s.fn HH (ds ++ gs)).vars pv)
    (hps : before = pa ++ pv) (hk : W.keptBut W' (· ∈ before)) (hfz : ∀ a : Addr, a.block < W.heap.size → W'.frozen? a = W.frozen? a)
    (hok : ∀ (j : Nat) (t : TypeId) (r : Value), f.resultTypes[j]? = some t → (v.resultList f.resultTypes.size)[j]? = some r → Value.okWide P W' .any 0 t r) :
    s.post enc P f apart fresh handsOn again W args v W' := by
  have hold : ∀ p ∈ before, (fun b => decide (b < W.heap.size)) p.block = true := fun p hp => by simpa using hW.lt p hp
  have hlt := hW.lt
  refine ⟨ds, gs, before, [], pa, pv, hW, hres _ _ _, hargs _ hold, hvars _ hold, World.keptBut_mono (fun p hp => ⟨hp, ?_⟩) hk, fun _ => ?_⟩
  · rw [hps, List.mem_append] at hp
    exact Or.inr hp
  · obtain ⟨_, _, _, _, _, hz, hn⟩ := hW
    refine ⟨hok, _, _, ([] ++ pa) ++ pv, ⟨[] ++ pa, pv, trodAll_append (hargs _ (fun _ _ => rfl)) (hres _ _ _), hvars _ (fun _ _ => rfl), rfl, ?_, ?_⟩, ?_⟩
    · intro b off hp
      have hp' : MemPlace.cell b off ∈ before := by rw [hps]; simpa using hp
      rw [hfz ⟨b, off, none⟩ (hlt _ hp')]
      exact hz b off hp'
    · intro ha
      have := hn ha
      rw [hps] at this
      simpa using this
    · intro p hp _
      rw [hps]
      simpa using hp

/-- a law of plain data -/
theorem law_contract {C : Cfg} (hP : C.P = P) (hgo : NoGo P) (hm : P.follows .mixedOrders = true) (hext : ExtOK C) {f : FuncId} {fn : Func} {s : ChangeSpec} {N : Nat} {apart fresh handsOn again : Bool} {tb : TypeId}
    (hpl : fn.params.toList.all (plainT P N) = true) (hvars : s.vars = []) (hspec : ∀ ds : List (DataW HH), ds.length = fn.params.size → s.fn HH ds = { results := [.lit (.bool true)], args := ds })
    (hrt : fn.resultTypes = #[tb]) (htb : P.underlying tb = some .bool)
    (hlaw : ∀ xs, ArgsOf P N fn.params.toList xs → ∃ H', lim C (.call f xs { objs := [], lock := 0 }) = some (.ret (.v (.bool true)) H'))
    {W : World} {base : Nat} {args : Array Value} {ds gs : List (DataW HH)} {before : List MemPlace}
    (hval : ∀ (j : Nat) t v, fn.params[j]? = some t → args[j]? = some v → Value.okWide P W .any base t v)
    (hW : DataW.Whole enc P fn.params.toList s.vars apart W args.toList ds gs before) (hg : laidOk (allZ W) := by intro p hp; cases hp) :
    Calls P f args W fun e W' => ∃ v, e = .returned v ∧ s.post enc P fn apart fresh handsOn again W args v W' := by
  subst hP
  have hW' := hW
  obtain ⟨p, q, hA, hV, rfl, hfz, hnd⟩ := hW
  have hV' := hV
  rw [hvars] at hV'
  obtain ⟨rfl, rfl⟩ := trodVars_none hV'
  obtain ⟨xs, hxs, hax⟩ := args_rep hpl (fun j t v ht hv => hval j t v (by simpa using ht) (by simpa using hv)) hA
  obtain ⟨H', hl⟩ := hlaw xs hax
  have hc := top_calls hg hgo hm hext hl hxs
  have hlen : ds.length = fn.params.size := by have := trodAll_len hA; simpa using this
  have hsf : s.fn HH (ds ++ []) = { results := [.lit (.bool true)], args := ds } := by rw [List.append_nil]; exact hspec ds hlen
  refine Calls.mono' hc ?_
  rintro e W' ⟨rfl, hh, hsz, hos, hout, -, hfr⟩
  refine ⟨_, rfl, post_of_old (pa := p) (pv := []) hW' ?_ ?_ ?_ rfl (World.keptBut_mono (fun _ h => h.elim) (kept_of hos hout hh)) hfr ?_⟩
  · intro b sp hd
    rw [hsf, hrt]
    exact trodAll_mk1 (shut_bool htb true)
  · intro sp hsp
    rw [hsf]
    exact trod_after hh hpl hA fun x hx => hsp x (List.mem_append_left _ hx)
  · intro sp hsp
    rw [hsf, hvars]
    rfl
  · exact ok_one hrt rfl (okWide_bool_mk htb true)
end
end Go.Ev
/- Closed evaluations, in pieces that are told once. -/
namespace Go.Ev

/-- a call on closed arguments, and what it answers -/
structure Tell where
  f : Nat
  K : List AV
  R : AV

def tabHas : List Tell → Nat → Bool
  | [], _ => false
  | t :: r, f => Nat.beq t.f f || tabHas r f
def tabFn : List Tell → Nat → List AV → Option AV
  | [], _, _ => none
  | t :: r, f, args => if Nat.beq t.f f && listEq (eqA 30) args t.K then some t.R else tabFn r f args
def tabExt (e : FuncId → Option (List AV → Option AV)) (T : List Tell) : FuncId → Option (List AV → Option AV) := fun f => if tabHas T f then some (tabFn T f) else e f
def Cfg.more (C : Cfg) (e : FuncId → Option (List AV → Option AV)) : Cfg := { C with ext := e }

/-- a call that looks at memory, and what it answers -/
structure TellH where
  f : Nat
  K : List AV
  G : List (Option AObj)
  R : AV

def eqEnt : List (AV × AV × Nat) → List (AV × AV × Nat) → Bool
  | [], [] => true
  | (a, b, n) :: r, (a', b', n') :: s => eqQ 30 a a' && eqQ 30 b b' && Nat.beq n n' && eqEnt r s
  | _, _ => false
def sameX : Option AObj → Option AObj → Bool
  | none, none => true
  | some .dead, some .dead => true
  | some .dfr, some .dfr => true
  | some (.cells v m e sz g cs), some (.cells v' m' e' sz' g' cs') => Nat.beq v v' && Nat.beq m m' && Nat.beq e e' && Nat.beq sz sz' && (g == g') && eqLQ (eqQ 30) cs cs'
  | some (.map m es c), some (.map m' es' c') => Nat.beq m m' && eqEnt es es' && Nat.beq c c'
  | _, _ => false
def sameL : List (Option AObj) → List (Option AObj) → Bool
  | [], [] => true
  | x :: r, y :: s => sameX x y && sameL r s
  | _, _ => false
theorem eqEnt_eq : ∀ {l m : List (AV × AV × Nat)}, eqEnt l m = true → l = m
  | [], [], _ => rfl
  | [], _ :: _, h => by cases h
  | _ :: _, [], h => by cases h
  | (a, b, n) :: r, (a', b', n') :: s, h => by
    simp only [eqEnt, Bool.and_eq_true] at h
    obtain ⟨⟨⟨h1, h2⟩, h3⟩, h4⟩ := h
    rw [eqQ_eq 30 _ _ h1, eqQ_eq 30 _ _ h2, Nat.eq_of_beq_eq_true h3, eqEnt_eq h4]
theorem sameX_eq {x y : Option AObj} (h : sameX x y = true) : x = y := by
  unfold sameX at h
  split at h
  · rfl
  · rfl
  · rfl
  · simp only [Bool.and_eq_true, beq_iff_eq] at h
    obtain ⟨⟨⟨⟨⟨h1, h2⟩, h3⟩, h4⟩, h5⟩, h6⟩ := h
    rw [Nat.eq_of_beq_eq_true h1, Nat.eq_of_beq_eq_true h2, Nat.eq_of_beq_eq_true h3, Nat.eq_of_beq_eq_true h4, h5, eqLQ_eq (eqQ_eq 30) h6]
  · simp only [Bool.and_eq_true] at h
    obtain ⟨⟨h1, h2⟩, h3⟩ := h
    rw [Nat.eq_of_beq_eq_true h1, eqEnt_eq h2, Nat.eq_of_beq_eq_true h3]
  · cases h
theorem sameL_eq : ∀ {l m : List (Option AObj)}, sameL l m = true → l = m
  | [], [], _ => rfl
  | [], _ :: _, h => by cases h
  | _ :: _, [], h => by cases h
  | x :: r, y :: s, h => by
    simp only [sameL, Bool.and_eq_true] at h
    rw [sameX_eq h.1, sameL_eq h.2]
def tabHHas : List TellH → Nat → Bool
  | [], _ => false
  | t :: r, f => Nat.beq t.f f || tabHHas r f
def tabH : List TellH → Nat → List AV → Heap → Option AV
  | [], _, _, _ => none
  | t :: r, f, args, H => if Nat.beq t.f f && (eqLQ (eqQ 30) args t.K && sameL H.objs t.G) then some t.R else tabH r f args H
def atom1 : AV → Bool
  | .v _ => true
  | _ => false
def atom1b : AV → Bool
  | .v _ => true
  | .agg cs => cs.all atom1
  | _ => false
/-- a value that leads to no memory -/
def atomR : AV → Bool
  | .v _ => true
  | .tup cs => cs.all atom1b
  | .agg cs => cs.all atom1b
  | _ => false
/-- a call on arguments that lie in memory: what it answers if nothing of that memory is turned -/
def borH (T : List Tell) (f : Nat) (args : List AV) (H : Heap) : Option AV :=
  match freezeL { H with lock := 0 } 100000 args with
  | some l => match tabFn T f l with | some R => if atomR R then some R else none | none => none
  | none => none
def tabX (T : List Tell) (TH : List TellH) (f : Nat) (args : List AV) (H : Heap) : Option AV := match tabH TH f args H with | some v => some v | none => borH T f args H
def tabExh (e : FuncId → Option (List AV → Heap → Option AV)) (T : List Tell) (TH : List TellH) : FuncId → Option (List AV → Heap → Option AV) := fun f => if tabHHas TH f || tabHas T f then some (tabX T TH f) else e f
def Cfg.more2 (C : Cfg) (e : FuncId → Option (List AV → Option AV)) (x : FuncId → Option (List AV → Heap → Option AV)) : Cfg := { C with ext := e, exh := x }
def ansH (n : Nat) (o : Option Out) : Option AV := match o with | some (.ret v H) => freezeV { H with lock := n } 1000000 v | _ => none

/-- what is told of a call is so -/
def GoodC (C : Cfg) (t : Tell) : Prop := (∃ e x, ExtOK (C.more2 e x) ∧ Ans (C.more2 e x) t.f t.K t.R) ∧ boundL t.K = 0
def GoodH (C : Cfg) (t : TellH) : Prop := (∃ e x, ExtOK (C.more2 e x) ∧ ∃ n, ansH t.G.length (evT (C.more2 e x) n (.call t.f t.K { objs := t.G, lock := t.G.length })) = some t.R) ∧ (Nat.beq (boundL t.K) 0 || t.K.any isYld) = false
def AllG (C : Cfg) : List Tell → Prop
  | [] => True
  | t :: r => GoodC C t ∧ AllG C r
def AllH (C : Cfg) : List TellH → Prop
  | [] => True
  | t :: r => GoodH C t ∧ AllH C r

theorem tabFn_some {C : Cfg} : ∀ {T : List Tell} {f : Nat} {args : List AV} {v : AV}, AllG C T → tabFn T f args = some v → ∃ t, GoodC C t ∧ t.f = f ∧ args = t.K ∧ v = t.R
  | [], _, _, _, _, h => by cases h
  | t :: r, f, args, v, hT, h => by
    unfold tabFn at h
    split at h
    · rename_i hq
      simp only [Bool.and_eq_true] at hq
      exact ⟨t, hT.1, Nat.eq_of_beq_eq_true hq.1, listEq_eq (eqA_eq 30) hq.2, by simpa using h.symm⟩
    · exact tabFn_some hT.2 h
theorem tabH_some {C : Cfg} : ∀ {T : List TellH} {f : Nat} {args : List AV} {H : Heap} {v : AV}, AllH C T → tabH T f args H = some v → ∃ t, GoodH C t ∧ t.f = f ∧ args = t.K ∧ H.objs = t.G ∧ v = t.R
  | [], _, _, _, _, _, h => by cases h
  | t :: r, f, args, H, v, hT, h => by
    unfold tabH at h
    split at h
    · rename_i hq
      simp only [Bool.and_eq_true] at hq
      exact ⟨t, hT.1, Nat.eq_of_beq_eq_true hq.1, eqLQ_eq (eqQ_eq 30) hq.2.1, sameL_eq hq.2.2, by simpa using h.symm⟩
    · exact tabH_some hT.2 h

theorem atom1_rep {Z Z' : Fzn} {ρ ρ' : Pls} {x : AV} {v : Value} (h : Rep Z ρ x v) (ha : atom1 x = true) : Rep Z' ρ' x v := by
  cases h with
  | v h => exact .v h
  | _ => cases ha
theorem atom1b_rep {Z Z' : Fzn} {ρ ρ' : Pls} {x : AV} {v : Value} (h : Rep Z ρ x v) (ha : atom1b x = true) : Rep Z' ρ' x v := by
  cases h with
  | v h => exact .v h
  | agg hl h => exact .agg hl fun i c v hc hv => atom1_rep (h i c v hc hv) (List.all_eq_true.1 (show List.all _ atom1 = true from ha) c (List.mem_of_getElem? hc))
  | _ => cases ha
theorem atomR_rep {Z Z' : Fzn} {ρ ρ' : Pls} {x : AV} {v : Value} (h : Rep Z ρ x v) (ha : atomR x = true) : Rep Z' ρ' x v := by
  cases h with
  | v h => exact .v h
  | agg hl h => exact .agg hl fun i c v hc hv => atom1b_rep (h i c v hc hv) (List.all_eq_true.1 (show List.all _ atom1b = true from ha) c (List.mem_of_getElem? hc))
  | tup hl h => exact .tup hl fun i c v hc hv => atom1b_rep (h i c v hc hv) (List.all_eq_true.1 (show List.all _ atom1b = true from ha) c (List.mem_of_getElem? hc))
  | _ => cases ha

/-- what a run from memory that is all frozen leaves, of a world that stands for more -/
theorem back_frozen {Z : Fzn} {ρ : Pls} {H : Heap} {w : World} (hs : Sim Z ρ H w) {R : AV} (hR : atomR R = true) {x : Value} {w' : World} (h : After (allZ w) noPls { objs := [], lock := 0 } w R { objs := [], lock := 0 } x w') : After Z ρ H w R H x w' := by
  obtain ⟨Z', ρ', h1, h2, h3⟩ := h
  have hsame : ∀ k, k < w.heap.size → w'.heap[k]? = w.heap[k]? := fun k hk => h3.frame k hk (start_own w k)
  refine ⟨Z, ρ, atomR_rep h1 hR, ⟨fun b o hb hl => ?_, hs.inj, fun k o hk => ?_, hs.fresh, hs.lk, hs.lg⟩, ⟨.refl _, .refl _, fun k hk _ => hsame k hk, fun _ _ h => h, h3.size, h3.os, h3.output, h3.tape, h3.drawn, h3.fz, rfl, fun _ _ => rfl, Nat.le_refl _, fun _ _ _ => rfl, fun _ _ _ => rfl, fun _ _ h _ => ⟨h, fun _ => rfl⟩⟩⟩
  · obtain ⟨pl, obj, q1, q2, q3, q4⟩ := hs.objs b o hb hl
    exact ⟨pl, obj, q1, (hsame _ (Array.getElem?_eq_some_iff.1 q2).1).trans q2, q3, q4⟩
  · have := hs.zok k o hk
    exact (hsame _ (Array.getElem?_eq_some_iff.1 this).1).trans this

theorem extOK_tab {C : Cfg} (hgo : NoGo C.P) (hm : C.P.follows .mixedOrders = true) (h0 : ExtOK C) {T : List Tell} (hT : AllG C T) {TH : List TellH} (hH : AllH C TH) : ExtOK (C.more2 (tabExt C.ext T) (tabExh C.exh T TH)) := by
  refine ⟨fun f g hf args v hv Z ρ H w vals hs hl => ?_, h0.lay, fun f g hf args v H hv Z ρ w vals hs hl => ?_⟩
  · have hf' : (if tabHas T f then some (tabFn T f) else C.ext f) = some g := hf
    split at hf'
    · simp only [Option.some.injEq] at hf'
      subst hf'
      obtain ⟨t, ⟨⟨e, x, he, ha⟩, hb⟩, rfl, rfl, rfl⟩ := tabFn_some hT hv
      exact ext_of_ans (C := C.more2 e x) hgo hm he ha hb Z ρ H w vals hs hl
    · exact h0.ext f g hf' args v hv Z ρ H w vals hs hl
  · have hf' : (if tabHHas TH f || tabHas T f then some (tabX T TH f) else C.exh f) = some g := hf
    split at hf'
    · simp only [Option.some.injEq] at hf'
      subst hf'
      unfold tabX at hv
      split at hv
      case h_2 =>
        unfold borH at hv
        split at hv
        · rename_i l hfz
          split at hv
          · rename_i R hR
            split at hv
            · rename_i hat
              simp only [Option.some.injEq] at hv
              subst hv
              have hlz : RepL (allZ w) noPls l vals := (freeze_rep (ρ := noPls) (Z1 := Z) (Z2 := allZ w) (ρ1 := ρ) (H1 := { H with lock := 0 }) (w1 := w) ⟨hs.objs, hs.inj, hs.zok, hs.fresh, Nat.zero_le _, hs.lg⟩ (fun k o hk => hs.zok k o hk) (fun b o pl _ _ _ _ => rfl) (fun b v p hb _ => absurd hb (Nat.not_lt_zero _)) 100000).2 _ _ _ hfz hl
              obtain ⟨t, ⟨⟨e, x, he, ha⟩, hb⟩, rfl, rfl, rfl⟩ := tabFn_some hT hR
              have hm1 := ext_of_ans (C := C.more2 e x) hgo hm he ha hb (allZ w) noPls { objs := [], lock := 0 } w vals (start_sim w (hs.lg.mono fun k o hk => hs.zok k o hk)) hlz
              rcases hm1 with ⟨y, w', h1, h2⟩ | ⟨h1, h2⟩
              · exact Or.inl ⟨y, w', h1, back_frozen hs hat h2⟩
              · exact Or.inr ⟨h1, Calls.mono' h2 fun en w' he => by
                  obtain ⟨y, rfl, h3⟩ := he
                  exact ⟨y, rfl, back_frozen hs hat h3⟩⟩
            · cases hv
          · cases hv
        · cases hv
      rename_i v2 hv2
      simp only [Option.some.injEq] at hv
      subst hv
      obtain ⟨t, ⟨⟨e, x, he, n, ha⟩, hb⟩, rfl, rfl, hG, rfl⟩ := tabH_some hH hv2
      have hrec : RecOK C.P (evT (C.more2 e x) n) := (ev_sound (C := C.more2 e x) hgo he (draw_ok hm he) n).1
      let D : Cfg := { C.more2 e x with pure := fun _ _ _ => true }
      have hk : callKind D t.f t.f none t.K = 2 := by
        simp only [Bool.or_eq_false_iff] at hb
        unfold callKind
        simp only [hb.1, hb.2, Bool.false_eq_true, if_false, if_true, D]
      have hB : callB D (evT (C.more2 e x) n) t.f t.f none t.K H = some (t.R, H) := by
        unfold callB; rw [hk]
        have h1 : ({ H with lock := H.size } : Heap) = { objs := t.G, lock := t.G.length } := by
          obtain ⟨objs, lock⟩ := H
          simp only at hG
          subst hG
          rfl
        have h2 : H.size = t.G.length := by unfold Heap.size; rw [hG]
        simp only
        rw [h1, h2]
        unfold ansH at ha
        split at ha
        · rename_i v1 H1 h3
          rw [h3]
          simp only [ha, Option.map_some]
        · cases ha
      obtain ⟨hbody, hc⟩ := callB_sound (C := D) hrec hs hl hB
      exact Or.inr ⟨hbody.run _ _, hc⟩
    · exact h0.exh f g hf' args v H hv Z ρ w vals hs hl

def ansC (o : Option Out) : Option AV := match o with | some (.ret v H) => freezeV { H with lock := 0 } 1000000 v | _ => none
theorem ans_of_evC {C : Cfg} {n : Nat} {f : FuncId} {args : List AV} {v : AV} (h : ansC (evT C n (.call f args { objs := [], lock := 0 })) = some v) : Ans C f args v := by
  refine Ans.iff.2 ?_
  cases ho : evT C n (.call f args { objs := [], lock := 0 }) with
  | none => rw [ho] at h; cases h
  | some o =>
    rw [ho] at h
    cases o with
    | go => cases h
    | ret x H => exact ⟨x, H, lim_iff.2 ⟨n, ho⟩, h⟩

theorem goodC {C : Cfg} (hgo : NoGo C.P) (hm : C.P.follows .mixedOrders = true) (h0 : ExtOK C) {t : Tell} (T : List Tell) (hT : AllG C T) (TH : List TellH) (hH : AllH C TH) (n : Nat)
    (h : ansC (evT (C.more2 (tabExt C.ext T) (tabExh C.exh T TH)) n (.call t.f t.K { objs := [], lock := 0 })) = some t.R) (hb : boundL t.K = 0) : GoodC C t :=
  ⟨⟨_, _, extOK_tab hgo hm h0 hT hH, ans_of_evC h⟩, hb⟩
theorem goodH {C : Cfg} (hgo : NoGo C.P) (hm : C.P.follows .mixedOrders = true) (h0 : ExtOK C) {t : TellH} (T : List Tell) (hT : AllG C T) (TH : List TellH) (hH : AllH C TH) (n : Nat)
    (h : ansH t.G.length (evT (C.more2 (tabExt C.ext T) (tabExh C.exh T TH)) n (.call t.f t.K { objs := t.G, lock := t.G.length })) = some t.R) (hb : (Nat.beq (boundL t.K) 0 || t.K.any isYld) = false) : GoodH C t :=
  ⟨⟨_, _, extOK_tab hgo hm h0 hT hH, n, h⟩, hb⟩
theorem freeze_toV {H : Heap} {K : Nat} {x : AV} {y : Value} (h : freezeV H K x = some (.v y)) : x = .v y := by
  cases K with
  | zero => cases h
  | succ K =>
    unfold freezeV at h
    cases x with
    | v z => simpa using h
    | ro z k => simp at h
    | vs s l c => simp at h
    | agg l => simp only [Option.map_eq_some_iff] at h; obtain ⟨_, _, h⟩ := h; cases h
    | tup l => simp only [Option.map_eq_some_iff] at h; obtain ⟨_, _, h⟩ := h; cases h
    | ifc t z => simp only [Option.map_eq_some_iff] at h; obtain ⟨_, _, h⟩ := h; cases h
    | mp b => simp only at h; split at h <;> simp at h
    | yld b => simp only at h; split at h <;> simp at h
    | fn f a b => simp only at h; split at h <;> simp at h
    | ptr b v k =>
      simp only at h
      split at h
      · simp at h
      · split at h
        · split at h
          · split at h <;> simp at h
          · simp at h
        · simp at h
    | sl b v off len c =>
      simp only at h
      split at h
      · simp at h
      · split at h
        · split at h
          · split at h
            · simp at h
            · split at h
              · split at h <;> simp at h
              · simp at h
          · simp at h
        · simp at h
theorem Ans.limT {C : Cfg} {f : FuncId} {args : List AV} (h : Ans C f args (.v (.bool true))) : ∃ H', Go.Ev.lim C (.call f args { objs := [], lock := 0 }) = some (.ret (.v (.bool true)) H') := by
  obtain ⟨x, H, h1, h2⟩ := Ans.iff.1 h
  rw [freeze_toV h2] at h1
  exact ⟨H, h1⟩

/-- a law without arguments -/
theorem closed_law {C : Cfg} {f : FuncId} (h : GoodC C ⟨f, [], .v (.bool true)⟩) : ∃ e x, ExtOK (C.more2 e x) ∧ ∀ P N xs, ArgsOf P N [] xs → ∃ H', Go.Ev.lim (C.more2 e x) (.call f xs { objs := [], lock := 0 }) = some (.ret (.v (.bool true)) H') := by
  obtain ⟨⟨e, x, he, ha⟩, -⟩ := h
  refine ⟨e, x, he, fun P N xs hx => ?_⟩
  cases hx
  exact ha.limT
end Go.Ev
/- Do two slices lie in one memory: what stands for it. -/
namespace Go.Ev

def lapsA (args : List AV) (H : Heap) : Option AV :=
  match args with
  | [x, .sl b ver _ _ _] =>
    match H.get b with
    | some (.cells v _ _ _ _ _) =>
      if v = ver then
        match x with
        | .vs sz _ _ => if sz = 0 then none else some (.v (.bool false))
        | .sl b' ver' _ _ _ =>
          match H.get b' with
          | some (.cells v' _ _ _ _ _) => if v' = ver' then (if b' = b then none else some (.v (.bool false))) else none
          | _ => none
        | _ => none
      else none
    | _ => none
  | _ => none

theorem run_laps {P : Program} (w : World) (tS tR e : TypeId) (ht : P.underlying tS = some (.slice e)) (size : Nat) (hz : ∀ w, (Go.sizeOf e).run P w = .ok size w)
    (a b : Addr) (la ca lb cb : Nat) (hne : a.block ≠ b.block) {arrA arrB : Array Value} {eA eB : TypeId} {fzA : Nat × Nat}
    (hA : w.heap[a.block]? = some (.cells arrA eA fzA)) (hB : w.heap[b.block]? = some (.cells arrB eB (0, 0))) (hn : la = 0 ∨ arrA.size ≠ 0 ∨ fzA = (0, 0)) :
    (Extern.SlicesOverlaps.overlaps #[tS, tS] #[tR] #[.slice (some a) la ca, .slice (some b) lb cb]).run P w = .ok (.bool false) w := by
  have hnb : (a.block != b.block) = true := by simpa using hne
  have hnb' : (a.block == b.block) = false := by simpa using hne
  change Sem.run P (α := Value) (do
    let some t := (#[tS, tS] : Array TypeId)[0]? | stuck "slices.overlaps: no parameter types"
    let .slice elem ← underlying t | stuck "slices.overlaps: slice type expected"
    let size ← sizeOf elem
    match (some a : Option Addr), (some b : Option Addr) with
    | some a, some b =>
      if la = 0 ∨ lb = 0 ∨ size = 0 then pure (Value.bool false)
      else if a.block != b.block && (← frozen a) && (← frozen b) then unsupported .addressObserved
      else do
        if a.block != b.block then do
          noView a; noView b
          if ← mayBeOne a b then return Value.bool ((← choose (.extern "sameAddr.stringBytes" 2)) == 1)
        pure (Value.bool (a.block == b.block && a.off < b.off + lb * size && b.off < a.off + la * size))
    | _, _ => pure (Value.bool false)) w = _
  have hsa : w.shape? a.block = some (eA, arrA.size) := by simp [World.shape?, hA]
  have hsb : w.shape? b.block = some (eB, arrB.size) := by simp [World.shape?, hB]
  have hfb : ∀ o, w.frozen? { block := b.block, off := o } = false := fun o => by simp [World.frozen?, hB]
  have hfb' : w.frozen? b = false := by simp [World.frozen?, hB]
  by_cases h0 : la = 0 ∨ lb = 0 ∨ size = 0
  · simp [run_underlying ht, hz, h0]
  · have hn' : arrA.size ≠ 0 ∨ fzA = (0, 0) := by
      rcases hn with h | h
      · exact absurd (Or.inl h) h0
      · exact h
    rcases hn' with hk | hk
    · cases hka : arrA.size with
      | zero => exact absurd hka hk
      | succ n =>
        rw [hka] at hsa
        generalize hfa : w.frozen? a = fa
        generalize hfe : w.frozen? { block := a.block, off := n + 1 } = fe
        cases fa <;> cases fe <;> simp [run_underlying ht, hz, h0, hnb, hnb', frozen, noView, viewAt, mayBeOne, stringish, shape, Sem.run, hsa, hsb, hfa, hfe, hfb, hfb']
    · subst hk
      have hfa : ∀ o, w.frozen? { block := a.block, off := o } = false := fun o => by simp [World.frozen?, hA]
      have hfa' : w.frozen? a = false := by simp [World.frozen?, hA]
      simp [run_underlying ht, hz, h0, hnb, hnb', frozen, noView, viewAt, mayBeOne, stringish, shape, Sem.run, hsa, hsb, hfa, hfa', hfb, hfb']

theorem run_laps0 {P : Program} (w : World) (tS tR e : TypeId) (ht : P.underlying tS = some (.slice e)) (size : Nat) (hz : ∀ w, (Go.sizeOf e).run P w = .ok size w) (a b : Addr) (ca lb cb : Nat) :
    (Extern.SlicesOverlaps.overlaps #[tS, tS] #[tR] #[.slice (some a) 0 ca, .slice (some b) lb cb]).run P w = .ok (.bool false) w := by
  change Sem.run P (α := Value) (do
    let some t := (#[tS, tS] : Array TypeId)[0]? | stuck "slices.overlaps: no parameter types"
    let .slice elem ← underlying t | stuck "slices.overlaps: slice type expected"
    let size ← sizeOf elem
    match (some a : Option Addr), (some b : Option Addr) with
    | some a, some b =>
      if (0 : Nat) = 0 ∨ lb = 0 ∨ size = 0 then pure (Value.bool false)
      else if a.block != b.block && (← frozen a) && (← frozen b) then unsupported .addressObserved
      else do
        if a.block != b.block then do
          noView a; noView b
          if ← mayBeOne a b then return Value.bool ((← choose (.extern "sameAddr.stringBytes" 2)) == 1)
        pure (Value.bool (a.block == b.block && a.off < b.off + lb * size && b.off < a.off + 0 * size))
    | _, _ => pure (Value.bool false)) w = _
  simp [run_underlying ht, hz]

theorem exh_laps {P : Program} {f : FuncId} {fn : Func} (hf : P.funcs[f]? = some fn) (hb : fn.body = none) (hn : (fn.name == "runtime.NumGoroutine") = false) (h1 : (Extern.findNext fn).isNone = true)
    {tS tR e : TypeId} (h2 : Extern.find fn = some (Extern.SlicesOverlaps.overlaps #[tS, tS] #[tR])) (ht : P.underlying tS = some (.slice e)) {size : Nat} (hz : ∀ w, (Go.sizeOf e).run P w = .ok size w)
    {args : List AV} {v : AV} {H : Heap} (h : lapsA args H = some v) (Z : Fzn) (ρ : Pls) (w : World) (vals : List Value) (hs : Sim Z ρ H w) (hl : RepL Z ρ args vals) : FnMeets P f vals w (After Z ρ H w v H) := by
  have hrow : ∀ {b : Nat} {v m : Nat} {t : TypeId} {sz : Nat} {g : Bool} {cs : List AV} {pl : Pl}, H.get b = some (.cells v m t sz g cs) → ρ b v = some pl → ∃ arr e, w.heap[pl.blk]? = some (.cells arr e (0, 0)) ∧ Z pl.blk = none := by
    intro b v m t sz g cs pl hg hp
    obtain ⟨pl', obj, q1, q2, q3, q4⟩ := hs.objs b _ hg rfl
    simp only [AObj.ver] at q1
    rw [hp] at q1; cases q1
    cases obj <;> simp only [RepO] at q3
    obtain ⟨rfl, -⟩ := q3
    exact ⟨_, _, q2, q4⟩
  have key : ∀ (a b : Addr) (la ca lb cb : Nat), vals = [.slice (some a) la ca, .slice (some b) lb cb] → a.block ≠ b.block → (∃ arrA eA fzA, w.heap[a.block]? = some (.cells arrA eA fzA) ∧ (la = 0 ∨ arrA.size ≠ 0 ∨ fzA = (0, 0))) →
      (∃ arrB eB, w.heap[b.block]? = some (.cells arrB eB (0, 0))) → FnMeets P f vals w (After Z ρ H w (.v (.bool false)) H) := by
    rintro a b la ca lb cb rfl hne ⟨arrA, eA, fzA, hA, hna⟩ ⟨arrB, eB, hB⟩
    refine Or.inl ⟨.bool false, w, ?_, Z, ρ, .v rfl, hs, Ext.refl _ _ _ _⟩
    have hfn : Extern.findNext fn = none := Option.isNone_iff_eq_none.1 h1
    have := run_laps (P := P) w tS tR e ht size hz a b la ca lb cb hne hA hB hna
    have hn' : ¬ fn.name = "runtime.NumGoroutine" := by
      intro e; rw [e] at hn; simp at hn
    simp [callFunc, hf, hn', hb, hfn, h2, this]
  unfold lapsA at h
  split at h
  · rename_i x b ver off len cap
    obtain ⟨v1, ws, rfl, hv1, hl⟩ := hl.uncons
    obtain ⟨v2, ws, rfl, hv2, hl⟩ := hl.uncons
    have : ws = [] := by have := hl.1; exact List.length_eq_zero_iff.1 this.symm
    subst this
    split at h
    · rename_i vr m t sz g cs hg
      split at h
      · rename_i hver
        subst hver
        cases hv2 with
        | sl hp hc hcn hle =>
        obtain ⟨arrB, eB, hB, hZ⟩ := hrow hg hp
        split at h
        · rename_i sz xs cap1
          split at h
          · cases h
          · rename_i hsz
            simp only [Option.some.injEq] at h; subst h
            cases hv1 with
            | vs hz' ha hs' hl' h' hc' hle' =>
              refine key _ _ _ _ _ _ rfl ?_ ?_ ⟨_, _, hB⟩
              · intro hE
                simp only at hE
                rw [hE, hZ] at hz'; cases hz'
              · refine ⟨_, _, _, hs.zok _ _ hz', ?_⟩
                by_cases hx : xs.length = 0
                · exact .inl hx
                · right; left
                  intro h0
                  have hlen := congrArg List.length ha
                  simp only [Array.length_toList, h0, List.length_append] at hlen
                  cases xs with
                  | nil => exact hx rfl
                  | cons y ys =>
                    have hy := hs' y (by simp)
                    simp only [List.flatMap_cons, List.length_append] at hl'
                    omega
            | vs0 hc' =>
              rename_i a
              refine Or.inl ⟨.bool false, w, ?_, Z, ρ, .v rfl, hs, Ext.refl _ _ _ _⟩
              have hfn : Extern.findNext fn = none := Option.isNone_iff_eq_none.1 h1
              have : ∀ b ca cb lb, (Extern.SlicesOverlaps.overlaps #[tS, tS] #[tR] #[.slice (some a) 0 ca, .slice (some b) lb cb]).run P w = .ok (.bool false) w := fun b ca cb lb => run_laps0 w tS tR e ht size hz a b ca lb cb
              have hn' : ¬ fn.name = "runtime.NumGoroutine" := by
                intro e; rw [e] at hn; simp at hn
              simp [callFunc, hf, hn', hb, hfn, h2, this]
        · rename_i b' ver' off' len' cap'
          split at h
          · rename_i vr' m' t' sz' g' cs' hg'
            split at h
            · rename_i hver'
              subst hver'
              split at h
              · cases h
              · rename_i hbb
                simp only [Option.some.injEq] at h; subst h
                cases hv1 with
                | sl hp' hc' hcn' hle' =>
                obtain ⟨arrA, eA, hA, hZ'⟩ := hrow hg' hp'
                refine key _ _ _ _ _ _ rfl ?_ ⟨_, _, _, hA, .inr (.inr rfl)⟩ ⟨_, _, hB⟩
                intro hE
                exact hbb (hs.inj b' b _ _ _ _ hg' rfl hg rfl (by simpa [AObj.ver] using hp') (by simpa [AObj.ver] using hp) hE)
            · cases h
          · cases h
        · cases h
      · cases h
    · cases h
  · cases h

theorem extOK_laps {C C' : Cfg} (hP : C'.P = C.P) {f : FuncId} (hg : ∀ args v H, lapsA args H = some v → ∀ (Z : Fzn) (ρ : Pls) (w : World) (vals : List Value), Sim Z ρ H w → RepL Z ρ args vals → FnMeets C.P f vals w (After Z ρ H w v H))
    (hext : ExtOK C) (he : C'.ext = C.ext := by rfl) (hlay : C'.lay = C.lay := by rfl) (hexh : C'.exh = fun f' => if Nat.beq f' f then some lapsA else C.exh f') : ExtOK C' := by
  refine ⟨fun f' g' hf' => by rw [hP]; rw [he] at hf'; exact hext.ext f' g' hf', fun f' g' hf' => by rw [hP]; rw [hlay] at hf'; exact hext.lay f' g' hf', fun f' g' hf' args v H hv Z ρ w vals hs hl => ?_⟩
  rw [hP]
  rw [hexh] at hf'
  simp only at hf'
  split at hf'
  · rename_i hb
    have := Nat.eq_of_beq_eq_true hb
    subst this
    simp only [Option.some.injEq] at hf'
    subst hf'
    exact hg args v H hv Z ρ w vals hs hl
  · exact hext.exh f' g' hf' args v H hv Z ρ w vals hs hl
end Go.Ev
/- A function of Go's library that stands for itself: internal/bytealg.IndexByteString. -/
namespace Go.Ev

/-! ### the first byte of a kind -/
def idxB (c : Nat) : Int → List UInt8 → Int
  | _, [] => -1
  | i, b :: r => if Nat.beq b.toNat c then i else idxB c (i + 1) r
theorem idxB_eq (c : UInt8) : ∀ (l : List UInt8) (i : Int), idxB c.toNat i l = if Lib.indexByte l c = -1 then -1 else Lib.indexByte l c + i
  | [], i => by simp [idxB, Lib.indexByte]
  | b :: l, i => by
    unfold idxB Lib.indexByte
    by_cases h : b = c
    · subst h
      have h1 : Nat.beq b.toNat b.toNat = true := Nat.beq_refl _
      simp
    · have h1 : Nat.beq b.toNat c.toNat = false := by
        cases hb : Nat.beq b.toNat c.toNat
        · rfl
        · exact absurd (UInt8.toNat_inj.1 (Nat.eq_of_beq_eq_true hb)) h
      have hge := Lib.indexByte_ge l c
      rw [h1, idxB_eq c l (i + 1)]
      simp only [Bool.false_eq_true, if_false, beq_iff_eq, h]
      by_cases h2 : Lib.indexByte l c = -1
      · simp [h2]
      · simp only [h2, if_false]
        rw [if_neg (by omega)]; omega
def idxStr : List AV → Option AV
  | [.v (.string s), .v (.int .u8 c)] => if 0 ≤ c ∧ c < 256 then some (.v (.int .i64 (idxB c.toNat 0 s.data.toList))) else none
  | _ => none
theorem ext_idx {P : Program} {f : FuncId} {fn : Func} (hf : P.funcs[f]? = some fn) (hb : fn.body = none) (hn : (fn.name == "runtime.NumGoroutine") = false) (h1 : (Extern.findNext fn).isNone = true) (h2 : Extern.find fn = some Extern.BytealgIndexByte.indexByte)
    {args : List AV} {v : AV} (h : idxStr args = some v) (Z : Fzn) (ρ : Pls) (H : Heap) (w : World) (vals : List Value) (hs : Sim Z ρ H w) (hl : RepL Z ρ args vals) : FnMeets P f vals w (After Z ρ H w v H) := by
  unfold idxStr at h
  split at h
  · rename_i s c
    split at h
    · rename_i hc
      obtain ⟨v1, ws, rfl, hv1, hl⟩ := hl.uncons
      obtain ⟨v2, ws, rfl, hv2, hl⟩ := hl.uncons
      have : ws = [] := List.length_eq_zero_iff.1 hl.1.symm
      subst this
      obtain ⟨rfl, -⟩ := hv1.v_inv
      obtain ⟨rfl, -⟩ := hv2.v_inv
      simp only [Option.some.injEq] at h
      subst h
      refine Or.inl ⟨.int .i64 (Lib.indexByte s.data.toList c.toNat.toUInt8), w, ?_, Z, ρ, ?_, hs, Ext.refl _ _ _ _⟩
      · have hfn : Extern.findNext fn = none := Option.isNone_iff_eq_none.1 h1
        have := Lib.run_indexByteString (P := P) s c w
        have hn' : ¬ fn.name = "runtime.NumGoroutine" := by
          intro e; rw [e] at hn; simp at hn
        simp [callFunc, hf, hn', hb, hfn, h2, this]
      · have hcn : c.toNat.toUInt8.toNat = c.toNat := by
          have : c.toNat < 256 := by omega
          simp [Nat.toUInt8, Nat.mod_eq_of_lt this]
        have := idxB_eq c.toNat.toUInt8 s.data.toList 0
        rw [hcn] at this
        have e : idxB c.toNat 0 s.data.toList = Lib.indexByte s.data.toList c.toNat.toUInt8 := by
          rw [this]; split
          · rename_i h; exact h.symm
          · omega
        rw [e]; exact .v rfl
    · cases h
  · cases h
end Go.Ev
/- The configuration over this seat's program, for closed evaluations. Made by program. -/
namespace Go.Ev
open Go.Proofs
set_option maxRecDepth 1000000
def impF : List Nat := [96, 118, 128, 132]
def impC : List (Nat × Nat × Nat) := [(39, 68, 8), (44, 68, 5), (87, 111, 7), (5, 28, 68), (5, 28, 70), (52, 85, 41)]
def altF : List Nat := []
def altC : List (Nat × Nat) := [(28, 12), (28, 27)]
def nearF : List Nat := [39]
def nearC : List (Nat × Nat) := []
def keepF : Nat → List Nat
  | 2 => []
  | 3 => [0, 4, 31, 9, 1, 10, 12, 11, 13, 14, 16, 15, 17, 83, 2, 3, 18, 19, 20, 21, 22, 24, 23, 25, 154, 153, 155, 152, 28, 160, 159, 161, 29, 26, 8]
  | 4 => [0, 2, 11, 5, 1, 6, 8, 7, 9, 4]
  | 5 => [42, 2, 1, 4, 3, 67, 5, 6, 7, 9, 11, 13, 15, 17, 19, 22, 24, 26, 0]
  | 6 => [0, 1, 24, 3, 29, 49, 2]
  | 7 => [0, 1, 4, 3, 25, 2]
  | 8 => [0, 2, 1, 7, 15, 6, 4, 5]
  | 9 => [0, 2, 1, 6, 11, 4, 5]
  | 10 => [0, 2, 1, 7, 15, 6, 4, 5]
  | 11 => [0, 2, 1, 6, 11, 4, 5]
  | 12 => [0, 1, 4, 2]
  | 13 => [0, 1, 3, 8, 12, 2]
  | 14 => [0, 1, 10, 5, 14, 25, 4]
  | 15 => [0, 2, 1, 7, 15, 4, 5]
  | 16 => [0, 2, 1, 6, 11, 4, 5]
  | 17 => [0, 3, 9, 19, 1, 21, 2, 8, 10, 29, 12, 6, 7]
  | 18 => [0, 3, 8, 15, 1, 20, 2, 9, 28, 10, 6, 7]
  | 19 => [0, 2, 1, 7, 15, 4, 25, 5]
  | 20 => [0, 2, 1, 6, 13, 4, 7, 21, 8, 5]
  | 21 => [0, 1, 2, 3, 42, 5, 47, 60, 6, 65, 78, 7, 83, 8, 9, 137, 4]
  | 22 => [0, 2, 7, 15, 1, 18, 6, 25, 8, 4, 5]
  | 23 => [0, 2, 6, 16, 1, 19, 8, 26, 11, 32, 10, 12, 9, 46, 7, 52, 4, 5]
  | 24 => [0, 1, 10, 5, 14, 25, 4]
  | 25 => [2, 1, 4, 3, 6, 5, 8, 7, 10, 9, 12, 11, 14, 13, 17, 15, 16, 0]
  | 26 => [0, 1, 8, 7, 2, 6]
  | 27 => [0, 6, 5, 1, 4]
  | 28 => [0]
  | 29 => [0, 2, 1, 7, 16, 4, 6, 25, 8, 5]
  | 30 => [0, 1, 5, 12, 4, 2, 3]
  | 31 => [0, 1, 4, 14, 5, 19, 18, 20, 17, 7, 27, 2, 3]
  | 32 => [0, 1, 5, 12, 2, 4, 3]
  | 33 => [0, 1, 9, 3, 14, 24, 4, 33, 46, 5, 58, 74, 2]
  | 34 => [0, 4, 1, 11, 6, 29, 5, 3, 2]
  | 35 => [0, 2, 7, 1, 22, 6, 4, 5]
  | 36 => [0, 1, 2, 3, 4]
  | 37 => [0, 2, 5, 9, 1, 17, 4]
  | 38 => [0, 2, 7, 6, 14, 1, 36, 5, 4]
  | 39 => [0, 1, 3, 2, 5, 6, 4]
  | 40 => [0, 3, 1, 10, 9, 24, 8, 11, 12, 2, 54, 7, 6]
  | 41 => [0, 1, 4, 10, 2, 5, 26, 3]
  | 42 => [0, 1, 5, 2]
  | 43 => [0, 1, 24, 3, 4, 35, 53, 5, 56, 69, 7, 74, 8, 6, 120, 140, 2]
  | 44 => [0, 1, 3, 2]
  | 45 => [1, 0, 4]
  | 46 => [0, 1, 2]
  | 47 => [0, 1, 3, 20, 19, 21, 18, 8, 12, 2, 30, 10, 11, 9, 6, 7]
  | 48 => [0, 1, 2, 6]
  | 49 => [0, 10, 3, 17, 1, 2, 25, 9, 32, 8, 51, 11, 12, 6, 7]
  | 50 => [0, 1, 3, 4, 2]
  | 51 => [0, 1, 2, 3, 15, 5, 20, 6, 7, 46, 8, 51, 65, 4]
  | 52 => [0, 1, 16, 15, 17, 14, 7, 5, 8, 4, 41, 42, 43, 10, 9, 11, 50, 2, 3]
  | 53 => [0, 1, 2, 3, 4]
  | 54 => [0, 5, 1, 19, 6, 28, 7, 9, 42, 4, 2, 10, 54, 3]
  | 55 => [6, 1, 9, 0, 16, 5, 4]
  | 56 => [0, 1, 10, 5, 19, 30, 4]
  | 57 => [0, 1, 4, 8, 2, 13, 3, 7, 6]
  | 58 => [0, 2]
  | 59 => [0, 1, 2, 6]
  | 60 => [0, 2, 5, 13, 12, 14, 1, 6, 18, 4]
  | 61 => [0, 1, 2]
  | 62 => [0, 1, 5, 12, 2, 4, 3]
  | 63 => [0, 1, 10, 9, 11, 4, 6, 5, 28, 3, 2]
  | 64 => [0, 1, 3, 2]
  | 65 => [0, 11, 10, 12, 9, 3, 5, 20, 27, 26, 28, 25, 6, 8, 2]
  | 66 => [0, 4, 1, 11, 5, 22, 6, 36, 3, 2]
  | 67 => [0, 1, 3, 6, 12, 5, 2, 4]
  | 68 => [0, 10, 11, 9, 5, 1, 18, 17, 19, 16, 3, 7, 24, 2]
  | 69 => [0, 10, 9, 11, 8, 1, 7, 16, 5, 4]
  | 70 => [0, 1, 3, 2, 4]
  | 71 => [1, 0, 3, 4]
  | 72 => [1, 5, 0, 9, 3, 17, 4]
  | 73 => [0, 1, 4, 2]
  | 74 => [0, 1, 13, 12, 14, 11, 5, 21, 20, 22, 19, 7, 28, 27, 29, 8, 4, 6, 9, 3, 2]
  | 75 => [0, 1, 10, 11, 9, 5, 15, 18, 17, 19, 16, 7, 3, 30, 2]
  | 76 => [0, 1, 13, 18, 17, 19, 16, 6, 4, 39, 41, 42, 40, 7, 8, 65, 3, 2]
  | 77 => [0, 1, 12, 3, 17, 4, 35, 5, 38, 49, 6, 54, 64, 7, 72, 84, 2]
  | 78 => [0, 4, 1, 9, 3, 2]
  | 79 => [0, 1, 2, 3, 16, 9, 20, 4, 5, 60, 8]
  | 80 => [0, 1, 2, 3]
  | 81 => [0, 1, 9, 8, 10, 7, 6, 2, 22, 4]
  | 82 => [0]
  | 83 => [0, 2, 9, 4, 1, 3, 8]
  | 84 => [0, 1, 10, 5, 14, 25, 4]
  | 85 => [0, 1, 2]
  | 86 => [0, 10, 9, 11, 8, 1, 6, 17, 5, 7, 4]
  | 87 => [0, 1, 4]
  | 88 => [1, 0, 2, 4]
  | 89 => [0, 1, 11, 10, 12, 3, 4, 2]
  | 90 => [0, 1, 5, 4, 2, 11, 10, 27, 9, 3, 8]
  | 91 => [0, 1, 2, 3, 6, 15, 5, 4]
  | 92 => [0, 1, 4]
  | 93 => [0, 3, 7, 14, 13, 15, 8, 1, 23, 2, 6]
  | 94 => [1, 0, 2, 4]
  | 95 => [0, 2, 12, 11, 13, 10, 1, 7, 19, 5, 8, 6, 4]
  | 96 => [1, 6, 0, 16, 4]
  | 97 => [1, 0, 8, 7, 9, 3, 5, 16, 4]
  | 98 => [0, 1, 6, 2, 3]
  | 99 => [0, 1, 2]
  | 100 => [0, 1, 2, 5, 4, 19, 7, 3, 27, 26, 28, 25, 8, 10, 42, 6]
  | 101 => [0, 1, 2, 6]
  | 102 => [3, 0, 7, 19, 2]
  | 103 => [0, 1, 2, 3, 6, 5, 4]
  | 104 => [0, 1, 2, 3, 9, 19, 4]
  | 105 => [0, 1, 2]
  | 106 => [0, 1, 2]
  | 107 => [0, 1, 2]
  | 108 => [0, 1, 2]
  | 109 => [1, 8, 9, 7, 4, 14, 13, 15, 0, 3, 5, 25]
  | 110 => [1, 0, 8, 9, 6, 3, 7, 5, 17, 4]
  | 111 => [0, 1, 2, 3, 4]
  | 112 => [0, 1, 4]
  | 113 => [0, 8, 7, 9, 6, 5, 3, 14, 2]
  | 114 => [0, 1, 5, 11, 6, 12, 13, 16, 19, 4]
  | 115 => [0, 11, 10, 12, 9, 5, 1, 19, 6, 7, 8, 28, 35, 4]
  | 116 => [0, 2, 1, 6, 15, 5, 7, 27, 4]
  | 117 => [0, 1, 8, 4, 17, 2, 24, 7, 9, 36, 3, 12, 11, 45, 10, 60, 6]
  | 118 => [0, 4, 2]
  | 119 => [0, 1, 11, 15, 14, 16, 13, 4, 3, 38, 2]
  | 120 => [0, 1, 3, 2, 28, 4, 5]
  | 121 => [1, 7, 6, 8, 2, 4, 0, 21]
  | 122 => [0, 8, 7, 9, 1, 6, 13, 5, 4]
  | 123 => [0, 2]
  | 124 => [0, 1, 9, 8, 10, 7, 6, 2, 22, 4]
  | 125 => [0, 2]
  | 126 => [1, 0, 3, 4]
  | 127 => [0, 12, 15, 14, 16, 4, 25, 31, 30, 32, 29, 6, 37, 3, 2]
  | 128 => [0, 1, 4]
  | 129 => [0, 2, 1, 3]
  | 130 => [0, 2]
  | 131 => [0, 9, 12, 11, 13, 3, 24, 2]
  | 132 => [0, 8, 7, 9, 1, 5, 16, 4]
  | _ => []
def isImp (me f : Nat) (d : Option Nat) : Bool := impF.any (Nat.beq f) || impC.any fun t => Nat.beq t.1 me && Nat.beq t.2.1 f && (match d with | some d => Nat.beq t.2.2 d | none => false)
noncomputable def CC : Cfg := { P := Try.prog, pure := fun me f d => !(isImp me f d), alter := fun me d => altF.any (Nat.beq me) || (match d with | some d => altC.any fun t => Nat.beq t.1 me && Nat.beq t.2 d | none => false), keep := keepF, ext := fun _ => none, near := fun me d => nearF.any (Nat.beq me) || (match d with | some d => nearC.any fun t => Nat.beq t.1 me && Nat.beq t.2 d | none => false) }
theorem mixedC : CC.P.follows .mixedOrders = true := by show Try.prog.follows .mixedOrders = true; kernel_rfl
theorem nogo_allC : (Try.prog.funcs.toList.all fun fn => !(fn.body.isSome && (fn.name == "runtime.NumGoroutine"))) = true := by kernel_rfl
theorem nogoC : NoGo CC.P := by
  intro f fn hf hb
  have h := List.all_eq_true.1 nogo_allC fn (by
    have : Try.prog.funcs[f]? = some fn := hf
    exact List.mem_of_getElem? (by simpa using this))
  rw [hb] at h
  simpa using h
theorem extOKZ : ExtOK { CC with ext := fun _ => none, exh := fun _ => none } := by
  exact ⟨fun _ _ h => (nomatch h), fun _ _ h => (nomatch h), fun _ _ h => (nomatch h)⟩
theorem extOKN : ExtOK (CC.more fun _ => none) := extOKZ
theorem extOKC : ExtOK CC := extOKN
abbrev Good (t : Tell) : Prop := GoodC CC t
abbrev GoodM (t : TellH) : Prop := GoodH CC t
theorem good {t : Tell} (T : List Tell) (hT : AllG CC T) (TH : List TellH) (hH : AllH CC TH) (h : ansC (evT (CC.more2 (tabExt CC.ext T) (tabExh CC.exh T TH)) 1000 (.call t.f t.K { objs := [], lock := 0 })) = some t.R) (hb : boundL t.K = 0) : Good t :=
  goodC nogoC mixedC extOKC T hT TH hH 1000 h hb
theorem goodm {t : TellH} (T : List Tell) (hT : AllG CC T) (TH : List TellH) (hH : AllH CC TH) (h : ansH t.G.length (evT (CC.more2 (tabExt CC.ext T) (tabExh CC.exh T TH)) 1000 (.call t.f t.K { objs := t.G, lock := t.G.length })) = some t.R) (hb : (Nat.beq (boundL t.K) 0 || t.K.any isYld) = false) : GoodM t :=
  goodH nogoC mixedC extOKC T hT TH hH 1000 h hb
end Go.Ev
/- Values that are met. Made by program. -/
namespace Go.Ev
set_option maxRecDepth 1000000
def q0 : AV := .v (.string ⟨⟨[116,104,101]⟩⟩)
def q1 : AV := .v (.string ⟨⟨[115,101,97]⟩⟩)
def q2 : AV := .v (.string ⟨⟨[105,115]⟩⟩)
def q3 : AV := .v (.string ⟨⟨[111,108,100]⟩⟩)
def q4 : AV := .vs 1 [.vs 1 [q0, q1, q2, q3] (some 4), .vs 1 [q3, q0, q1] (some 3)] (some 2)
def q5 : AV := .v (.string ⟨⟨[97,110,100]⟩⟩)
def q6 : AV := .vs 1 [.vs 1 [q1, q5, q1] (some 3)] (some 1)
def q7 : AV := .v (.int .i64 7)
def q8 : AV := .v (.int .i64 3)
def q9 : AV := .vs 2 [.agg [q7, q4], .agg [q8, q6]] (some 2)
def q10 : AV := .agg [q9]
def q11 : AV := .v (.int .i64 0)
def q12 : AV := .agg [q11, q11, q11]
def q13 : AV := .v (.int .i64 1)
def q14 : AV := .v (.int .i64 2)
def q15 : AV := .agg [q11, q11, q8]
def q16 : AV := .vs 3 [q12, .agg [q11, q11, q13], .agg [q11, q11, q14], q15] none
def q17 : AV := .agg [q11, q13, q11]
def q18 : AV := .agg [q11, q13, q13]
def q19 : AV := .agg [q11, q13, q14]
def q20 : AV := .vs 3 [q17, q18, q19] none
def q21 : AV := .agg [q13, q11, q11]
def q22 : AV := .agg [q13, q11, q13]
def q23 : AV := .agg [q13, q11, q14]
def q24 : AV := .vs 3 [q21, q22, q23] none
def q25 : AV := .vs 1 [q16, q20, q24] none
def q26 : AV := .v (.int .i64 50)
def q27 : AV := .agg [q13, q26]
def q28 : AV := .agg [q14, q11]
def q29 : AV := .agg [q8, .v (.int .i64 60)]
def q30 : AV := .vs 2 [q27, q28] none
def q31 : AV := .vs 2 [q29] (some 1)
def q32 : AV := .vs 3 [q12] (some 1)
def q33 : AV := .vs 3 [q12, q15] (some 2)
def q34 : AV := .agg [q11, q11, q11, q11, q32, q33]
def q35 : AV := .v (.int .i64 (-1))
def q36 : AV := .vs 3 [q18] (some 1)
def q37 : AV := .v (.slice none 0 0)
def q38 : AV := .agg [q13, q14, q11, q35, q36, q37]
def q39 : AV := .vs 6 [q34, q38] none
def q40 : AV := .agg [q9, q30, q31, q39, q25]
def q41 : AV := .vs 3 [q17, q18, q19, q21, q22, q23] none
def q42 : AV := .agg [q9, q30, q31, q39]
def q43 : AV := .tup [q40, q11]
def q44 : AV := .v (.int .i64 6)
def q45 : AV := .vs 3 [q12] none
def q46 : AV := .vs 3 [q12, q15] none
def q47 : AV := .agg [q14, q14]
def q48 : AV := .v (.int .u64 3)
def q49 : AV := .v (.int .i64 4)
def q50 : AV := .v (.int .u64 0)
def q51 : AV := .v (.int .u64 1)
def q52 : AV := .v (.int .i64 5)
def q53 : AV := .vs 1 [q14, q52] none
def q54 : AV := .agg [q50, q11]
def q55 : AV := .vs 2 [.agg [q48, q13], q54, .agg [q51, q8]] none
def q56 : AV := .agg [q53, q55]
def q57 : AV := .tup [q56, q11]
def q58 : AV := .v (.int .u64 2)
def q59 : AV := .vs 1 [q11, q52] none
def q60 : AV := .agg [q59, q55]
def q61 : AV := .v (.int .u64 18446744073709551615)
def q62 : AV := .v (.int .u64 18446744073709551612)
def q63 : AV := .v (.int .u64 18446744073709551614)
def q64 : AV := .v (.int .u64 4)
def q65 : AV := .v (.int .i64 8)
def q66 : AV := .v (.int .u64 5)
def q67 : AV := .v (.int .u64 6)
def q68 : AV := .v (.int .u64 7)
def q69 : AV := .agg [q11, q13]
def q70 : AV := .tup [q69, q11]
def q71 : AV := .vs 1 [q14, q11] none
def q72 : AV := .agg [q71, q55]
def q73 : AV := .vs 2 [.agg [q48, q11], q54, .agg [q51, q14]] none
def q74 : AV := .agg [q59, q73]
def q75 : AV := .v (.int .u64 18446744073709551613)
def q76 : AV := .vs 1 [q11, q11] none
def q77 : AV := .agg [q76, q73]
def q78 : AV := .vs 1 [q13, q11] none
def q79 : AV := .vs 1 [q11, q13] none
def q80 : AV := .vs 1 [q11] none
def q81 : AV := .tup [q49, q11]
def q82 : AV := .agg [q76, q55]
def q83 : AV := .tup [q11, q14]
def q84 : AV := .agg [q11, q11]
def q85 : AV := .agg [q9, .sl 5 0 0 2 (some 2), q31, .sl 6 0 0 2 (some 2), q25]
def o86 : Option AObj := some (.cells 0 0 47 1 false [q11, q13])
def o87 : Option AObj := some (.cells 0 4 28 1 false [q9, .sl 2 0 0 2 (some 2), q31, .sl 3 0 0 2 (some 2)])
def o88 : Option AObj := some (.cells 0 0 71 2 false [q13, q26, q14, q11])
def o89 : Option AObj := some (.cells 0 0 69 6 false [q11, q11, q11, q11, q32, q33, q11, q14, q11, q35, q36, q37])
def o90 : Option AObj := some (.cells 0 7 28 1 false [q9, .sl 5 0 0 2 (some 2), q31, .sl 6 0 0 2 (some 2)])
def o91 : Option AObj := some (.cells 0 0 71 2 false [q13, q11, q14, q11])
def o92 : Option AObj := some (.cells 0 0 69 6 false [q11, q11, q11, q11, q32, q33, q13, q14, q11, q35, q36, q37])
def o93 : Option AObj := some (.cells 0 0 28 1 false [q37, q30, q31, q39])
def o94 : Option AObj := some (.cells 0 0 47 1 false [q11, q11])
def o95 : Option AObj := some (.cells 0 0 79 1 false [q37, q37, q37, q37, q37])
def o96 : Option AObj := some (.cells 0 7 79 1 false [q9, .sl 5 0 0 2 (some 2), q31, .sl 6 0 0 2 (some 2), q25])
def q97 : AV := .agg [q9, .sl 5 0 0 2 (some 2), q31, .sl 6 0 0 2 (some 2)]
def o98 : Option AObj := some (.cells 0 0 99 1 false [q37, q37])
def q99 : AV := .agg [q37, q37]
def q100 : AV := .agg [q37]
def q101 : AV := .v (.int .i64 10)
def q102 : AV := .agg [q37, q30, q31, q39]
def o103 : Option AObj := some (.cells 0 0 47 1 false [q14, q14])
def t0 : Tell := ⟨131, [q0], (.v (.bool true))⟩
def t1 : Tell := ⟨131, [q1], (.v (.bool true))⟩
def t2 : Tell := ⟨131, [q2], (.v (.bool true))⟩
def t3 : Tell := ⟨131, [q3], (.v (.bool true))⟩
def t4 : Tell := ⟨127, [q4], (.v (.bool true))⟩
def t5 : Tell := ⟨131, [q5], (.v (.bool true))⟩
def t6 : Tell := ⟨127, [q6], (.v (.bool true))⟩
def t7 : Tell := ⟨119, [q10], (.v (.bool true))⟩
def t8 : Tell := ⟨98, [q10], (.tup [q10, q11])⟩
def t9 : Tell := ⟨73, [q10], q11⟩
def t10 : Tell := ⟨74, [q10], q25⟩
def t11 : Tell := ⟨99, [q27], (.v (.bool true))⟩
def t12 : Tell := ⟨99, [q28], (.v (.bool true))⟩
def t13 : Tell := ⟨99, [q29], (.v (.bool true))⟩
def t14 : Tell := ⟨75, [.agg [q30, q31]], (.v (.bool true))⟩
def t15 : Tell := ⟨65, [.vs 1 [q16] none], q16⟩
def t16 : Tell := ⟨36, [q40, q34], q16⟩
def t17 : Tell := ⟨65, [.vs 1 [q20, q24] none], q41⟩
def t18 : Tell := ⟨36, [q40, q38], q41⟩
def t19 : Tell := ⟨76, [q40], (.v (.bool true))⟩
def t20 : Tell := ⟨41, [q42], q43⟩
def t21 : Tell := ⟨35, [q42, q13], q43⟩
def t22 : Tell := ⟨8, [q42, q13], (.tup [q44, q11])⟩
def t23 : Tell := ⟨35, [q42, q11], q43⟩
def t24 : Tell := ⟨44, [q34], q45⟩
def t25 : Tell := ⟨39, [q40, q34], q46⟩
def t26 : Tell := ⟨10, [q42, q11], (.tup [q46, q11])⟩
def t27 : Tell := ⟨15, [q42, q11], (.tup [q45, q11])⟩
def t28 : Tell := ⟨50, [q34], q47⟩
def t29 : Tell := ⟨19, [q42, q11], (.tup [q47, q11])⟩
def t30 : Tell := ⟨44, [q38], q37⟩
def t31 : Tell := ⟨39, [q40, q38], (.vs 3 [q18] none)⟩
def t32 : Tell := ⟨47, [q40, q11, q11], (.tup [q48, q49])⟩
def t33 : Tell := ⟨47, [q40, q11, q13], (.tup [q50, q11])⟩
def t34 : Tell := ⟨47, [q40, q13, q11], (.tup [q51, q52])⟩
def t35 : Tell := ⟨52, [q40], q57⟩
def t36 : Tell := ⟨60, [q56, q58], q60⟩
def t37 : Tell := ⟨86, [q59, q61], q52⟩
def t38 : Tell := ⟨95, [q60, q50], q52⟩
def t39 : Tell := ⟨86, [q59, q62], q11⟩
def t40 : Tell := ⟨95, [q60, q51], q13⟩
def t41 : Tell := ⟨95, [q60, q58], q52⟩
def t42 : Tell := ⟨95, [q60, q48], q13⟩
def t43 : Tell := ⟨86, [q59, q63], q52⟩
def t44 : Tell := ⟨95, [q60, q64], q65⟩
def t45 : Tell := ⟨95, [q60, q66], q49⟩
def t46 : Tell := ⟨95, [q60, q67], q65⟩
def t47 : Tell := ⟨95, [q60, q68], q49⟩
def t48 : Tell := ⟨89, [q60], q13⟩
def t49 : Tell := ⟨61, [q60], q69⟩
def t50 : Tell := ⟨29, [q42, q13], q70⟩
def t51 : Tell := ⟨62, [q42], q57⟩
def t52 : Tell := ⟨86, [q53, q61], q7⟩
def t53 : Tell := ⟨95, [q56, q50], q7⟩
def t54 : Tell := ⟨86, [q53, q62], q11⟩
def t55 : Tell := ⟨95, [q56, q51], q13⟩
def t56 : Tell := ⟨95, [q56, q58], q7⟩
def t57 : Tell := ⟨95, [q56, q48], q13⟩
def t58 : Tell := ⟨86, [q53, q63], q52⟩
def t59 : Tell := ⟨95, [q56, q64], q65⟩
def t60 : Tell := ⟨95, [q56, q66], q49⟩
def t61 : Tell := ⟨95, [q56, q67], q65⟩
def t62 : Tell := ⟨95, [q56, q68], q49⟩
def t63 : Tell := ⟨89, [q56], q13⟩
def t64 : Tell := ⟨61, [q56], q69⟩
def t65 : Tell := ⟨32, [q42], q70⟩
def t66 : Tell := ⟨60, [q56, q51], q72⟩
def t67 : Tell := ⟨86, [q71, q61], q14⟩
def t68 : Tell := ⟨95, [q72, q50], q14⟩
def t69 : Tell := ⟨86, [q71, q62], q11⟩
def t70 : Tell := ⟨95, [q72, q51], q13⟩
def t71 : Tell := ⟨95, [q72, q58], q14⟩
def t72 : Tell := ⟨95, [q72, q48], q13⟩
def t73 : Tell := ⟨86, [q71, q63], q11⟩
def t74 : Tell := ⟨95, [q72, q64], q8⟩
def t75 : Tell := ⟨95, [q72, q66], q49⟩
def t76 : Tell := ⟨95, [q72, q67], q8⟩
def t77 : Tell := ⟨95, [q72, q68], q49⟩
def t78 : Tell := ⟨89, [q72], q13⟩
def t79 : Tell := ⟨60, [q56, q63], q60⟩
def t80 : Tell := ⟨93, [q56, q11, q13], q74⟩
def t81 : Tell := ⟨95, [q74, q50], q52⟩
def t82 : Tell := ⟨95, [q74, q51], q11⟩
def t83 : Tell := ⟨95, [q74, q58], q52⟩
def t84 : Tell := ⟨95, [q74, q48], q11⟩
def t85 : Tell := ⟨95, [q74, q64], q7⟩
def t86 : Tell := ⟨95, [q74, q66], q14⟩
def t87 : Tell := ⟨95, [q74, q67], q7⟩
def t88 : Tell := ⟨95, [q74, q68], q14⟩
def t89 : Tell := ⟨89, [q74], q11⟩
def t90 : Tell := ⟨60, [q74, q58], q74⟩
def t91 : Tell := ⟨60, [q74, q75], q77⟩
def t92 : Tell := ⟨93, [q74, q13, q11], q77⟩
def t93 : Tell := ⟨86, [q76, q61], q11⟩
def t94 : Tell := ⟨95, [q77, q50], q11⟩
def t95 : Tell := ⟨86, [q76, q62], q11⟩
def t96 : Tell := ⟨95, [q77, q51], q11⟩
def t97 : Tell := ⟨95, [q77, q58], q11⟩
def t98 : Tell := ⟨95, [q77, q48], q11⟩
def t99 : Tell := ⟨86, [q76, q63], q11⟩
def t100 : Tell := ⟨95, [q77, q64], q14⟩
def t101 : Tell := ⟨95, [q77, q66], q14⟩
def t102 : Tell := ⟨95, [q77, q67], q14⟩
def t103 : Tell := ⟨95, [q77, q68], q14⟩
def t104 : Tell := ⟨89, [q77], q11⟩
def t105 : Tell := ⟨63, [q56], q78⟩
def t106 : Tell := ⟨30, [q42], (.tup [q78, q11])⟩
def t107 : Tell := ⟨112, [q79, q80], (.v (.bool false))⟩
def t108 : Tell := ⟨64, [q56], q80⟩
def t109 : Tell := ⟨31, [q42], (.tup [q80, q37, q11])⟩
def t110 : Tell := ⟨14, [q46, q33], (.v (.bool true))⟩
def t111 : Tell := ⟨14, [q45, q32], (.v (.bool true))⟩
def t112 : Tell := ⟨17, [q42, .v (.bool false), q11], q81⟩
def t113 : Tell := ⟨26, [.v (.bool false), q11, q49], (.v (.bool true))⟩
def t114 : Tell := ⟨60, [q56, q61], q56⟩
def t115 : Tell := ⟨60, [q56, q75], q72⟩
def t116 : Tell := ⟨60, [q56, q62], q82⟩
def t117 : Tell := ⟨95, [q82, q50], q11⟩
def t118 : Tell := ⟨95, [q82, q51], q13⟩
def t119 : Tell := ⟨95, [q82, q58], q11⟩
def t120 : Tell := ⟨95, [q82, q48], q13⟩
def t121 : Tell := ⟨95, [q82, q64], q8⟩
def t122 : Tell := ⟨95, [q82, q66], q49⟩
def t123 : Tell := ⟨95, [q82, q67], q8⟩
def t124 : Tell := ⟨95, [q82, q68], q49⟩
def t125 : Tell := ⟨89, [q82], q11⟩
def t126 : Tell := ⟨53, [q56, q11], q79⟩
def t127 : Tell := ⟨22, [q42, q11], (.tup [q79, q11])⟩
def t128 : Tell := ⟨27, [q11, .vs 1 [q11, q13] (some 2)], (.v (.bool true))⟩
def t129 : Tell := ⟨25, [], (.v (.bool true))⟩
def t130 : Tell := ⟨17, [q42, .v (.bool false), q13], (.tup [q11, q11])⟩
def t131 : Tell := ⟨26, [.v (.bool false), q13, q11], (.v (.bool true))⟩
def t132 : Tell := ⟨17, [q42, .v (.bool true), q11], (.tup [q52, q11])⟩
def t133 : Tell := ⟨26, [.v (.bool true), q11, q52], (.v (.bool true))⟩
def t134 : Tell := ⟨112, [q80, q37], (.v (.bool false))⟩
def t135 : Tell := ⟨112, [.vs 1 [q13] none, q37], (.v (.bool false))⟩
def t136 : Tell := ⟨112, [q79, q37], (.v (.bool false))⟩
def t137 : Tell := ⟨53, [q56, q13], q37⟩
def t138 : Tell := ⟨22, [q42, q13], (.tup [q37, q11])⟩
def t139 : Tell := ⟨27, [q13, q37], (.v (.bool true))⟩
def t140 : Tell := ⟨8, [q42, q11], q81⟩
def t141 : Tell := ⟨61, [q72], q69⟩
def t142 : Tell := ⟨29, [q42, q11], q70⟩
def t143 : Tell := ⟨35, [q42, q14], (.tup [q40, q14])⟩
def t144 : Tell := ⟨8, [q42, q14], q83⟩
def t145 : Tell := ⟨19, [q42, q13], (.tup [q84, q44])⟩
def t146 : Tell := ⟨17, [q42, .v (.bool true), q13], q83⟩
def t147 : Tell := ⟨99, [.agg [q13, q11]], (.v (.bool true))⟩
def u148 : TellH := ⟨76, [q85], [o86, o87, o88, o89, o90, o91, o92, o87, o93, o90, o90, o94, o90, o95, o90, o95, none, none, none, none, none, o96, none], (.v (.bool true))⟩
def u149 : TellH := ⟨76, [q85], [o86, o87, o88, o89, o90, o91, o92, o87, o93, o90, o94, o90, o94, o90, o95, o90, o95, none, none, none, none, none, o96, none], (.v (.bool true))⟩
def u150 : TellH := ⟨29, [q97, q11], [o86, o87, o88, o89, o90, o91, o92, o87, o93, o90, o94], (.tup [q84, q65])⟩
def u151 : TellH := ⟨76, [q85], [o86, o87, o88, o89, o90, o91, o92, o87, o93, o90, o94, o94, o90, o90, o98, o90, o95, none, none, none, none, none, o96, none], (.v (.bool true))⟩
def u152 : TellH := ⟨62, [q97], [o86, o87, o88, o89, o90, o91, o92, o87, o93, o90, o94, o94, o90], (.tup [q99, q65])⟩
def u153 : TellH := ⟨76, [q85], [o86, o87, o88, o89, o90, o91, o92, o87, o93, o90, o94, o94, o90, o90, o95, none, none, none, none, none, o96, none], (.v (.bool true))⟩
def u154 : TellH := ⟨22, [q97, q11], [o86, o87, o88, o89, o90, o91, o92, o87, o93, o90, o94, o94], (.tup [q37, q65])⟩
def t155 : Tell := ⟨119, [q100], (.v (.bool false))⟩
def t156 : Tell := ⟨98, [q100], (.tup [q100, q101])⟩
def t157 : Tell := ⟨73, [q100], q101⟩
def t158 : Tell := ⟨41, [q102], (.tup [.agg [q37, q37, q37, q37, q37], q101])⟩
def t159 : Tell := ⟨62, [q102], (.tup [q99, q101])⟩
def t160 : Tell := ⟨32, [q102], (.tup [q84, q101])⟩
def u161 : TellH := ⟨76, [q85], [o86, o87, o88, o89, o90, o91, o92, o87, o93, o90, o94, o94, o94, o90, o94, o90, o95, o90, o95, none, none, none, none, none, o96, none], (.v (.bool true))⟩
def u162 : TellH := ⟨76, [q85], [o86, o87, o88, o89, o90, o91, o92, o87, o93, o90, o94, o94, o94, o103, o90, o90, o95, none, none, none, none, none, o96, none], (.v (.bool true))⟩
end Go.Ev
/- What calls answer that are met. Made by program. -/
namespace Go.Ev
set_option maxRecDepth 1000000
/- postil/leaf.isWord -/
theorem g0 : Good t0 := good [] trivial [] trivial (by kernel_rfl) (by kernel_rfl)
/- postil/leaf.isWord -/
theorem g1 : Good t1 := good [] trivial [] trivial (by kernel_rfl) (by kernel_rfl)
/- postil/leaf.isWord -/
theorem g2 : Good t2 := good [] trivial [] trivial (by kernel_rfl) (by kernel_rfl)
/- postil/leaf.isWord -/
theorem g3 : Good t3 := good [] trivial [] trivial (by kernel_rfl) (by kernel_rfl)
/- postil/leaf.isLines -/
theorem g4 : Good t4 := good [t0, t1, t2, t3] ⟨g0, g1, g2, g3, trivial⟩ [] trivial (by kernel_rfl) (by kernel_rfl)
/- postil/leaf.isWord -/
theorem g5 : Good t5 := good [] trivial [] trivial (by kernel_rfl) (by kernel_rfl)
/- postil/leaf.isLines -/
theorem g6 : Good t6 := good [t1, t5] ⟨g1, g5, trivial⟩ [] trivial (by kernel_rfl) (by kernel_rfl)
/- postil/leaf.isText -/
theorem g7 : Good t7 := good [t4, t6] ⟨g4, g6, trivial⟩ [] trivial (by kernel_rfl) (by kernel_rfl)
/- postil/leaf.begin -/
theorem g8 : Good t8 := good [t7] ⟨g7, trivial⟩ [] trivial (by kernel_rfl) (by kernel_rfl)
/- postil/leaf.Check -/
theorem g9 : Good t9 := good [t8] ⟨g8, trivial⟩ [] trivial (by kernel_rfl) (by kernel_rfl)
/- postil/proof.linesOf -/
theorem g10 : Good t10 := good [] trivial [] trivial (by kernel_rfl) (by kernel_rfl)
/- postil/proof.isReader -/
theorem g11 : Good t11 := good [] trivial [] trivial (by kernel_rfl) (by kernel_rfl)
/- postil/proof.isReader -/
theorem g12 : Good t12 := good [] trivial [] trivial (by kernel_rfl) (by kernel_rfl)
/- postil/proof.isReader -/
theorem g13 : Good t13 := good [] trivial [] trivial (by kernel_rfl) (by kernel_rfl)
/- postil/proof.areReaders -/
theorem g14 : Good t14 := good [t11, t12, t13] ⟨g11, g12, g13, trivial⟩ [] trivial (by kernel_rfl) (by kernel_rfl)
/- slices.Concat[[]postil/api.Place,postil/api.Place] -/
theorem g15 : Good t15 := good [] trivial [] trivial (by kernel_rfl) (by kernel_rfl)
/- (postil/proof.proofs).placesOf -/
theorem g16 : Good t16 := good [t15] ⟨g15, trivial⟩ [] trivial (by kernel_rfl) (by kernel_rfl)
/- slices.Concat[[]postil/api.Place,postil/api.Place] -/
theorem g17 : Good t17 := good [] trivial [] trivial (by kernel_rfl) (by kernel_rfl)
/- (postil/proof.proofs).placesOf -/
theorem g18 : Good t18 := good [t17] ⟨g17, trivial⟩ [] trivial (by kernel_rfl) (by kernel_rfl)
/- (postil/proof.proofs).arePages -/
theorem g19 : Good t19 := good [t16, t18] ⟨g16, g18, trivial⟩ [] trivial (by kernel_rfl) (by kernel_rfl)
/- postil/proof.begin -/
theorem g20 : Good t20 := good [t9, t10, t14, t19] ⟨g9, g10, g14, g19, trivial⟩ [] trivial (by kernel_rfl) (by kernel_rfl)
/- postil/proof.beginPage -/
theorem g21 : Good t21 := good [t20] ⟨g20, trivial⟩ [] trivial (by kernel_rfl) (by kernel_rfl)
/- postil/proof.Words -/
theorem g22 : Good t22 := good [t18, t21] ⟨g18, g21, trivial⟩ [] trivial (by kernel_rfl) (by kernel_rfl)
/- postil/proof.beginPage -/
theorem g23 : Good t23 := good [t20] ⟨g20, trivial⟩ [] trivial (by kernel_rfl) (by kernel_rfl)
/- postil/proof.both -/
theorem g24 : Good t24 := good [] trivial [] trivial (by kernel_rfl) (by kernel_rfl)
/- (postil/proof.proofs).found -/
theorem g25 : Good t25 := good [t16, t24] ⟨g16, g24, trivial⟩ [] trivial (by kernel_rfl) (by kernel_rfl)
/- postil/proof.Found -/
theorem g26 : Good t26 := good [t23, t25] ⟨g23, g25, trivial⟩ [] trivial (by kernel_rfl) (by kernel_rfl)
/- postil/proof.Both -/
theorem g27 : Good t27 := good [t23, t24] ⟨g23, g24, trivial⟩ [] trivial (by kernel_rfl) (by kernel_rfl)
/- postil/proof.guess -/
theorem g28 : Good t28 := good [t24] ⟨g24, trivial⟩ [] trivial (by kernel_rfl) (by kernel_rfl)
/- postil/proof.Guess -/
theorem g29 : Good t29 := good [t23, t24, t28] ⟨g23, g24, g28, trivial⟩ [] trivial (by kernel_rfl) (by kernel_rfl)
/- postil/proof.both -/
theorem g30 : Good t30 := good [] trivial [] trivial (by kernel_rfl) (by kernel_rfl)
/- (postil/proof.proofs).found -/
theorem g31 : Good t31 := good [t18, t30] ⟨g18, g30, trivial⟩ [] trivial (by kernel_rfl) (by kernel_rfl)
/- (postil/proof.proofs).bound -/
theorem g32 : Good t32 := good [] trivial [] trivial (by kernel_rfl) (by kernel_rfl)
/- (postil/proof.proofs).bound -/
theorem g33 : Good t33 := good [] trivial [] trivial (by kernel_rfl) (by kernel_rfl)
/- (postil/proof.proofs).bound -/
theorem g34 : Good t34 := good [] trivial [] trivial (by kernel_rfl) (by kernel_rfl)
/- (postil/proof.proofs).room -/
theorem g35 : Good t35 := good [t16, t18, t25, t31, t32, t33, t34] ⟨g16, g18, g25, g31, g32, g33, g34, trivial⟩ [] trivial (by kernel_rfl) (by kernel_rfl)
/- (postil/proof.room).only -/
theorem g36 : Good t36 := good [] trivial [] trivial (by kernel_rfl) (by kernel_rfl)
/- postil/proof.sum -/
theorem g37 : Good t37 := good [] trivial [] trivial (by kernel_rfl) (by kernel_rfl)
/- (postil/proof.room).proved -/
theorem g38 : Good t38 := good [t37] ⟨g37, trivial⟩ [] trivial (by kernel_rfl) (by kernel_rfl)
/- postil/proof.sum -/
theorem g39 : Good t39 := good [] trivial [] trivial (by kernel_rfl) (by kernel_rfl)
/- (postil/proof.room).proved -/
theorem g40 : Good t40 := good [t39] ⟨g39, trivial⟩ [] trivial (by kernel_rfl) (by kernel_rfl)
/- (postil/proof.room).proved -/
theorem g41 : Good t41 := good [t37] ⟨g37, trivial⟩ [] trivial (by kernel_rfl) (by kernel_rfl)
/- (postil/proof.room).proved -/
theorem g42 : Good t42 := good [t39] ⟨g39, trivial⟩ [] trivial (by kernel_rfl) (by kernel_rfl)
/- postil/proof.sum -/
theorem g43 : Good t43 := good [] trivial [] trivial (by kernel_rfl) (by kernel_rfl)
/- (postil/proof.room).proved -/
theorem g44 : Good t44 := good [t43] ⟨g43, trivial⟩ [] trivial (by kernel_rfl) (by kernel_rfl)
/- (postil/proof.room).proved -/
theorem g45 : Good t45 := good [t39] ⟨g39, trivial⟩ [] trivial (by kernel_rfl) (by kernel_rfl)
/- (postil/proof.room).proved -/
theorem g46 : Good t46 := good [t43] ⟨g43, trivial⟩ [] trivial (by kernel_rfl) (by kernel_rfl)
/- (postil/proof.room).proved -/
theorem g47 : Good t47 := good [t39] ⟨g39, trivial⟩ [] trivial (by kernel_rfl) (by kernel_rfl)
/- (postil/proof.room).most -/
theorem g48 : Good t48 := good [t38, t40, t41, t42, t44, t45, t46, t47] ⟨g38, g40, g41, g42, g44, g45, g46, g47, trivial⟩ [] trivial (by kernel_rfl) (by kernel_rfl)
/- (postil/proof.room).span -/
theorem g49 : Good t49 := good [t48] ⟨g48, trivial⟩ [] trivial (by kernel_rfl) (by kernel_rfl)
/- postil/proof.Remain -/
theorem g50 : Good t50 := good [t21, t35, t36, t49] ⟨g21, g35, g36, g49, trivial⟩ [] trivial (by kernel_rfl) (by kernel_rfl)
/- postil/proof.beginTrue -/
theorem g51 : Good t51 := good [t20, t35] ⟨g20, g35, trivial⟩ [] trivial (by kernel_rfl) (by kernel_rfl)
/- postil/proof.sum -/
theorem g52 : Good t52 := good [] trivial [] trivial (by kernel_rfl) (by kernel_rfl)
/- (postil/proof.room).proved -/
theorem g53 : Good t53 := good [t52] ⟨g52, trivial⟩ [] trivial (by kernel_rfl) (by kernel_rfl)
/- postil/proof.sum -/
theorem g54 : Good t54 := good [] trivial [] trivial (by kernel_rfl) (by kernel_rfl)
/- (postil/proof.room).proved -/
theorem g55 : Good t55 := good [t54] ⟨g54, trivial⟩ [] trivial (by kernel_rfl) (by kernel_rfl)
/- (postil/proof.room).proved -/
theorem g56 : Good t56 := good [t52] ⟨g52, trivial⟩ [] trivial (by kernel_rfl) (by kernel_rfl)
/- (postil/proof.room).proved -/
theorem g57 : Good t57 := good [t54] ⟨g54, trivial⟩ [] trivial (by kernel_rfl) (by kernel_rfl)
/- postil/proof.sum -/
theorem g58 : Good t58 := good [] trivial [] trivial (by kernel_rfl) (by kernel_rfl)
/- (postil/proof.room).proved -/
theorem g59 : Good t59 := good [t58] ⟨g58, trivial⟩ [] trivial (by kernel_rfl) (by kernel_rfl)
/- (postil/proof.room).proved -/
theorem g60 : Good t60 := good [t54] ⟨g54, trivial⟩ [] trivial (by kernel_rfl) (by kernel_rfl)
/- (postil/proof.room).proved -/
theorem g61 : Good t61 := good [t58] ⟨g58, trivial⟩ [] trivial (by kernel_rfl) (by kernel_rfl)
/- (postil/proof.room).proved -/
theorem g62 : Good t62 := good [t54] ⟨g54, trivial⟩ [] trivial (by kernel_rfl) (by kernel_rfl)
/- (postil/proof.room).most -/
theorem g63 : Good t63 := good [t53, t55, t56, t57, t59, t60, t61, t62] ⟨g53, g55, g56, g57, g59, g60, g61, g62, trivial⟩ [] trivial (by kernel_rfl) (by kernel_rfl)
/- (postil/proof.room).span -/
theorem g64 : Good t64 := good [t63] ⟨g63, trivial⟩ [] trivial (by kernel_rfl) (by kernel_rfl)
/- postil/proof.Total -/
theorem g65 : Good t65 := good [t51, t64] ⟨g51, g64, trivial⟩ [] trivial (by kernel_rfl) (by kernel_rfl)
/- (postil/proof.room).only -/
theorem g66 : Good t66 := good [] trivial [] trivial (by kernel_rfl) (by kernel_rfl)
/- postil/proof.sum -/
theorem g67 : Good t67 := good [] trivial [] trivial (by kernel_rfl) (by kernel_rfl)
/- (postil/proof.room).proved -/
theorem g68 : Good t68 := good [t67] ⟨g67, trivial⟩ [] trivial (by kernel_rfl) (by kernel_rfl)
/- postil/proof.sum -/
theorem g69 : Good t69 := good [] trivial [] trivial (by kernel_rfl) (by kernel_rfl)
/- (postil/proof.room).proved -/
theorem g70 : Good t70 := good [t69] ⟨g69, trivial⟩ [] trivial (by kernel_rfl) (by kernel_rfl)
/- (postil/proof.room).proved -/
theorem g71 : Good t71 := good [t67] ⟨g67, trivial⟩ [] trivial (by kernel_rfl) (by kernel_rfl)
/- (postil/proof.room).proved -/
theorem g72 : Good t72 := good [t69] ⟨g69, trivial⟩ [] trivial (by kernel_rfl) (by kernel_rfl)
/- postil/proof.sum -/
theorem g73 : Good t73 := good [] trivial [] trivial (by kernel_rfl) (by kernel_rfl)
/- (postil/proof.room).proved -/
theorem g74 : Good t74 := good [t73] ⟨g73, trivial⟩ [] trivial (by kernel_rfl) (by kernel_rfl)
/- (postil/proof.room).proved -/
theorem g75 : Good t75 := good [t69] ⟨g69, trivial⟩ [] trivial (by kernel_rfl) (by kernel_rfl)
/- (postil/proof.room).proved -/
theorem g76 : Good t76 := good [t73] ⟨g73, trivial⟩ [] trivial (by kernel_rfl) (by kernel_rfl)
/- (postil/proof.room).proved -/
theorem g77 : Good t77 := good [t69] ⟨g69, trivial⟩ [] trivial (by kernel_rfl) (by kernel_rfl)
/- (postil/proof.room).most -/
theorem g78 : Good t78 := good [t68, t70, t71, t72, t74, t75, t76, t77] ⟨g68, g70, g71, g72, g74, g75, g76, g77, trivial⟩ [] trivial (by kernel_rfl) (by kernel_rfl)
/- (postil/proof.room).only -/
theorem g79 : Good t79 := good [] trivial [] trivial (by kernel_rfl) (by kernel_rfl)
/- (postil/proof.room).less -/
theorem g80 : Good t80 := good [t79] ⟨g79, trivial⟩ [] trivial (by kernel_rfl) (by kernel_rfl)
/- (postil/proof.room).proved -/
theorem g81 : Good t81 := good [t37] ⟨g37, trivial⟩ [] trivial (by kernel_rfl) (by kernel_rfl)
/- (postil/proof.room).proved -/
theorem g82 : Good t82 := good [t39] ⟨g39, trivial⟩ [] trivial (by kernel_rfl) (by kernel_rfl)
/- (postil/proof.room).proved -/
theorem g83 : Good t83 := good [t37] ⟨g37, trivial⟩ [] trivial (by kernel_rfl) (by kernel_rfl)
/- (postil/proof.room).proved -/
theorem g84 : Good t84 := good [t39] ⟨g39, trivial⟩ [] trivial (by kernel_rfl) (by kernel_rfl)
/- (postil/proof.room).proved -/
theorem g85 : Good t85 := good [t43] ⟨g43, trivial⟩ [] trivial (by kernel_rfl) (by kernel_rfl)
/- (postil/proof.room).proved -/
theorem g86 : Good t86 := good [t39] ⟨g39, trivial⟩ [] trivial (by kernel_rfl) (by kernel_rfl)
/- (postil/proof.room).proved -/
theorem g87 : Good t87 := good [t43] ⟨g43, trivial⟩ [] trivial (by kernel_rfl) (by kernel_rfl)
/- (postil/proof.room).proved -/
theorem g88 : Good t88 := good [t39] ⟨g39, trivial⟩ [] trivial (by kernel_rfl) (by kernel_rfl)
/- (postil/proof.room).most -/
theorem g89 : Good t89 := good [t81, t82, t83, t84, t85, t86, t87, t88] ⟨g81, g82, g83, g84, g85, g86, g87, g88, trivial⟩ [] trivial (by kernel_rfl) (by kernel_rfl)
/- (postil/proof.room).only -/
theorem g90 : Good t90 := good [] trivial [] trivial (by kernel_rfl) (by kernel_rfl)
/- (postil/proof.room).only -/
theorem g91 : Good t91 := good [] trivial [] trivial (by kernel_rfl) (by kernel_rfl)
/- (postil/proof.room).less -/
theorem g92 : Good t92 := good [t91] ⟨g91, trivial⟩ [] trivial (by kernel_rfl) (by kernel_rfl)
/- postil/proof.sum -/
theorem g93 : Good t93 := good [] trivial [] trivial (by kernel_rfl) (by kernel_rfl)
/- (postil/proof.room).proved -/
theorem g94 : Good t94 := good [t93] ⟨g93, trivial⟩ [] trivial (by kernel_rfl) (by kernel_rfl)
/- postil/proof.sum -/
theorem g95 : Good t95 := good [] trivial [] trivial (by kernel_rfl) (by kernel_rfl)
/- (postil/proof.room).proved -/
theorem g96 : Good t96 := good [t95] ⟨g95, trivial⟩ [] trivial (by kernel_rfl) (by kernel_rfl)
/- (postil/proof.room).proved -/
theorem g97 : Good t97 := good [t93] ⟨g93, trivial⟩ [] trivial (by kernel_rfl) (by kernel_rfl)
/- (postil/proof.room).proved -/
theorem g98 : Good t98 := good [t95] ⟨g95, trivial⟩ [] trivial (by kernel_rfl) (by kernel_rfl)
/- postil/proof.sum -/
theorem g99 : Good t99 := good [] trivial [] trivial (by kernel_rfl) (by kernel_rfl)
/- (postil/proof.room).proved -/
theorem g100 : Good t100 := good [t99] ⟨g99, trivial⟩ [] trivial (by kernel_rfl) (by kernel_rfl)
/- (postil/proof.room).proved -/
theorem g101 : Good t101 := good [t95] ⟨g95, trivial⟩ [] trivial (by kernel_rfl) (by kernel_rfl)
/- (postil/proof.room).proved -/
theorem g102 : Good t102 := good [t99] ⟨g99, trivial⟩ [] trivial (by kernel_rfl) (by kernel_rfl)
/- (postil/proof.room).proved -/
theorem g103 : Good t103 := good [t95] ⟨g95, trivial⟩ [] trivial (by kernel_rfl) (by kernel_rfl)
/- (postil/proof.room).most -/
theorem g104 : Good t104 := good [t94, t96, t97, t98, t100, t101, t102, t103] ⟨g94, g96, g97, g98, g100, g101, g102, g103, trivial⟩ [] trivial (by kernel_rfl) (by kernel_rfl)
/- (postil/proof.room).worst -/
theorem g105 : Good t105 := good [t63, t66, t78, t80, t89, t90, t92, t104] ⟨g63, g66, g78, g80, g89, g90, g92, g104, trivial⟩ [] trivial (by kernel_rfl) (by kernel_rfl)
/- postil/proof.Worst -/
theorem g106 : Good t106 := good [t51, t105] ⟨g51, g105, trivial⟩ [] trivial (by kernel_rfl) (by kernel_rfl)
/- postil/proof.fewest$1 -/
theorem g107 : Good t107 := good [] trivial [] trivial (by kernel_rfl) (by kernel_rfl)
/- (postil/proof.room).why -/
theorem g108 : Good t108 := good [t53, t55, t56, t57, t59, t60, t61, t62, t63, t107] ⟨g53, g55, g56, g57, g59, g60, g61, g62, g63, g107, trivial⟩ [] trivial (by kernel_rfl) (by kernel_rfl)
/- postil/proof.Why -/
theorem g109 : Good t109 := good [t51, t108] ⟨g51, g108, trivial⟩ [] trivial (by kernel_rfl) (by kernel_rfl)
/- postil/postilref01.SamePlaces -/
theorem g110 : Good t110 := good [] trivial [] trivial (by kernel_rfl) (by kernel_rfl)
/- postil/postilref01.SamePlaces -/
theorem g111 : Good t111 := good [] trivial [] trivial (by kernel_rfl) (by kernel_rfl)
/- postil/proof.Bound -/
theorem g112 : Good t112 := good [t20, t32] ⟨g20, g32, trivial⟩ [] trivial (by kernel_rfl) (by kernel_rfl)
/- postil/postillaw09.bound -/
theorem g113 : Good t113 := good [t112] ⟨g112, trivial⟩ [] trivial (by kernel_rfl) (by kernel_rfl)
/- (postil/proof.room).only -/
theorem g114 : Good t114 := good [] trivial [] trivial (by kernel_rfl) (by kernel_rfl)
/- (postil/proof.room).only -/
theorem g115 : Good t115 := good [] trivial [] trivial (by kernel_rfl) (by kernel_rfl)
/- (postil/proof.room).only -/
theorem g116 : Good t116 := good [] trivial [] trivial (by kernel_rfl) (by kernel_rfl)
/- (postil/proof.room).proved -/
theorem g117 : Good t117 := good [t93] ⟨g93, trivial⟩ [] trivial (by kernel_rfl) (by kernel_rfl)
/- (postil/proof.room).proved -/
theorem g118 : Good t118 := good [t95] ⟨g95, trivial⟩ [] trivial (by kernel_rfl) (by kernel_rfl)
/- (postil/proof.room).proved -/
theorem g119 : Good t119 := good [t93] ⟨g93, trivial⟩ [] trivial (by kernel_rfl) (by kernel_rfl)
/- (postil/proof.room).proved -/
theorem g120 : Good t120 := good [t95] ⟨g95, trivial⟩ [] trivial (by kernel_rfl) (by kernel_rfl)
/- (postil/proof.room).proved -/
theorem g121 : Good t121 := good [t99] ⟨g99, trivial⟩ [] trivial (by kernel_rfl) (by kernel_rfl)
/- (postil/proof.room).proved -/
theorem g122 : Good t122 := good [t95] ⟨g95, trivial⟩ [] trivial (by kernel_rfl) (by kernel_rfl)
/- (postil/proof.room).proved -/
theorem g123 : Good t123 := good [t99] ⟨g99, trivial⟩ [] trivial (by kernel_rfl) (by kernel_rfl)
/- (postil/proof.room).proved -/
theorem g124 : Good t124 := good [t95] ⟨g95, trivial⟩ [] trivial (by kernel_rfl) (by kernel_rfl)
/- (postil/proof.room).most -/
theorem g125 : Good t125 := good [t117, t118, t119, t120, t121, t122, t123, t124] ⟨g117, g118, g119, g120, g121, g122, g123, g124, trivial⟩ [] trivial (by kernel_rfl) (by kernel_rfl)
/- (postil/proof.room).chief -/
theorem g126 : Good t126 := good [t48, t63, t78, t79, t114, t115, t116, t125] ⟨g48, g63, g78, g79, g114, g115, g116, g125, trivial⟩ [] trivial (by kernel_rfl) (by kernel_rfl)
/- postil/proof.Chief -/
theorem g127 : Good t127 := good [t20, t35, t126] ⟨g20, g35, g126, trivial⟩ [] trivial (by kernel_rfl) (by kernel_rfl)
/- postil/postillaw09.chief -/
theorem g128 : Good t128 := good [t127] ⟨g127, trivial⟩ [] trivial (by kernel_rfl) (by kernel_rfl)
/- postil/postillaw09.alive -/
theorem g129 : Good t129 := good [t22, t26, t27, t29, t50, t65, t106, t109, t110, t111, t113, t128] ⟨g22, g26, g27, g29, g50, g65, g106, g109, g110, g111, g113, g128, trivial⟩ [] trivial (by kernel_rfl) (by kernel_rfl)
/- postil/proof.Bound -/
theorem g130 : Good t130 := good [t20, t33] ⟨g20, g33, trivial⟩ [] trivial (by kernel_rfl) (by kernel_rfl)
/- postil/postillaw09.bound -/
theorem g131 : Good t131 := good [t130] ⟨g130, trivial⟩ [] trivial (by kernel_rfl) (by kernel_rfl)
/- postil/proof.Bound -/
theorem g132 : Good t132 := good [t20, t34] ⟨g20, g34, trivial⟩ [] trivial (by kernel_rfl) (by kernel_rfl)
/- postil/postillaw09.bound -/
theorem g133 : Good t133 := good [t132] ⟨g132, trivial⟩ [] trivial (by kernel_rfl) (by kernel_rfl)
/- postil/proof.fewest$1 -/
theorem g134 : Good t134 := good [] trivial [] trivial (by kernel_rfl) (by kernel_rfl)
/- postil/proof.fewest$1 -/
theorem g135 : Good t135 := good [] trivial [] trivial (by kernel_rfl) (by kernel_rfl)
/- postil/proof.fewest$1 -/
theorem g136 : Good t136 := good [] trivial [] trivial (by kernel_rfl) (by kernel_rfl)
/- (postil/proof.room).chief -/
theorem g137 : Good t137 := good [t48, t63, t78, t79, t114, t115, t116, t125, t134, t135, t136] ⟨g48, g63, g78, g79, g114, g115, g116, g125, g134, g135, g136, trivial⟩ [] trivial (by kernel_rfl) (by kernel_rfl)
/- postil/proof.Chief -/
theorem g138 : Good t138 := good [t20, t35, t137] ⟨g20, g35, g137, trivial⟩ [] trivial (by kernel_rfl) (by kernel_rfl)
/- postil/postillaw09.chief -/
theorem g139 : Good t139 := good [t138] ⟨g138, trivial⟩ [] trivial (by kernel_rfl) (by kernel_rfl)
/- postil/proof.Words -/
theorem g140 : Good t140 := good [t16, t23] ⟨g16, g23, trivial⟩ [] trivial (by kernel_rfl) (by kernel_rfl)
/- (postil/proof.room).span -/
theorem g141 : Good t141 := good [t78] ⟨g78, trivial⟩ [] trivial (by kernel_rfl) (by kernel_rfl)
/- postil/proof.Remain -/
theorem g142 : Good t142 := good [t23, t35, t66, t141] ⟨g23, g35, g66, g141, trivial⟩ [] trivial (by kernel_rfl) (by kernel_rfl)
/- postil/proof.beginPage -/
theorem g143 : Good t143 := good [t20] ⟨g20, trivial⟩ [] trivial (by kernel_rfl) (by kernel_rfl)
/- postil/proof.Words -/
theorem g144 : Good t144 := good [t143] ⟨g143, trivial⟩ [] trivial (by kernel_rfl) (by kernel_rfl)
/- postil/proof.Guess -/
theorem g145 : Good t145 := good [t21, t30] ⟨g21, g30, trivial⟩ [] trivial (by kernel_rfl) (by kernel_rfl)
/- postil/proof.Bound -/
theorem g146 : Good t146 := good [t20] ⟨g20, trivial⟩ [] trivial (by kernel_rfl) (by kernel_rfl)
/- postil/proof.isReader -/
theorem g147 : Good t147 := good [] trivial [] trivial (by kernel_rfl) (by kernel_rfl)
/- (postil/proof.proofs).arePages -/
theorem k148 : GoodM u148 := goodm [t15, t17] ⟨g15, g17, trivial⟩ [] trivial (by kernel_rfl) (by kernel_rfl)
/- (postil/proof.proofs).arePages -/
theorem k149 : GoodM u149 := goodm [t15, t17] ⟨g15, g17, trivial⟩ [] trivial (by kernel_rfl) (by kernel_rfl)
/- postil/proof.Remain -/
theorem k150 : GoodM u150 := goodm [t9, t10, t12, t13, t15, t17, t24, t30, t147] ⟨g9, g10, g12, g13, g15, g17, g24, g30, g147, trivial⟩ [u149] ⟨k149, trivial⟩ (by kernel_rfl) (by kernel_rfl)
/- (postil/proof.proofs).arePages -/
theorem k151 : GoodM u151 := goodm [t15, t17] ⟨g15, g17, trivial⟩ [] trivial (by kernel_rfl) (by kernel_rfl)
/- postil/proof.beginTrue -/
theorem k152 : GoodM u152 := goodm [t9, t10, t12, t13, t15, t17, t24, t30, t147] ⟨g9, g10, g12, g13, g15, g17, g24, g30, g147, trivial⟩ [u151] ⟨k151, trivial⟩ (by kernel_rfl) (by kernel_rfl)
/- (postil/proof.proofs).arePages -/
theorem k153 : GoodM u153 := goodm [t15, t17] ⟨g15, g17, trivial⟩ [] trivial (by kernel_rfl) (by kernel_rfl)
/- postil/proof.Chief -/
theorem k154 : GoodM u154 := goodm [t9, t10, t12, t13, t15, t17, t24, t30, t147] ⟨g9, g10, g12, g13, g15, g17, g24, g30, g147, trivial⟩ [u153] ⟨k153, trivial⟩ (by kernel_rfl) (by kernel_rfl)
/- postil/leaf.isText -/
theorem g155 : Good t155 := good [] trivial [] trivial (by kernel_rfl) (by kernel_rfl)
/- postil/leaf.begin -/
theorem g156 : Good t156 := good [t155] ⟨g155, trivial⟩ [] trivial (by kernel_rfl) (by kernel_rfl)
/- postil/leaf.Check -/
theorem g157 : Good t157 := good [t156] ⟨g156, trivial⟩ [] trivial (by kernel_rfl) (by kernel_rfl)
/- postil/proof.begin -/
theorem g158 : Good t158 := good [t157] ⟨g157, trivial⟩ [] trivial (by kernel_rfl) (by kernel_rfl)
/- postil/proof.beginTrue -/
theorem g159 : Good t159 := good [t158] ⟨g158, trivial⟩ [] trivial (by kernel_rfl) (by kernel_rfl)
/- postil/proof.Total -/
theorem g160 : Good t160 := good [t159] ⟨g159, trivial⟩ [] trivial (by kernel_rfl) (by kernel_rfl)
/- (postil/proof.proofs).arePages -/
theorem k161 : GoodM u161 := goodm [t15, t17] ⟨g15, g17, trivial⟩ [] trivial (by kernel_rfl) (by kernel_rfl)
/- (postil/proof.proofs).arePages -/
theorem k162 : GoodM u162 := goodm [t15, t17] ⟨g15, g17, trivial⟩ [] trivial (by kernel_rfl) (by kernel_rfl)
end Go.Ev
/- The whole, of its parts. Made by program. -/
namespace Go.Ev
set_option maxRecDepth 1000000
theorem gAll : Good ⟨5, [], .v (.bool true)⟩ := good [t9, t10, t11, t12, t13, t15, t24, t28, t129, t131, t133, t139, t140, t142, t144, t145, t146, t147, t160] ⟨g9, g10, g11, g12, g13, g15, g24, g28, g129, g131, g133, g139, g140, g142, g144, g145, g146, g147, g160, trivial⟩ [u148, u150, u152, u153, u154, u161, u162] ⟨k148, k150, k152, k153, k154, k161, k162, trivial⟩ (by kernel_rfl) (by kernel_rfl)
end Go.Ev
